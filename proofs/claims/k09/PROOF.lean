import PyProof.Rows.All
import Wide.All
import OpenK.AllK
import Wide.FinOn
import HandS.ForMost
import HandS.TupAny
import HandS.Zip
import HandS.IsInst
import HandS.Walk
import HandS.SortInts
import HandS.Strs
import HandS.SetFor
import KE.GoesMore
import KE.GoesEnum
import HandS.SortKw
import PyProof.WalksMore
import HandS.Evl
import HandS.Conv
import PyProof.Draws
import KE.KItemsList
import HandS.Gcd
import KE.KMathGC
import HandS.Deep
import HandS.Wide
import HandS.TupLe
import PyProof.ListNew
import HandS.GenList
import HandS.Sort
import HandS.ExcInit
import HandS.WordsExc
import HandS.FStr
import KE.KExcSuper
import KE.KSuper
import HandS.ExcOwn
import HandS.ExcField
import HandS.TupMul
import HandS.Style
import PyProof.CallType
import PyProof.P3In
import PyProof.Rows.SeqMore
import KE.SortData
import KE.SortLaws
import KE.SortKeyHeap
import HandS.WordsDict
import HandS.ExcIs
import KE.KExcIs
import KE.DataMinMax
import PyProof.Claim2Refuses
import HandS.Flow
import HandS.Small
import PySem.Challenge.RW_leastmoved_k09_refusals_of_assignments
set_option Elab.async false
set_option linter.all false
set_option maxRecDepth 100000
set_option maxHeartbeats 4000000
namespace Lm
open PySem PySem.Spec PyProof.Rows L2

/-- what is around: the written part, and (perhaps) the stream with the script's copy -/
structure Ct where
  K : PySem.W.Frag
  so : Option (Addr × Addr)
def okA (c : Ct) (a : Addr) : Prop := ∀ st l, c.so = some (st, l) → a ≠ st
/-- the stream at st: a copy of the script at l, a cell, a place -/
def Str1 (K : PySem.W.Frag) (st l : Addr) (H : Hp) : Prop :=
  ∃ (ns : List Int) (x k : Int), H st = some (.lst [.ref l, .int x, .int k]) ∧ H l = some (.lst (ns.map V.int)) ∧ l ≠ st ∧ 0 ≤ k
def Ji (c : Ct) (H : Hp) : Prop := ∀ st l, c.so = some (st, l) → Str1 c.K st l H
def Rr (c : Ct) (H H' : Hp) : Prop := (∀ a o, okA c a → H a = some o → H' a = some o) ∧ (Ji c H → Ji c H')
variable {c : Ct} {H H' H0 H1 H2 H3 : Hp}
theorem Rr.rf : Rr c H H := ⟨fun _ _ _ h => h, fun h => h⟩
theorem Rr.tr (a : Rr c H H1) (b : Rr c H1 H2) : Rr c H H2 := ⟨fun x o k h => b.1 x o k (a.1 x o k h), fun h => b.2 (a.2 h)⟩
theorem Ji.same (j : Ji c H) (e : Same H H') : Ji c H' := fun st l h => by
  obtain ⟨ns, x, k, h1, h2, h3, h4⟩ := j st l h
  exact ⟨ns, x, k, e _ _ h1, e _ _ h2, h3, h4⟩
theorem Rr.same (e : Same H H') : Rr c H H' := ⟨fun x o _ h => e x o h, fun j => j.same e⟩
theorem okA.fresh (j : Ji c H) {p : Addr} (h : H p = none) : okA c p := fun st l e z => by
  obtain ⟨ns, x, k, h1, _⟩ := j st l e
  rw [z, h1] at h
  cases h
theorem okA.tup (j : Ji c H) {p : Addr} {o : HO} (h : H p = some o) (n : ∀ xs, o ≠ .lst xs) : okA c p := fun st l e z => by
  obtain ⟨ns, x, k, h1, _⟩ := j st l e
  rw [z, h1] at h
  exact n _ (Option.some.inj h).symm
theorem Rr.back (r : Rr c H H') (j : Ji c H) {p : Addr} (h : H' p = none) : H p = none := by
  cases q : H p with
  | none => rfl
  | some o =>
    have k : okA c p := fun st l e z => by
      obtain ⟨ns, x, k, h1, _⟩ := r.2 j st l e
      rw [z, h1] at h
      cases h
    rw [r.1 p o k q] at h
    cases h
/-- a tuple (one that has no dict of its own) -/
def TpN (K : PySem.W.Frag) (H : Hp) (a : Addr) (xs : List V) : Prop :=
  (∃ o : Obj, o.dict = none ∧ H a = some (.frz o (.tup xs))) ∨
    ∃ (o : Obj) (its : Array Value) (n : Nat), K.lookup a = some o ∧ o.cls = .type "tuple" ∧ o.dict = none ∧ o.data = .seq its n ∧ its.size ≤ sizeLine ∧ Vals xs its.toList
theorem TpN.sq {K : PySem.W.Frag} {a : Addr} {xs : List V} (h : TpN K H a xs) : SqT K H a xs := by
  rcases h with ⟨o, _, h⟩ | ⟨o, its, n, h1, h2, _, h3, h4, h5⟩
  · exact .inl (.inr ⟨o, h⟩)
  · exact .inr ⟨o, its, n, h1, h2, h3, h4, h5⟩
theorem Rr.tup (r : Rr c H H') (j : Ji c H) {a : Addr} {xs : List V} (h : TpN c.K H a xs) : TpN c.K H' a xs := by
  rcases h with ⟨o, q, h⟩ | h
  · exact .inl ⟨o, q, r.1 _ _ (okA.tup j h (fun _ => by simp)) h⟩
  · exact .inr h
theorem Rr.lst (r : Rr c H H') {a : Addr} {xs : List V} (k : okA c a) (h : SqL c.K H a xs) : SqL c.K H' a xs := by
  rcases h with (h | ⟨o, h⟩) | h
  · exact .inl (.inl (r.1 _ _ k h))
  · exact .inl (.inr ⟨o, r.1 _ _ k h⟩)
  · exact .inr h

/-! ### values as data: ints, texts, tuples; lists whose addresses are not the stream's -/
mutual
inductive Bo (c : Ct) (H : Hp) : V → PyData → Prop
  | non : Bo c H .non .none
  | bl (b : Bool) : Bo c H (.bl b) (.bool b)
  | int (i : Int) : Bo c H (.int i) (.int i)
  | str (x : Str) : Bo c H (.str x) (.str x)
  | lst {a : Addr} {xs : List V} {ds : List PyData} : okA c a → SqL c.K H a xs → BoAll c H xs ds → Bo c H (.ref a) (.list ds)
  | tup {a : Addr} {xs : List V} {ds : List PyData} : TpN c.K H a xs → BoAll c H xs ds → Bo c H (.ref a) (.tuple ds)
inductive BoAll (c : Ct) (H : Hp) : List V → List PyData → Prop
  | nil : BoAll c H [] []
  | cons {v : V} {vs : List V} {d : PyData} {ds : List PyData} : Bo c H v d → BoAll c H vs ds → BoAll c H (v :: vs) (d :: ds)
end
mutual
theorem Bo.up (h : ∀ a xs, TpN c.K H a xs → TpN c.K H' a xs) (g : ∀ a xs, okA c a → SqL c.K H a xs → SqL c.K H' a xs) : ∀ {v : V} {d : PyData}, Bo c H v d → Bo c H' v d
  | _, _, .non => .non
  | _, _, .bl b => .bl b
  | _, _, .int b => .int b
  | _, _, .str b => .str b
  | _, _, .lst k s a => .lst k (g _ _ k s) (BoAll.up h g a)
  | _, _, .tup s a => .tup (h _ _ s) (BoAll.up h g a)
theorem BoAll.up (h : ∀ a xs, TpN c.K H a xs → TpN c.K H' a xs) (g : ∀ a xs, okA c a → SqL c.K H a xs → SqL c.K H' a xs) : ∀ {v : List V} {d : List PyData}, BoAll c H v d → BoAll c H' v d
  | _, _, .nil => .nil
  | _, _, .cons a b => .cons (Bo.up h g a) (BoAll.up h g b)
end
theorem Bo.mono (j : Ji c H) (r : Rr c H H') {v : V} {d : PyData} (h : Bo c H v d) : Bo c H' v d := h.up (fun _ _ s => r.tup j s) (fun _ _ k s => r.lst k s)
theorem BoAll.mono (j : Ji c H) (r : Rr c H H') {v : List V} {d : List PyData} (h : BoAll c H v d) : BoAll c H' v d := h.up (fun _ _ s => r.tup j s) (fun _ _ k s => r.lst k s)
theorem sqT_same {K : PySem.W.Frag} (e : Same H H') {a : Addr} {xs : List V} (h : TpN K H a xs) : TpN K H' a xs := by
  rcases h with ⟨o, q, h⟩ | h
  · exact .inl ⟨o, q, e _ _ h⟩
  · exact .inr h
theorem Bo.same (e : Same H H') {v : V} {d : PyData} (h : Bo c H v d) : Bo c H' v d := h.up (fun _ _ s => sqT_same e s) (fun _ _ k s => e.seq s)
theorem BoAll.same (e : Same H H') {v : List V} {d : List PyData} (h : BoAll c H v d) : BoAll c H' v d := h.up (fun _ _ s => sqT_same e s) (fun _ _ k s => e.seq s)
theorem BoAll.len : ∀ {v : List V} {d : List PyData}, BoAll c H v d → v.length = d.length
  | _, _, .nil => rfl
  | _, _, .cons _ b => by simp [BoAll.len b]
theorem BoAll.get : ∀ {v : List V} {d : List PyData} {i : Nat} {x : V}, BoAll c H v d → v[i]? = some x → ∃ e, d[i]? = some e ∧ Bo c H x e
  | _, _, _, _, .nil, h => by simp at h
  | _, _, 0, x, .cons a b, h => by
    have e : _ = x := Option.some.inj h
    subst e
    exact ⟨_, rfl, a⟩
  | _, _, i + 1, x, .cons a b, h => BoAll.get (i := i) b (by simpa using h)
theorem BoAll.gets : ∀ {v : List V} {d : List PyData} {i : Nat} {e : PyData}, BoAll c H v d → d[i]? = some e → ∃ x, v[i]? = some x ∧ Bo c H x e
  | _, _, _, _, .nil, h => by simp at h
  | _, _, 0, x, .cons a b, h => by
    have e : _ = x := Option.some.inj h
    subst e
    exact ⟨_, rfl, a⟩
  | _, _, i + 1, x, .cons a b, h => BoAll.gets (i := i) b (by simpa using h)
theorem BoAll.app : ∀ {v w : List V} {d e : List PyData}, BoAll c H v d → BoAll c H w e → BoAll c H (v ++ w) (d ++ e)
  | _, _, _, _, .nil, b => b
  | _, _, _, _, .cons a r, b => .cons a (BoAll.app r b)
theorem BoAll.set : ∀ {v : List V} {d : List PyData} {i : Nat} {x : V} {e : PyData}, BoAll c H v d → Bo c H x e → BoAll c H (v.set i x) (d.set i e)
  | _, _, _, _, _, .nil, b => .nil
  | _, _, 0, _, _, .cons a r, b => .cons b r
  | _, _, i + 1, _, _, .cons a r, b => .cons a (BoAll.set r b)
theorem BoAll.take : ∀ {v : List V} {d : List PyData} (i : Nat), BoAll c H v d → BoAll c H (v.take i) (d.take i)
  | _, _, 0, _ => .nil
  | _, _, i + 1, .nil => .nil
  | _, _, i + 1, .cons a b => .cons a (BoAll.take i b)
theorem BoAll.drop : ∀ {v : List V} {d : List PyData} (i : Nat), BoAll c H v d → BoAll c H (v.drop i) (d.drop i)
  | _, _, 0, h => h
  | _, _, i + 1, .nil => .nil
  | _, _, i + 1, .cons a b => BoAll.drop i b
theorem Bo.int' {v : V} {i : Int} (h : Bo c H v (.int i)) : v = .int i := by cases h; rfl
theorem Bo.bl' {v : V} {i : Bool} (h : Bo c H v (.bool i)) : v = .bl i := by cases h; rfl
theorem Bo.str' {v : V} {i : Str} (h : Bo c H v (.str i)) : v = .str i := by cases h; rfl
theorem Bo.tup' {v : V} {ds : List PyData} (h : Bo c H v (.tuple ds)) : ∃ a xs, v = .ref a ∧ TpN c.K H a xs ∧ BoAll c H xs ds := by cases h with | tup s a => exact ⟨_, _, rfl, s, a⟩
theorem Bo.lst' {v : V} {ds : List PyData} (h : Bo c H v (.list ds)) : ∃ a xs, v = .ref a ∧ okA c a ∧ SqL c.K H a xs ∧ BoAll c H xs ds := by cases h with | lst k s a => exact ⟨_, _, rfl, k, s, a⟩
theorem BoAll.ints : ∀ {v : List V} {ns : List Int}, BoAll c H v (ns.map PyData.int) → v = ns.map V.int
  | v, [], h => by cases h; rfl
  | v, n :: ns, h => by
    cases h with
    | cons a b => rw [a.int', BoAll.ints b]; rfl
theorem BoAll.ofInts : ∀ (ns : List Int), BoAll c H (ns.map V.int) (ns.map PyData.int)
  | [] => .nil
  | n :: ns => .cons (.int n) (BoAll.ofInts ns)
theorem BoAll.bools : ∀ {v : List V} {ns : List Bool}, BoAll c H v (ns.map PyData.bool) → v = ns.map V.bl
  | v, [], h => by cases h; rfl
  | v, n :: ns, h => by
    cases h with
    | cons a b => rw [a.bl', BoAll.bools b]; rfl
mutual
theorem Bo.dp : ∀ {v : V} {d : PyData}, Bo c H v d → Dp c.K H v d
  | _, _, .non => .non
  | _, _, .bl b => .bl b
  | _, _, .int b => .int b
  | _, _, .str b => .str b
  | _, _, .lst _ s a => .lst s (BoAll.dp a)
  | _, _, .tup s a => .tup s.sq (BoAll.dp a)
theorem BoAll.dp : ∀ {v : List V} {d : List PyData}, BoAll c H v d → DpAll c.K H v d
  | _, _, .nil => .nil
  | _, _, .cons a b => .cons (Bo.dp a) (BoAll.dp b)
end
/-! no stream, no care -/
mutual
theorem Bo.pure : ∀ {v : V} {d : PyData}, Bo c H v d → Bo ⟨c.K, none⟩ H v d
  | _, _, .non => .non
  | _, _, .bl b => .bl b
  | _, _, .int b => .int b
  | _, _, .str b => .str b
  | _, _, .lst _ s a => .lst (fun _ _ e => nomatch e) s (BoAll.pure a)
  | _, _, .tup s a => .tup s (BoAll.pure a)
theorem BoAll.pure : ∀ {v : List V} {d : List PyData}, BoAll c H v d → BoAll ⟨c.K, none⟩ H v d
  | _, _, .nil => .nil
  | _, _, .cons a b => .cons (Bo.pure a) (BoAll.pure b)
end
/-! data without lists -/
mutual
def flatD : PyData → Bool
  | .none => true
  | .bool _ => true
  | .int _ => true
  | .str _ => true
  | .tuple ds => flatAll ds
  | _ => false
def flatAll : List PyData → Bool
  | [] => true
  | d :: ds => flatD d && flatAll ds
end
theorem flatAll_ints (ns : List Int) : flatAll (ns.map PyData.int) = true := by
  induction ns with
  | nil => rfl
  | cons n ns ih =>
    show (flatD (.int n) && flatAll (ns.map PyData.int)) = true
    rw [ih]
    rfl
theorem flatAll_mem {ds : List PyData} (h : ∀ d ∈ ds, flatD d = true) : flatAll ds = true := by
  induction ds with
  | nil => rfl
  | cons d ds ih =>
    show (flatD d && flatAll ds) = true
    rw [h d (by simp), ih fun e he => h e (by simp [he])]
    rfl
mutual
theorem Bo.flat {c' : Ct} (hk : c'.K = c.K) : ∀ {v : V} {d : PyData}, flatD d = true → Bo c H v d → Bo c' H v d
  | _, _, _, .non => .non
  | _, _, _, .bl b => .bl b
  | _, _, _, .int b => .int b
  | _, _, _, .str b => .str b
  | _, _, q, .lst _ s a => by simp [flatD] at q
  | _, _, q, .tup s a => .tup (by rw [hk]; exact s) (BoAll.flat hk (by simpa [flatD] using q) a)
theorem BoAll.flat {c' : Ct} (hk : c'.K = c.K) : ∀ {v : List V} {d : List PyData}, flatAll d = true → BoAll c H v d → BoAll c' H v d
  | _, _, _, .nil => .nil
  | _, _, q, .cons a b => by
    have q' : (flatD _ && flatAll _) = true := q
    rw [Bool.and_eq_true] at q'
    exact .cons (Bo.flat hk q'.1 a) (BoAll.flat hk q'.2 b)
end

/-! ### the heap without some addresses -/
def mns (H : Hp) (O : List Addr) : Hp := fun a => if a ∈ O then none else H a
theorem mns_in {O : List Addr} {a : Addr} (h : a ∈ O) : mns H O a = none := if_pos h
theorem mns_out {O : List Addr} {a : Addr} (h : a ∉ O) : mns H O a = H a := if_neg h
theorem mns_same {O : List Addr} : Same (mns H O) H := fun a o h => by
  by_cases q : a ∈ O
  · rw [mns_in q] at h; cases h
  · rw [mns_out q] at h; exact h
theorem mns_some {O : List Addr} {a : Addr} {o : HO} (h : mns H O a = some o) : a ∉ O ∧ H a = some o := by
  by_cases q : a ∈ O
  · rw [mns_in q] at h; cases h
  · rw [mns_out q] at h; exact ⟨q, h⟩
theorem mns_sub {O O' : List Addr} (s : ∀ a, a ∈ O' → a ∈ O) : Same (mns H O) (mns H O') := fun a o h => by
  obtain ⟨q, h⟩ := mns_some h
  rw [mns_out (fun z => q (s a z))]
  exact h
theorem mns_nil : mns H [] = H := by
  funext a
  exact mns_out (by simp)
theorem Rr.mns {O : List Addr} (r : Rr c H H') (j : Ji c (mns H O)) (q : ∀ a ∈ O, okA c a) : Rr c (mns H O) (mns H' O) := by
  refine ⟨fun a o k h => ?_, fun _ st l e => ?_⟩
  · obtain ⟨n, h⟩ := mns_some h
    rw [mns_out n]
    exact r.1 a o k h
  · obtain ⟨ns, x, k, h1, h2, h3, h4⟩ := j st l e
    obtain ⟨n1, h1⟩ := mns_some h1
    obtain ⟨n2, h2⟩ := mns_some h2
    have jH : Ji c H := j.same mns_same
    obtain ⟨ns', x', k', g1, g2, g3, g4⟩ := r.2 jH st l e
    refine ⟨ns', x', k', ?_, ?_, g3, g4⟩
    · rw [mns_out n1]; exact g1
    · rw [mns_out n2]; exact g2
end Lm


namespace Lm
open PySem PySem.Spec PyProof.Rows L2
variable {c : Ct} {H H' H0 H1 H2 H3 : Hp} {O : List Addr}

/-! flat data leans on tuples alone -/
mutual
theorem Bo.flatTo {c' : Ct} (h : ∀ a xs, TpN c.K H a xs → TpN c'.K H' a xs) : ∀ {v : V} {d : PyData}, flatD d = true → Bo c H v d → Bo c' H' v d
  | _, _, _, .non => .non
  | _, _, _, .bl b => .bl b
  | _, _, _, .int b => .int b
  | _, _, _, .str b => .str b
  | _, _, q, .lst _ s a => by simp [flatD] at q
  | _, _, q, .tup s a => .tup (h _ _ s) (BoAll.flatTo h (by simpa [flatD] using q) a)
theorem BoAll.flatTo {c' : Ct} (h : ∀ a xs, TpN c.K H a xs → TpN c'.K H' a xs) : ∀ {v : List V} {d : List PyData}, flatAll d = true → BoAll c H v d → BoAll c' H' v d
  | _, _, _, .nil => .nil
  | _, _, q, .cons a b => by
    have q' : (flatD _ && flatAll _) = true := q
    rw [Bool.and_eq_true] at q'
    exact .cons (Bo.flatTo h q'.1 a) (BoAll.flatTo h q'.2 b)
end
/-- what may be written -/
def OwnU : HO → Prop
  | .lst _ => True
  | .dK _ => True
  | .dT _ => True
  | .set _ _ => True
  | _ => False
theorem sqT_mns {K : PySem.W.Frag} (hO : ∀ a ∈ O, ∃ u, H a = some u ∧ OwnU u) {a : Addr} {xs : List V} (h : TpN K H a xs) : TpN K (mns H O) a xs := by
  have n : ∀ u, H a = some u → ¬ OwnU u → mns H O a = some u := fun u e k => by
    have : a ∉ O := fun z => by
      obtain ⟨y, q, w⟩ := hO a z
      rw [q] at e
      exact k (Option.some.inj e ▸ w)
    rw [mns_out this]; exact e
  rcases h with ⟨o, q, h⟩ | h
  · exact .inl ⟨o, q, n _ h fun w => w⟩
  · exact .inr h
theorem sqT_updO {K : PySem.W.Frag} {p : Addr} {y o : HO} (hp : H p = some y) (hy : OwnU y) {a : Addr} {xs : List V} (h : TpN K H a xs) : TpN K (upd H p o) a xs := by
  have n : ∀ u, H a = some u → ¬ OwnU u → upd H p o a = some u := fun u e k => by
    have : a ≠ p := fun z => by
      rw [z, hp] at e
      exact k (Option.some.inj e ▸ hy)
    rw [upd_ne this]; exact e
  rcases h with ⟨o, q, h⟩ | h
  · exact .inl ⟨o, q, n _ h fun w => w⟩
  · exact .inr h
theorem sqT_upd {K : PySem.W.Frag} {p : Addr} {zs : List V} {o : HO} (hp : H p = some (.lst zs)) {a : Addr} {xs : List V} (h : TpN K H a xs) : TpN K (upd H p o) a xs := by
  have n : ∀ u, H a = some u → (∀ ys, u ≠ .lst ys) → upd H p o a = some u := fun u e k => by
    have : a ≠ p := fun z => by
      rw [z, hp] at e
      exact k zs (Option.some.inj e).symm
    rw [upd_ne this]; exact e
  rcases h with ⟨o, q, h⟩ | h
  · exact .inl ⟨o, q, n _ h fun _ => by simp⟩
  · exact .inr h

/-! ### lists of one's own: the addresses that may be written -/
mutual
inductive Fo (c : Ct) (H : Hp) : V → PyData → List Addr → Prop
  | leaf {v : V} {d : PyData} : flatD d = true → Bo c H v d → Fo c H v d []
  | lst {a : Addr} {xs : List V} {ds : List PyData} {fp : List Addr} : H a = some (.lst xs) → FoAll c H xs ds fp → Fo c H (.ref a) (.list ds) (a :: fp)
inductive FoAll (c : Ct) (H : Hp) : List V → List PyData → List Addr → Prop
  | nil : FoAll c H [] [] []
  | cons {v : V} {vs : List V} {d : PyData} {ds : List PyData} {f fs : List Addr} : Fo c H v d f → FoAll c H vs ds fs → FoAll c H (v :: vs) (d :: ds) (f ++ fs)
end
mutual
theorem Fo.up (h : ∀ a xs, TpN c.K H a xs → TpN c.K H' a xs) : ∀ {v : V} {d : PyData} {fp : List Addr}, (∀ a ∈ fp, ∀ o, H a = some o → H' a = some o) → Fo c H v d fp → Fo c H' v d fp
  | _, _, _, _, .leaf q b => .leaf q (b.flatTo h q)
  | _, _, _, k, .lst e a => .lst (k _ (by simp) _ e) (FoAll.up h (fun b hb => k b (by simp [hb])) a)
theorem FoAll.up (h : ∀ a xs, TpN c.K H a xs → TpN c.K H' a xs) : ∀ {v : List V} {d : List PyData} {fp : List Addr}, (∀ a ∈ fp, ∀ o, H a = some o → H' a = some o) → FoAll c H v d fp → FoAll c H' v d fp
  | _, _, _, _, .nil => .nil
  | _, _, _, k, .cons a b => .cons (Fo.up h (fun x hx => k x (by simp [hx])) a) (FoAll.up h (fun x hx => k x (by simp [hx])) b)
end
mutual
theorem Fo.bo : ∀ {v : V} {d : PyData} {fp : List Addr}, (∀ a ∈ fp, okA c a) → Fo c H v d fp → Bo c H v d
  | _, _, _, _, .leaf _ b => b
  | _, _, _, k, .lst e a => .lst (k _ (by simp)) (.inl (.inl e)) (FoAll.bo (fun b hb => k b (by simp [hb])) a)
theorem FoAll.bo : ∀ {v : List V} {d : List PyData} {fp : List Addr}, (∀ a ∈ fp, okA c a) → FoAll c H v d fp → BoAll c H v d
  | _, _, _, _, .nil => .nil
  | _, _, _, k, .cons a b => .cons (Fo.bo (fun x hx => k x (by simp [hx])) a) (FoAll.bo (fun x hx => k x (by simp [hx])) b)
end
theorem FoAll.leaves : ∀ {v : List V} {d : List PyData}, flatAll d = true → BoAll c H v d → FoAll c H v d []
  | _, _, _, .nil => .nil
  | _, _, q, .cons a b => by
    have q' : (flatD _ && flatAll _) = true := q
    rw [Bool.and_eq_true] at q'
    exact .cons (f := []) (fs := []) (.leaf q'.1 a) (FoAll.leaves q'.2 b)
mutual
theorem Fo.isL : ∀ {v : V} {d : PyData} {fp : List Addr}, Fo c H v d fp → ∀ a ∈ fp, ∃ xs, H a = some (.lst xs)
  | _, _, _, .leaf _ _, a, h => by simp at h
  | _, _, _, .lst e f, a, h => by
    rcases List.mem_cons.mp h with q | q
    · rw [q]; exact ⟨_, e⟩
    · exact FoAll.isL f a q
theorem FoAll.isL : ∀ {v : List V} {d : List PyData} {fp : List Addr}, FoAll c H v d fp → ∀ a ∈ fp, ∃ xs, H a = some (.lst xs)
  | _, _, _, .nil, a, h => by simp at h
  | _, _, _, .cons e f, a, h => by
    rcases List.mem_append.mp h with q | q
    · exact Fo.isL e a q
    · exact FoAll.isL f a q
end
theorem FoAll.app : ∀ {v w : List V} {d e : List PyData} {f g : List Addr}, FoAll c H v d f → FoAll c H w e g → FoAll c H (v ++ w) (d ++ e) (f ++ g)
  | _, _, _, _, _, _, .nil, b => b
  | _, _, _, _, _, _, .cons a r, b => by
    rw [List.append_assoc]
    exact .cons a (FoAll.app r b)
/-- a flat list of one's own -/
theorem Fo.list' {v : V} {ds : List PyData} {fp : List Addr} (h : Fo c H v (.list ds) fp) : ∃ a xs f, v = .ref a ∧ fp = a :: f ∧ H a = some (.lst xs) ∧ FoAll c H xs ds f := by
  cases h with
  | leaf q _ => simp [flatD] at q
  | lst e a => exact ⟨_, _, _, rfl, rfl, e, a⟩
theorem FoAll.flat0 : ∀ {v : List V} {d : List PyData} {f : List Addr}, flatAll d = true → FoAll c H v d f → f = [] ∧ BoAll c H v d
  | _, _, _, _, .nil => ⟨rfl, .nil⟩
  | _, _, _, q, .cons a b => by
    have q' : (flatD _ && flatAll _) = true := q
    rw [Bool.and_eq_true] at q'
    obtain ⟨e1, b1⟩ := FoAll.flat0 q'.2 b
    cases a with
    | leaf _ x => exact ⟨by rw [e1]; rfl, .cons x b1⟩
    | lst _ _ => simp [flatD] at q'

/-! ### what the slots hold -/
inductive Rs where
  /-- a value that will not change -/
  | v (d : PyData)
  /-- a list of one's own -/
  | o (d : PyData)
  /-- this very value -/
  | r (x : V)
  /-- a dict or set of one's own -/
  | d (u : HO)
  /-- a list of one's own whose items stay -/
  | w (ds : List PyData)
def RepO (c : Ct) (O : List Addr) (H : Hp) (x : Option V) : Option Rs → List Addr → Prop
  | none, fp => fp = []
  | some (.v d), fp => fp = [] ∧ ∃ v, x = some v ∧ Bo c (mns H O) v d
  | some (.o d), fp => ∃ v, x = some v ∧ Fo c H v d fp
  | some (.r y), fp => fp = [] ∧ x = some y
  | some (.d u), fp => ∃ a, fp = [a] ∧ x = some (.ref a) ∧ H a = some u ∧ OwnU u
  | some (.w ds), fp => ∃ a xs, fp = [a] ∧ x = some (.ref a) ∧ H a = some (.lst xs) ∧ BoAll c (mns H O) xs ds
inductive Reps (c : Ct) (O : List Addr) (H : Hp) : L2.St → List (Option Rs) → List Addr → Prop
  | nil : Reps c O H [] [] []
  | cons {x : Option V} {s : Option Rs} {f fs : List Addr} {σ : L2.St} {Γ : List (Option Rs)} : RepO c O H x s f → Reps c O H σ Γ fs → Reps c O H (x :: σ) (s :: Γ) (f ++ fs)
theorem Reps.len {σ : L2.St} {Γ : List (Option Rs)} {fp : List Addr} (h : Reps c O H σ Γ fp) : σ.length = Γ.length := by
  induction h with
  | nil => rfl
  | cons _ _ ih => simp [ih]
theorem Reps.map {O' : List Addr} {σ : L2.St} {Γ : List (Option Rs)} {fp : List Addr} (h : Reps c O H σ Γ fp) (k : ∀ x s f, (∀ a ∈ f, a ∈ fp) → RepO c O H x s f → RepO c O' H' x s f) : Reps c O' H' σ Γ fp := by
  induction h with
  | nil => exact .nil
  | cons a b ih => exact .cons (k _ _ _ (fun x hx => by simp [hx]) a) (ih fun x s f q => k x s f fun y hy => by simp [q y hy])
/-- the i-th slot, and how it is changed -/
theorem Reps.nth {σ : L2.St} {Γ : List (Option Rs)} {fp : List Addr} (h : Reps c O H σ Γ fp) : ∀ {i : Nat} {s : Option Rs}, Γ[i]? = some s →
    ∃ x f pre post, σ[i]? = some x ∧ RepO c O H x s f ∧ fp = pre ++ (f ++ post) ∧
      ∀ (O' : List Addr) (H' : Hp) (x' : Option V) (s' : Option Rs) (f' : List Addr), (∀ y t g, (∀ a ∈ g, a ∈ pre ++ post) → RepO c O H y t g → RepO c O' H' y t g) → RepO c O' H' x' s' f' → Reps c O' H' (σ.set i x') (Γ.set i s') (pre ++ (f' ++ post)) := by
  induction h with
  | nil => intro i s e; simp at e
  | cons a b ih =>
    rename_i x0 s0 f0 fs0 σ0 Γ0
    intro i s e
    cases i with
    | zero =>
      have e' : s0 = s := by simpa using e
      subst e'
      refine ⟨x0, f0, [], fs0, rfl, a, rfl, fun O' H' x' s' f' k r => ?_⟩
      show Reps c O' H' (x' :: σ0) (s' :: Γ0) (f' ++ fs0)
      exact .cons r (b.map fun y t g q z => k y t g (fun u hu => by simpa using q u hu) z)
    | succ i =>
      obtain ⟨x, f, pre, post, h1, h2, h3, h4⟩ := ih (i := i) (by simpa using e)
      refine ⟨x, f, f0 ++ pre, post, by simpa using h1, h2, by rw [h3]; simp, fun O' H' x' s' f' k r => ?_⟩
      have := h4 O' H' x' s' f' (fun y t g q z => k y t g (fun u hu => by have := q u hu; simp at this ⊢; rcases this with w | w <;> simp [w]) z) r
      rw [List.append_assoc]
      exact .cons (k _ _ _ (fun u hu => by simp [hu]) a) this

/-- the entry's heap H0, the addresses of one's own O, the heap H, the slots σ and what they hold -/
structure Env (c : Ct) (H0 : Hp) (O : List Addr) (H : Hp) (σ : L2.St) (Γ : List (Option Rs)) : Prop where
  r0 : Rr c H0 (mns H O)
  j : Ji c (mns H O)
  fr : ∀ a ∈ O, H0 a = none
  dm : ∀ a ∈ O, ∃ u, H a = some u ∧ OwnU u
  rep : ∃ fp, Reps c O H σ Γ fp ∧ fp.Nodup ∧ ∀ a ∈ fp, a ∈ O
variable {σ : L2.St} {Γ : List (Option Rs)}
theorem Env.jH (e : Env c H0 O H σ Γ) : Ji c H := e.j.same mns_same
theorem Env.okO (e : Env c H0 O H σ Γ) : ∀ a ∈ O, okA c a := fun a ha st l q z => by
  obtain ⟨ns, x, k, h1, _⟩ := e.j st l q
  rw [← z, mns_in ha] at h1
  cases h1
theorem Env.rH (e : Env c H0 O H σ Γ) : Rr c H0 H := e.r0.tr (Rr.same mns_same)
theorem Env.len (e : Env c H0 O H σ Γ) : σ.length = Γ.length := let ⟨_, h, _⟩ := e.rep; h.len
/-- the heap goes on -/
theorem Env.on (e : Env c H0 O H σ Γ) (r : Rr c H H') : Env c H0 O H' σ Γ := by
  have rm := r.mns e.j e.okO
  refine ⟨e.r0.tr rm, rm.2 e.j, e.fr, fun a ha => ?_, ?_⟩
  · obtain ⟨u, q, w⟩ := e.dm a ha
    exact ⟨u, r.1 a _ (e.okO a ha) q, w⟩
  · obtain ⟨fp, h, nd, sub⟩ := e.rep
    refine ⟨fp, h.map fun x s f q z => ?_, nd, sub⟩
    cases s with
    | none => exact z
    | some s =>
      cases s with
      | v d => exact ⟨z.1, z.2.elim fun v hv => ⟨v, hv.1, hv.2.mono e.j rm⟩⟩
      | o d => exact z.elim fun v hv => ⟨v, hv.1, hv.2.up (fun _ _ s => r.tup e.jH s) fun a ha o ho => r.1 a o (e.okO a (sub a (q a ha))) ho⟩
      | r y => exact z
      | d u => exact z.elim fun a ⟨w1, w2, w3, w4⟩ => ⟨a, w1, w2, r.1 a _ (e.okO a (sub a (q a (by rw [w1]; simp)))) w3, w4⟩
      | w ds => exact z.elim fun a ⟨xs, w1, w2, w3, w4⟩ => ⟨a, xs, w1, w2, r.1 a _ (e.okO a (sub a (q a (by rw [w1]; simp)))) w3, w4.mono e.j rm⟩
theorem Env.slotV (e : Env c H0 O H σ Γ) {i : Nat} {d : PyData} (h : Γ[i]? = some (some (.v d))) : ∃ v, σ[i]? = some (some v) ∧ Bo c (mns H O) v d := by
  obtain ⟨fp, hr, nd, sub⟩ := e.rep
  obtain ⟨x, f, pre, post, h1, h2, h3, h4⟩ := hr.nth h
  obtain ⟨v, hv, b⟩ := h2.2
  subst hv
  exact ⟨v, h1, b⟩
theorem Env.slotO (e : Env c H0 O H σ Γ) {i : Nat} {d : PyData} (h : Γ[i]? = some (some (.o d))) : ∃ v fp, σ[i]? = some (some v) ∧ Fo c H v d fp ∧ fp.Nodup ∧ ∀ a ∈ fp, a ∈ O := by
  obtain ⟨fp, hr, nd, sub⟩ := e.rep
  obtain ⟨x, f, pre, post, h1, h2, h3, h4⟩ := hr.nth h
  obtain ⟨v, hv, b⟩ := h2
  subst hv
  subst h3
  have n2 := (List.nodup_append.mp nd).2.1
  exact ⟨v, f, h1, b, (List.nodup_append.mp n2).1, fun a ha => sub a (by simp [ha])⟩
theorem Env.slotR (e : Env c H0 O H σ Γ) {i : Nat} {y : V} (h : Γ[i]? = some (some (.r y))) : σ[i]? = some (some y) := by
  obtain ⟨fp, hr, nd, sub⟩ := e.rep
  obtain ⟨x, f, pre, post, h1, h2, h3, h4⟩ := hr.nth h
  have hy : x = some y := h2.2
  rw [h1, hy]
/-- any slot is given another value that does not change -/
theorem Env.setV (e : Env c H0 O H σ Γ) {i : Nat} {v : V} {d : PyData} (b : Bo c (mns H O) v d) : Env c H0 O H (σ.set i (some v)) (Γ.set i (some (.v d))) := by
  refine ⟨e.r0, e.j, e.fr, e.dm, ?_⟩
  obtain ⟨fp, hr, nd, sub⟩ := e.rep
  by_cases hi : i < Γ.length
  · obtain ⟨x, f, pre, post, h1, h2, h3, h4⟩ := hr.nth (s := Γ[i]) (List.getElem?_eq_getElem hi)
    subst h3
    refine ⟨pre ++ ([] ++ post), h4 O H _ _ [] (fun _ _ _ _ z => z) ⟨rfl, v, rfl, b⟩, ?_, fun a ha => sub a ?_⟩
    · refine nd.sublist ?_
      simp
    · simp at ha ⊢
      rcases ha with q | q <;> simp [q]
  · have hs : ¬ i < σ.length := by rw [hr.len]; exact hi
    rw [List.set_eq_of_length_le (by omega), List.set_eq_of_length_le (by omega)]
    exact ⟨fp, hr, nd, sub⟩
/-- a slot is forgotten, whatever it holds then -/
theorem Env.setN (e : Env c H0 O H σ Γ) {i : Nat} {x : Option V} : Env c H0 O H (σ.set i x) (Γ.set i none) := by
  refine ⟨e.r0, e.j, e.fr, e.dm, ?_⟩
  obtain ⟨fp, hr, nd, sub⟩ := e.rep
  by_cases hi : i < Γ.length
  · obtain ⟨y, f, pre, post, h1, h2, h3, h4⟩ := hr.nth (s := Γ[i]) (List.getElem?_eq_getElem hi)
    subst h3
    refine ⟨pre ++ ([] ++ post), h4 O H _ _ [] (fun _ _ _ _ z => z) rfl, ?_, fun a ha => sub a ?_⟩
    · refine nd.sublist ?_
      simp
    · simp at ha ⊢
      rcases ha with q | q <;> simp [q]
  · have hs : ¬ i < σ.length := by rw [hr.len]; exact hi
    rw [List.set_eq_of_length_le (by omega), List.set_eq_of_length_le (by omega)]
    exact ⟨fp, hr, nd, sub⟩
/-- a slot is given a new list -/
theorem Env.setO (e : Env c H0 O H σ Γ) (r : Rr c H H') {i : Nat} {v : V} {d : PyData} {f : List Addr} (b : Fo c H' v d f) (nd' : f.Nodup) (new : ∀ a ∈ f, H a = none) :
    Env c H0 (f ++ O) H' (σ.set i (some v)) (Γ.set i (some (.o d))) := by
  have e' := e.on r
  have hdis : ∀ a ∈ f, a ∉ O := fun a ha hO => by
    obtain ⟨xs, q, _⟩ := e.dm a hO
    rw [new a ha] at q
    cases q
  have hn : ∀ a ∈ f, mns H O a = none := fun a ha => by
    rw [mns_out (hdis a ha)]; exact new a ha
  have same : Same (mns H O) (mns H' (f ++ O)) → True := fun _ => trivial
  have hrm : Rr c (mns H O) (mns H' (f ++ O)) := by
    have rm := r.mns e.j e.okO
    refine ⟨fun a o k h => ?_, fun _ st l q => ?_⟩
    · have h' := rm.1 a o k h
      obtain ⟨n1, h'⟩ := mns_some h'
      have : a ∉ f := fun z => by rw [hn a z] at h; cases h
      rw [mns_out (by simp [this, n1])]
      exact h'
    · obtain ⟨ns, x, k, h1, h2, h3, h4⟩ := e.j st l q
      obtain ⟨ns', x', k', g1, g2, g3, g4⟩ := e'.j st l q
      obtain ⟨m1, g1⟩ := mns_some g1
      obtain ⟨m2, g2⟩ := mns_some g2
      have a1 : st ∉ f := fun z => by rw [hn _ z] at h1; cases h1
      have a2 : l ∉ f := fun z => by rw [hn _ z] at h2; cases h2
      exact ⟨ns', x', k', by rw [mns_out (by simp [a1, m1])]; exact g1, by rw [mns_out (by simp [a2, m2])]; exact g2, g3, g4⟩
  have jn : Ji c (mns H' (f ++ O)) := hrm.2 e.j
  refine ⟨e.r0.tr hrm, jn, fun a ha => ?_, fun a ha => ?_, ?_⟩
  · rcases List.mem_append.mp ha with q | q
    · have := e.r0
      cases h : H0 a with
      | none => rfl
      | some o =>
        have jH0 : okA c a := fun st l q' z => by
          obtain ⟨ns, x, k, h1, _⟩ := e.j st l q'
          rw [← z, hn a q] at h1
          cases h1
        have := e.r0.1 a o jH0 h
        rw [hn a q] at this
        cases this
    · exact e.fr a q
  · rcases List.mem_append.mp ha with q | q
    · exact (b.isL a q).elim fun xs h => ⟨_, h, trivial⟩
    · exact e'.dm a q
  · obtain ⟨fp, hr, nd, sub⟩ := e.rep
    have keep : ∀ y t g, (∀ a ∈ g, a ∈ O) → RepO c O H y t g → RepO c (f ++ O) H' y t g := fun y t g hg z => by
      cases t with
      | none => exact z
      | some t =>
        cases t with
        | v d => exact ⟨z.1, z.2.elim fun v hv => ⟨v, hv.1, hv.2.mono e.j hrm⟩⟩
        | o d => exact z.elim fun v hv => ⟨v, hv.1, hv.2.up (fun _ _ s => r.tup e.jH s) fun a ha o ho => r.1 a o (e.okO a (hg a ha)) ho⟩
        | r y => exact z
        | d u => exact z.elim fun a ⟨w1, w2, w3, w4⟩ => ⟨a, w1, w2, r.1 a _ (e.okO a (hg a (by rw [w1]; simp))) w3, w4⟩
        | w ds => exact z.elim fun a ⟨xs, w1, w2, w3, w4⟩ => ⟨a, xs, w1, w2, r.1 a _ (e.okO a (hg a (by rw [w1]; simp))) w3, w4.mono e.j hrm⟩
    by_cases hi : i < Γ.length
    · obtain ⟨x, g, pre, post, h1, h2, h3, h4⟩ := hr.nth (s := Γ[i]) (List.getElem?_eq_getElem hi)
      subst h3
      refine ⟨pre ++ (f ++ post), h4 _ _ _ _ f (fun y t g' q z => keep y t g' (fun a ha => sub a (by have := q a ha; simp at this ⊢; rcases this with w | w <;> simp [w])) z) ⟨v, rfl, b⟩, ?_, fun a ha => ?_⟩
      · have n0 : (pre ++ post).Nodup := nd.sublist (by simp)
        rw [List.nodup_append] at n0 ⊢
        refine ⟨n0.1, ?_, ?_⟩
        · rw [List.nodup_append]
          refine ⟨nd', n0.2.1, fun a ha b' hb q => ?_⟩
          subst q
          exact hdis a ha (sub a (by simp [hb]))
        · intro a ha b' hb q
          subst q
          rcases List.mem_append.mp hb with w | w
          · exact hdis a w (sub a (by simp [ha]))
          · exact n0.2.2 a ha a w rfl
      · simp only [List.mem_append] at ha ⊢
        rcases ha with q | q | q
        · exact .inr (sub a (by simp [q]))
        · exact .inl q
        · exact .inr (sub a (by simp [q]))
    · have hs : ¬ i < σ.length := by rw [hr.len]; exact hi
      rw [List.set_eq_of_length_le (by omega), List.set_eq_of_length_le (by omega)]
      exact ⟨fp, hr.map fun x s g q z => keep x s g (fun a ha => sub a (q a ha)) z, nd, fun a ha => by simp [sub a ha]⟩
/-- a list of one's own is written: the slot's list at p -/
theorem Env.write (e : Env c H0 O H σ Γ) {i : Nat} {ds es : List PyData} (h : Γ[i]? = some (some (.o (.list ds)))) :
    ∃ p xs f, σ[i]? = some (some (.ref p)) ∧ H p = some (.lst xs) ∧ FoAll c H xs ds f ∧ p ∉ f ∧ (∀ a ∈ f, a ∈ O) ∧
      ∀ ys : List V, FoAll c (upd H p (.lst ys)) ys es f → Env c H0 O (upd H p (.lst ys)) σ (Γ.set i (some (.o (.list es)))) := by
  obtain ⟨fp, hr, nd, sub⟩ := e.rep
  obtain ⟨x, f0, pre, post, h1, h2, h3, h4⟩ := hr.nth h
  obtain ⟨v, hv, b⟩ := h2
  subst hv
  obtain ⟨p, xs, f, rfl, rfl, hp, hfa⟩ := b.list'
  subst h3
  have hpO : p ∈ O := sub p (by simp)
  have n2 := (List.nodup_append.mp nd).2.1
  have hpf : p ∉ f := fun z => by
    have := (List.nodup_append.mp n2).1
    exact (List.nodup_cons.mp this).1 z
  refine ⟨p, xs, f, h1, hp, hfa, hpf, fun a ha => sub a (by simp [ha]), fun ys hy => ?_⟩
  have em : mns (upd H p (.lst ys)) O = mns H O := by
    funext a
    by_cases ha : a ∈ O
    · rw [mns_in ha, mns_in ha]
    · rw [mns_out ha, mns_out ha, upd_ne (fun z => ha (by rw [z]; exact hpO))]
  refine ⟨by rw [em]; exact e.r0, by rw [em]; exact e.j, e.fr, fun a ha => ?_, ?_⟩
  · by_cases q : a = p
    · rw [q]; exact ⟨_, upd_same, trivial⟩
    · rw [upd_ne q]; exact e.dm a ha
  · have hσ : σ.set i (some (.ref p)) = σ := by
      obtain ⟨hlt, e1⟩ := List.getElem?_eq_some_iff.mp h1
      rw [← e1]
      exact List.set_getElem_self hlt
    have := h4 O (upd H p (.lst ys)) (some (.ref p)) (some (.o (.list es))) (p :: f) (fun y t g q z => ?_) ⟨.ref p, rfl, .lst upd_same hy⟩
    · rw [hσ] at this
      exact ⟨_, this, nd, sub⟩
    · cases t with
      | none => exact z
      | some t =>
        cases t with
        | v d => exact ⟨z.1, z.2.elim fun v hv => ⟨v, hv.1, by rw [em]; exact hv.2⟩⟩
        | o d =>
          refine z.elim fun v hv => ⟨v, hv.1, hv.2.up (fun _ _ s => sqT_upd hp s) fun a ha o ho => ?_⟩
          have : a ≠ p := fun w => by
            subst w
            have hm := q a ha
            rcases List.mem_append.mp hm with u | u
            · exact (List.nodup_append.mp nd).2.2 a u a (by simp) rfl
            · exact (List.nodup_append.mp n2).2.2 a (by simp) a u rfl
          rw [upd_ne this]
          exact ho
        | r y => exact z
        | d u =>
          refine z.elim fun a ⟨w1, w2, w3, w4⟩ => ⟨a, w1, w2, ?_, w4⟩
          have : a ≠ p := fun w => by
            subst w
            have hm := q a (by rw [w1]; simp)
            rcases List.mem_append.mp hm with u | u
            · exact (List.nodup_append.mp nd).2.2 a u a (by simp) rfl
            · exact (List.nodup_append.mp n2).2.2 a (by simp) a u rfl
          rw [upd_ne this]
          exact w3
        | w ds =>
          refine z.elim fun a ⟨xs, w1, w2, w3, w4⟩ => ⟨a, xs, w1, w2, ?_, by rw [em]; exact w4⟩
          have : a ≠ p := fun w => by
            subst w
            have hm := q a (by rw [w1]; simp)
            rcases List.mem_append.mp hm with u | u
            · exact (List.nodup_append.mp nd).2.2 a u a (by simp) rfl
            · exact (List.nodup_append.mp n2).2.2 a (by simp) a u rfl
          rw [upd_ne this]
          exact w3
/-- from now on this list is not written -/
theorem Env.freeze (e : Env c H0 O H σ Γ) {i : Nat} {d : PyData} (h : Γ[i]? = some (some (.o d))) : ∃ O', Env c H0 O' H σ (Γ.set i (some (.v d))) ∧ Same (mns H O) (mns H O') := by
  obtain ⟨fp, hr, nd, sub⟩ := e.rep
  obtain ⟨x, f, pre, post, h1, h2, h3, h4⟩ := hr.nth h
  obtain ⟨v, hv, b⟩ := h2
  subst hv
  subst h3
  have n2 := (List.nodup_append.mp nd).2.1
  have dis : ∀ a ∈ pre ++ post, a ∉ f := fun a ha hf => by
    rcases List.mem_append.mp ha with u | u
    · exact (List.nodup_append.mp nd).2.2 a u a (by simp [hf]) rfl
    · exact (List.nodup_append.mp n2).2.2 a hf a u rfl
  have hm : ∀ a, a ∈ O.filter (fun a => !decide (a ∈ f)) ↔ a ∈ O ∧ a ∉ f := fun a => by simp [List.mem_filter]
  have sm : Same (mns H O) (mns H (O.filter fun a => !decide (a ∈ f))) := mns_sub fun a ha => ((hm a).mp ha).1
  refine ⟨O.filter fun a => !decide (a ∈ f), ⟨e.r0.tr (Rr.same sm), e.j.same sm, fun a ha => e.fr a ((hm a).mp ha).1, fun a ha => e.dm a ((hm a).mp ha).1, ?_⟩, sm⟩
  have hσ : σ.set i (some v) = σ := by
    obtain ⟨hlt, e1⟩ := List.getElem?_eq_some_iff.mp h1
    rw [← e1]
    exact List.set_getElem_self hlt
  have hb : Bo c (mns H (O.filter fun a => !decide (a ∈ f))) v d := by
    refine Fo.bo (fun a ha => e.okO a (sub a (by simp [ha]))) (b.up (fun a xs s => sqT_mns (fun b' hb' => e.dm b' ((hm b').mp hb').1) s) fun a ha o ho => ?_)
    rw [mns_out fun z => ((hm a).mp z).2 ha]
    exact ho
  have := h4 (O.filter fun a => !decide (a ∈ f)) H (some v) (some (.v d)) [] (fun y t g q z => ?_) ⟨rfl, v, rfl, hb⟩
  · rw [hσ] at this
    exact ⟨_, this, nd.sublist (by simp), fun a ha => (hm a).mpr ⟨sub a (by simp at ha ⊢; rcases ha with w | w <;> simp [w]), dis a (by simpa using ha)⟩⟩
  · cases t with
    | none => exact z
    | some t =>
      cases t with
      | v d => exact ⟨z.1, z.2.elim fun v hv => ⟨v, hv.1, hv.2.same sm⟩⟩
      | o d => exact z
      | r y => exact z
      | d u => exact z
      | w ds => exact z.elim fun a ⟨xs, w1, w2, w3, w4⟩ => ⟨a, xs, w1, w2, w3, w4.same sm⟩
/-- a later entry is as good as an earlier one -/
theorem Env.base (e : Env c H0 O H σ Γ) : Env c (mns H O) O H σ Γ := ⟨Rr.rf, e.j, fun a ha => mns_in ha, e.dm, e.rep⟩
theorem Env.fromB {O1 : List Addr} {σ1 : L2.St} {Γ1 : List (Option Rs)} (e : Env c H0 O H σ Γ) (e1 : Env c (mns H O) O1 H1 σ1 Γ1) : Env c H0 O1 H1 σ1 Γ1 :=
  ⟨e.r0.tr e1.r0, e1.j, (fun a ha => by
    have h1 := e1.fr a ha
    cases h : H0 a with
    | none => rfl
    | some o =>
      have k : okA c a := fun st l q z => by
        obtain ⟨ns, x, k, g1, _⟩ := e.j st l q
        rw [← z, h1] at g1
        cases g1
      have := e.r0.1 a o k h
      rw [h1] at this
      cases this), e1.dm, e1.rep⟩
end Lm


namespace Lm
open PySem PySem.Spec PyProof.Rows L2
section
variable {X : Cx} {H : Hp}
def NewT (H : Hp) (xs : List V) (Q : VK) : Prop := ∀ p o, o.dict = none → H p = none → Q (.ref p) (upd H p (.frz o (.tup xs)))
theorem newT {pins : List (Addr × Obj)} {σ : L2.St} {s : Shared} {xs : List V} {us : List Value} {Q : VK} (I : Inv X pins σ H s) (r : Vals xs us) (z : xs.length ≤ sizeLine) (q : NewT H xs Q) :
    EP X pins σ Q (.ref s.heap.objs.size) { s with heap := s.heap.push { cls := .type "tuple", data := .seq us.toArray } } := by
  refine ⟨.ref s.heap.objs.size, upd H s.heap.objs.size (.frz { cls := .type "tuple", data := .seq us.toArray } (.tup xs)), I.laid (t' := s.toks) (fun b u e => Heap.get?_push_of_some _ e) (Nat.le_refl _) ?_, rfl, q _ _ rfl (I.hok.fresh (Nat.le_refl _))⟩
  exact ⟨Heap.get?_push_size _ rfl, z, us, r, ⟨_, Heap.get?_push_size _ rfl, rfl, _, rfl⟩⟩
def tTupN (t : TA) : TE := fun σ H Q => t σ H fun xs H1 => xs.length ≤ sizeLine ∧ NewT H1 xs Q
theorem pe_tupN {es : List Expr} {t : TA} {pos : Pos} {x1} (h : PA X es t) : PE X (.Tuple es x1 pos) (tTupN t) := by
  refine ⟨fun pins s σ H Q I hq => ?_⟩
  refine wpAny_Tuple_spliced (thn (h.run pos pins s σ H _ I hq) fun us s1 ⟨xs, H1, I1, r, z, q⟩ => ⟨by rw [← r.length]; exact z, ?_⟩)
  exact newT I1 r z q
/-- tuple(list), tuple(tuple) -/
def rTuple (K : PySem.W.Frag) : List V → Hp → VK → Prop := fun xs H Q => ∃ p ys, xs = [.ref p] ∧ ((SqL K H p ys ∧ NewT H ys Q) ∨ (SqT K H p ys ∧ Q (.ref p) H))
theorem cr_tuple : CallR X (.type "tuple") (rTuple X.K) := by
  intro pins s σ H xs us Q I r h
  obtain ⟨p, ys, rfl, h⟩ := h
  obtain ⟨u, rfl, rx⟩ := vals1 r
  cases rx
  rcases h with ⟨hq, q⟩ | ⟨hq, q⟩
  · obtain ⟨its, r', pl, hz⟩ := I.list hq
    have hlen := r'.length
    refine call_tuple_list pl.isList (fun h' kp => ?_) (by simp only [List.size_toArray] <;> omega)
    have I1 : Inv X pins σ H { s with heap := h' } := I.kept (t' := s.toks) kp
    exact newT I1 r' hz q
  · obtain ⟨its, r', pl, hz⟩ := I.tuple hq
    exact call_tuple_same pl ⟨.ref p, H, I, rfl, q⟩
/-- t + u -/
def rCatN (K : PySem.W.Frag) : R2 := fun x y H Q => ∃ a b xs ys, x = .ref a ∧ y = .ref b ∧ SqT K H a xs ∧ SqT K H b ys ∧ xs.length + ys.length ≤ sizeLine ∧
  (xs = [] → Q (.ref b) H) ∧ (xs ≠ [] → ys = [] → Q (.ref a) H) ∧ (xs ≠ [] → ys ≠ [] → NewT H (xs ++ ys) Q)
theorem op_catN : OpR X (binaryOp .Add) (rCatN X.K) := by
  intro pins s σ H x y v u Q I rx ry h
  obtain ⟨a, b, xs, ys, rfl, rfl, ha, hb, hz, q0, q1, q2⟩ := h
  cases rx
  cases ry
  obtain ⟨its, r1, p1, _⟩ := I.tuple ha
  obtain ⟨its2, r2, p2, _⟩ := I.tuple hb
  by_cases hx : xs = []
  · subst hx
    cases r1
    exact cat_tup0 p1 p2 ⟨.ref b, H, I, rfl, q0 rfl⟩
  · refine HT.cat_tup p1 p2 (fun z => hx (r1.nil_iff.mp z)) (fun z => ⟨.ref a, H, I, rfl, q1 hx (r2.nil_iff.mp z)⟩) (fun z => ?_) (by rw [← r1.length, ← r2.length]; exact hz)
    have := newT (Q := Q) I (r1.append r2) (by rw [List.length_append]; exact hz) (q2 hx (fun w => z (r2.nil_iff.mpr w)))
    exact this
/-- t[lo:hi] -/
def rSlN (K : PySem.W.Frag) : V → Option Int → Option Int → Hp → VK → Prop := fun x lo hi H Q => ∃ a xs, x = .ref a ∧ SqT K H a xs ∧
  (HT.sIx xs.length 0 lo = 0 ∧ HT.sIx xs.length xs.length hi = xs.length → Q (.ref a) H) ∧ (¬ (HT.sIx xs.length 0 lo = 0 ∧ HT.sIx xs.length xs.length hi = xs.length) → NewT H (cutV xs lo hi) Q)
theorem sl_tupN : SlR X (rSlN X.K) := by
  intro pins s σ H x v vl vu lo hi sl Q I rx hs pl pu h
  obtain ⟨a, xs, rfl, hx, q1, q2⟩ := h
  cases rx
  obtain ⟨its, r, ht, hz⟩ := I.tuple hx
  have hlen : its.toArray.size = xs.length := by rw [List.size_toArray]; exact r.length.symm
  refine ⟨"tuple", _, PyProof.Rows.slot_tuple_getitem.lookup, ht.typeIs, ?_⟩
  by_cases hw : HT.sIx xs.length 0 lo = 0 ∧ HT.sIx xs.length xs.length hi = xs.length
  · exact getItem_tuple_whole ht hs pl pu (by rw [hlen]; exact hw) ⟨.ref a, H, I, rfl, q1 hw⟩
  · refine HT.getItem_tuple_cut ht hs pl pu (by rw [hlen]; exact hw) ?_ (by rw [hlen]; exact hz)
    rw [hlen]
    have := newT (Q := Q) I ((r.drop (HT.sIx xs.length 0 lo)).take (HT.sIx xs.length xs.length hi - HT.sIx xs.length 0 lo)) (Nat.le_trans (cutV_length xs lo hi) hz) (q2 hw)
    exact this
/-- a method of a tuple -/
def tTM (K : PySem.W.Frag) (r : V → List V → Hp → VK → Prop) (to : TE) (t : TA) : TE := fun σ H Q => to σ H fun x H1 => (∃ a xs, x = .ref a ∧ TpN K H1 a xs) ∧ t σ H1 fun vs H2 => r x vs H2 Q
theorem pe_tm {name : Str} {id : String} {r : V → List V → Hp → VK → Prop} {o e : Expr} {es : List Expr} {to : TE} {t : TA} {apos cpos : Pos} (slot : Slot "tuple" name id) (hty : typeOf (.builtin id) = pure (.type "method_descriptor")) (hm : MtR X id r) (ho : PE X o to) (ha : PA X (e :: es) t)
    (hbase : attributeBase o name X.env (eval o X.env) = eval o X.env := by rfl)
    (hfew : ((backTo cpos (starEach (e :: es) X.env)).all (fun x => !x.1) && (backToKw cpos (keywordEach [] X.env)).all (fun x => x.1.isSome)
      && decide ((e :: es).length + ([] : List Keyword).length + (if ([] : List Keyword).isEmpty then 0 else 1) < 30)) = true := by rfl)
    (hline : (apos.endLine == cpos.line) = true := by rfl) (hs : starEach (e :: es) X.env = (false, eval e X.env) :: starEach es X.env := by rfl) (hplain : (backTo cpos (starEach es X.env)).any (·.1) = false := by rfl) :
    PE X (.Call (.Attribute o name apos) (e :: es) [] cpos) (tTM X.K r to t) := by
  refine ⟨fun pins s σ H Q I h => ?_⟩
  refine wpAny_Call_method_late hbase hfew hline rfl (thn (ho.run pins s σ H _ I h) fun v s1 ⟨x, H1, I1, r1, ty, q1⟩ => ?_)
  obtain ⟨a, xs, rfl, ht⟩ := ty
  cases r1
  have hty2 : s1.TypeIs (.ref a) "tuple" ∧ ∀ b, Value.ref a = .ref b → ∃ ob, s1.heap.get? b = some ob ∧ ob.dict = none := by
    obtain ⟨its, rv, ⟨ob0, g0, hc0, n0, hd0⟩, _⟩ := I1.tuple ht.sq
    refine ⟨⟨ob0, g0, hc0⟩, fun b e => ?_⟩
    cases e
    rcases ht with ⟨ob, hn, hq⟩ | ⟨ob, its', n, hl, hc, hdn, hd, hz, hv⟩
    · obtain ⟨g, _⟩ := I1.hok a _ hq
      exact ⟨ob, g, hn⟩
    · exact ⟨ob, I1.kIn _ _ hl, hdn⟩
  obtain ⟨h1, h2⟩ := hty2
  refine ⟨"tuple", id, PySem.F.plainAttrs_tuple, slot, hty, h1, h2, ?_⟩
  have hA := ha.run cpos pins s1 σ H1 _ I1 q1
  rw [hs] at hA ⊢
  refine Calls.callWith_builtin (by show (false || (backTo cpos (starEach es X.env)).any (·.1)) = false; rw [hplain] <;> rfl) (Calls.evalArgs_plain ?_)
  exact thn hA fun us s2 ⟨vs, H2, I2, r2, q2⟩ => hm pins s2 σ H2 (.ref a) vs (.ref a) us Q I2 rfl r2 q2
end
end Lm
namespace Lm
open PySem PySem.Spec PyProof.Rows L2
section
variable {X : Cx}
def rCountT (K : PySem.W.Frag) : V → List V → Hp → VK → Prop := fun x xs H Q => ∃ (p : Addr) (ns : List Int) (k : Int), x = .ref p ∧ xs = [.int k] ∧ SqT K H p (ns.map V.int) ∧ Q (.int (ns.count k : Nat)) H
theorem mt_tcount : MtR X "tuple.count" (rCountT X.K) := by
  intro pins s σ H x xs v us Q I rx rxs h
  obtain ⟨p, ns, k, rfl, rfl, hs, q⟩ := h
  cases rx
  obtain ⟨u, rfl, ru⟩ := rxs.one
  obtain ⟨t, rfl⟩ := ru
  obtain ⟨its, rv, ⟨⟨cls, dd, data, sl⟩, ho, hc, n, hd⟩, hlen⟩ := I.tuple hs
  simp only at hc hd
  subst hc hd
  have hi := ints_of_vals rv
  refine call_meets PySem.F.slot_tuple_count ⟨_, ho, rfl⟩ PySem.F.entry_tuple_count (PySem.F.args_tuple_count_2 _ _)
    (SeqAt.tuple_countAt p its.toArray n dd sl (.int k t) (eqk k)) ⟨ho, fun y hy => (eqk_gives hi y (by simpa using hy)).at _ _, ?_⟩
  have ec : its.toArray.toList.countP (eqk k) = ns.count k := eqk_count hi
  refine ⟨.int (ns.count k : Nat), H, I.tok _, ⟨s.toks, ?_⟩, q⟩
  show Value.int ((its.toArray.toList.countP (eqk k) : Nat) : Int) s.toks = Value.int ((ns.count k : Nat) : Int) s.toks
  rw [ec]
end
end Lm


namespace Lm
open PySem PySem.Spec PyProof.Rows L2
variable {c : Ct} {H H' H0 H1 H2 H3 : Hp} {O : List Addr} {σ : L2.St} {Γ : List (Option Rs)}

/-- what an expression gives: a value that stays, a new list, something to be read at once -/
inductive Kd | v | o | b
def Res (c : Ct) (O : List Addr) (H H2 : Hp) (v : V) (d : PyData) : Kd → Prop
  | .v => Bo c (mns H2 O) v d
  | .o => ∃ fp, Fo c H2 v d fp ∧ fp.Nodup ∧ ∀ a ∈ fp, H a = none
  | .b => Bo c H2 v d
theorem Res.bo {v : V} {d : PyData} {k : Kd} (e : Env c H0 O H σ Γ) (h : Res c O H H2 v d k) : Bo c H2 v d := by
  cases k with
  | v => exact Bo.same mns_same h
  | o =>
    obtain ⟨fp, f, nd, new⟩ := h
    exact f.bo fun a ha => okA.fresh e.jH (new a ha)
  | b => exact h
theorem Res.on {v : V} {d : PyData} {k : Kd} (e : Env c H0 O H σ Γ) (r1 : Rr c H H2) (r : Rr c H2 H3) (h : Res c O H H2 v d k) : Res c O H H3 v d k := by
  have e2 := e.on r1
  cases k with
  | v => exact Bo.mono e2.j (r.mns e2.j e2.okO) h
  | o =>
    obtain ⟨fp, f, nd, new⟩ := h
    exact ⟨fp, f.up (fun _ _ s => r.tup e2.jH s) (fun a ha o q => r.1 a o (okA.fresh e.jH (new a ha)) q), nd, new⟩
  | b => exact Bo.mono e2.jH r h
/-- fresh behind is fresh before -/
theorem Res.back {v : V} {d : PyData} {k : Kd} (e : Env c H0 O H σ Γ) (r1 : Rr c H H2) (h : Res c O H2 H3 v d k) : Res c O H H3 v d k := by
  cases k with
  | v => exact h
  | o =>
    obtain ⟨fp, f, nd, new⟩ := h
    exact ⟨fp, f, nd, fun a ha => r1.back e.jH (new a ha)⟩
  | b => exact h
theorem Bo.flatM {v : V} {d : PyData} (e : Env c H0 O H σ Γ) (r : Rr c H H2) (q : flatD d = true) (h : Bo c H2 v d) : Bo c (mns H2 O) v d :=
  h.flatTo (fun a xs s => sqT_mns (fun b hb => (e.on r).dm b hb) s) q

def Ev (c : Ct) (te : TE) (Γ : List (Option Rs)) (k : Kd) (d : PyData) : Prop :=
  ∀ H0 O H σ, Env c H0 O H σ Γ → ∀ Q : VK, (∀ v H2, Rr c H H2 → Res c O H H2 v d k → Q v H2) → te σ H Q
/-- .. one of several -/
def EvN (c : Ct) (te : TE) (Γ : List (Option Rs)) (k : Kd) (P : PyData → Prop) : Prop :=
  ∀ H0 O H σ, Env c H0 O H σ Γ → ∀ Q : VK, (∀ v d H2, P d → Rr c H H2 → Res c O H H2 v d k → Q v H2) → te σ H Q
def EvT (c : Ct) (tt : TT) (Γ : List (Option Rs)) (b : Bool) : Prop :=
  ∀ H0 O H σ, Env c H0 O H σ Γ → ∀ Q : Bool → Hp → Prop, (∀ H2, Rr c H H2 → Q b H2) → tt σ H Q
/-- arguments, to be read; (kv) each a value that stays -/
def EvA (c : Ct) (ta : TA) (Γ : List (Option Rs)) (kv : Bool) (ds : List PyData) : Prop :=
  ∀ H0 O H σ, Env c H0 O H σ Γ → ∀ Q : List V → Hp → Prop, (∀ vs H2, Rr c H H2 → BoAll c (if kv then mns H2 O else H2) vs ds → Q vs H2) → ta σ H Q
section
variable {te ta tb tx : TE} {tt tu : TT} {tr : TA} {k ka kb : Kd} {d x y z : PyData} {i j : Int} {a b : Bool} {kv : Bool} {ds : List PyData}
theorem Ev.n (h : Ev c te Γ k d) : EvN c te Γ k (fun x => x = d) := fun H0 O H σ e Q q => h H0 O H σ e Q fun v H2 r s => q v d H2 rfl r s
theorem EvN.det (h : EvN c te Γ k (fun x => x = d)) : Ev c te Γ k d := fun H0 O H σ e Q q => h H0 O H σ e Q fun v d H2 p r s => by subst p; exact q v H2 r s
theorem EvN.imp {P P' : PyData → Prop} (h : EvN c te Γ k P) (i : ∀ d, P d → P' d) : EvN c te Γ k P' := fun H0 O H σ e Q q => h H0 O H σ e Q fun v d H2 p => q v d H2 (i d p)
theorem Ev.to (h : Ev c te Γ k x) (e : x = y) : Ev c te Γ k y := e ▸ h
theorem EvT.to (h : EvT c tt Γ a) (e : a = b) : EvT c tt Γ b := e ▸ h
/-- flat data stay -/
theorem Ev.fl (h : Ev c te Γ k d) (f : flatD d = true) : Ev c te Γ .v d := fun H0 O H σ e Q q => h H0 O H σ e Q fun v H2 r s => q v H2 r (Bo.flatM e r f (Res.bo e s))
theorem Ev.fo (h : Ev c te Γ k d) (f : flatD d = true) : Ev c te Γ .o d := fun H0 O H σ e Q q => h H0 O H σ e Q fun v H2 r s => q v H2 r ⟨[], .leaf f (Res.bo e s), List.nodup_nil, fun _ h => nomatch h⟩
theorem EvN.fo {P : PyData → Prop} (h : EvN c te Γ k P) (f : ∀ d, P d → flatD d = true) : EvN c te Γ .o P := fun H0 O H σ e Q q => h H0 O H σ e Q fun v d H2 p r s => q v d H2 p r ⟨[], .leaf (f d p) (Res.bo e s), List.nodup_nil, fun _ h => nomatch h⟩
theorem EvN.fl {P : PyData → Prop} (h : EvN c te Γ k P) (f : ∀ d, P d → flatD d = true) : EvN c te Γ .v P := fun H0 O H σ e Q q => h H0 O H σ e Q fun v d H2 p r s => q v d H2 p r (Bo.flatM e r (f d p) (Res.bo e s))

/-! ### leaves -/
theorem d_int : Ev c (tC (.int i)) Γ .v (.int i) := fun H0 O H σ e Q q => q _ H Rr.rf (.int i)
theorem d_bl : Ev c (tC (.bl a)) Γ .v (.bool a) := fun H0 O H σ e Q q => q _ H Rr.rf (.bl a)
theorem d_str {s : Str} : Ev c (tC (.str s)) Γ .v (.str s) := fun H0 O H σ e Q q => q _ H Rr.rf (.str s)
theorem d_non : Ev c (tC .non) Γ .v .none := fun H0 O H σ e Q q => q _ H Rr.rf .non
theorem d_var {n : Nat} (h : Γ[n]? = some (some (.v d))) : Ev c (tVar n) Γ .v d := fun H0 O H σ e Q q => by
  obtain ⟨v, hv, b⟩ := e.slotV h
  exact ⟨v, hv, q v H Rr.rf b⟩
theorem d_varO {n : Nat} (h : Γ[n]? = some (some (.o d))) : Ev c (tVar n) Γ .b d := fun H0 O H σ e Q q => by
  obtain ⟨v, fp, hv, f, nd, sub⟩ := e.slotO h
  exact ⟨v, hv, q v H Rr.rf (f.bo fun a ha => e.okO a (sub a ha))⟩
/-! ### two operands -/
theorem d_bin {r : R2} (ha : Ev c ta Γ ka x) (hb : Ev c tb Γ kb y)
    (hr : ∀ H O v u (Q : VK), Bo c H v x → Bo c H u y → (∀ v' H2, Rr c H H2 → Bo c (mns H2 O) v' z → Q v' H2) → r v u H Q) : Ev c (tOp r ta tb) Γ .v z := fun H0 O H σ e Q q =>
  ha H0 O H σ e _ fun v H1 r1 s1 => hb H0 O H1 σ (e.on r1) _ fun u H2 r2 s2 =>
    hr H2 O v u Q (Res.bo e (Res.on e r1 r2 s1)) (Res.bo (e.on r1) s2) fun v' H3 r3 b => q v' H3 ((r1.tr r2).tr r3) b
theorem d_I {C : Int → Int → Prop} {g : Int → Int → V} {w : V} (ha : Ev c ta Γ ka (.int i)) (hb : Ev c tb Γ kb (.int j)) (hc : C i j) (hw : g i j = w) (hz : ∀ H, Bo c H w z) : Ev c (tOp (rI C g) ta tb) Γ .v z :=
  d_bin ha hb fun H O v u Q bv bu q => ⟨i, j, bv.int', bu.int', hc, q _ H Rr.rf (hw ▸ hz _)⟩
theorem d_I0 {g : Int → Int → V} {w : V} (ha : Ev c ta Γ ka (.int i)) (hb : Ev c tb Γ kb (.int j)) (hw : g i j = w) (hz : ∀ H, Bo c H w z) : Ev c (tOp (rI0 g) ta tb) Γ .v z :=
  d_bin ha hb fun H O v u Q bv bu q => ⟨i, j, bv.int', bu.int', q _ H Rr.rf (hw ▸ hz _)⟩
theorem d_sub (ha : Ev c ta Γ ka (.int i)) (hb : Ev c tb Γ kb (.int j)) : Ev c (tOp (rI0 fun i j => .int (i - j)) ta tb) Γ .v (.int (i - j)) := d_I0 ha hb rfl fun _ => .int _
theorem d_lt (ha : Ev c ta Γ ka (.int i)) (hb : Ev c tb Γ kb (.int j)) : Ev c (tOp (rI0 fun i j => .bl (decide (i < j))) ta tb) Γ .v (.bool (decide (i < j))) := d_I0 ha hb rfl fun _ => .bl _
theorem d_le (ha : Ev c ta Γ ka (.int i)) (hb : Ev c tb Γ kb (.int j)) : Ev c (tOp (rI0 fun i j => .bl (decide (i ≤ j))) ta tb) Γ .v (.bool (decide (i ≤ j))) := d_I0 ha hb rfl fun _ => .bl _
theorem d_gt (ha : Ev c ta Γ ka (.int i)) (hb : Ev c tb Γ kb (.int j)) : Ev c (tOp (rI0 fun i j => .bl (decide (j < i))) ta tb) Γ .v (.bool (decide (j < i))) := d_I0 ha hb rfl fun _ => .bl _
theorem d_ge (ha : Ev c ta Γ ka (.int i)) (hb : Ev c tb Γ kb (.int j)) : Ev c (tOp (rI0 fun i j => .bl (decide (j ≤ i))) ta tb) Γ .v (.bool (decide (j ≤ i))) := d_I0 ha hb rfl fun _ => .bl _
theorem d_fdiv (ha : Ev c ta Γ ka (.int i)) (hb : Ev c tb Γ kb (.int j)) (h : CDiv i j) : Ev c (tOp (rI CDiv fun i j => .int (i / j)) ta tb) Γ .v (.int (i / j)) := d_I ha hb h rfl fun _ => .int _
theorem d_mod (ha : Ev c ta Γ ka (.int i)) (hb : Ev c tb Γ kb (.int j)) (h : 0 < j) : Ev c (tOp (rI (fun _ j => 0 < j) fun i j => .int (i % j)) ta tb) Γ .v (.int (i % j)) := d_I ha hb h rfl fun _ => .int _
/-- == and != of scalars -/
def scalD : PyData → Option V
  | .none => some .non
  | .bool b => some (.bl b)
  | .int i => some (.int i)
  | .str s => some (.str s)
  | _ => none
theorem Bo.scal {v w : V} (h : Bo c H v d) (e : scalD d = some w) : v = w := by
  cases h with
  | non => exact Option.some.inj e
  | bl _ => exact Option.some.inj e
  | int _ => exact Option.some.inj e
  | str _ => exact Option.some.inj e
  | lst _ _ _ => cases e
  | tup _ _ => cases e
theorem decI {i j : Int} : decide (V.int i = V.int j) = decide (i = j) := by
  by_cases h : i = j
  · subst h; simp
  · rw [decide_eq_false h, decide_eq_false (fun e => h (V.int.inj e))]
theorem inV_ints {i : Int} {ns : List Int} : inV (.int i) (ns.map V.int) = decide (i ∈ ns) := by
  induction ns with
  | nil => rfl
  | cons n ns ih =>
    have e : inV (.int i) ((n :: ns).map V.int) = (eqV (.int n) (.int i) || inV (.int i) (ns.map V.int)) := rfl
    rw [e, ih]
    show (decide (n = i) || decide (i ∈ ns)) = _
    by_cases h : n = i
    · subst h; simp
    · have h' : ¬ i = n := fun e => h e.symm
      simp [h, h']
theorem flatV_ints (ns : List Int) : (ns.map V.int).all flatV = true := by
  rw [List.all_map]
  exact List.all_eq_true.mpr fun _ _ => rfl
/-- in a tuple or list of ints -/
theorem d_inT {neg : Bool} {ns : List Int} (ha : Ev c ta Γ ka (.int i)) (hb : Ev c tb Γ kb (.tuple (ns.map .int))) : Ev c (tOp (rIn c.K neg) ta tb) Γ .v (.bool (if neg then !decide (i ∈ ns) else decide (i ∈ ns))) :=
  d_bin ha hb fun H O v u Q bv bu q => by
    obtain ⟨p, xs, rfl, s, al⟩ := bu.tup'
    have := al.ints
    subst this
    rw [bv.int']
    exact ⟨p, _, rfl, .inr s.sq, rfl, flatV_ints ns, by rw [inV_ints]; exact q _ H Rr.rf (.bl _)⟩
/-- an item -/
theorem atI_bo {v : List V} (h : BoAll c H v ds) (e : atI ds i = some d) : ∃ x, atI v i = some x ∧ Bo c H x d := by
  unfold atI at e ⊢
  rw [h.len]
  cases q : ixN ds.length i with
  | none => rw [q] at e; cases e
  | some n =>
    rw [q] at e
    exact h.gets e
/-! ### truth -/
theorem d_andV (ha : Ev c ta Γ ka (.bool a)) (hb : a = true → Ev c tb Γ .v (.bool b)) : Ev c (tAndV ta tb) Γ .v (.bool (a && b)) := fun H0 O H σ e Q q =>
  ha H0 O H σ e _ fun v H1 r1 s1 => ⟨a, (Res.bo e s1).bl', by
    cases a with
    | true =>
      refine iteT (hb rfl H0 O H1 σ (e.on r1) _ fun u H2 r2 s2 => ?_)
      rw [(Res.bo (e.on r1) s2).bl']
      exact q _ H2 (r1.tr r2) (.bl _)
    | false => exact iteF (q _ H1 r1 (.bl _))⟩
theorem d_orV (ha : Ev c ta Γ ka (.bool a)) (hb : a = false → Ev c tb Γ .v (.bool b)) : Ev c (tOrV ta tb) Γ .v (.bool (a || b)) := fun H0 O H σ e Q q =>
  ha H0 O H σ e _ fun v H1 r1 s1 => ⟨a, (Res.bo e s1).bl', by
    cases a with
    | false =>
      refine iteF (hb rfl H0 O H1 σ (e.on r1) _ fun u H2 r2 s2 => ?_)
      rw [(Res.bo (e.on r1) s2).bl']
      exact q _ H2 (r1.tr r2) (.bl _)
    | true => exact iteT (q _ H1 r1 (.bl _))⟩
theorem t_test (h : Ev c te Γ k (.bool a)) : EvT c (tTest te) Γ a := fun H0 O H σ e Q q => h H0 O H σ e _ fun v H2 r s => ⟨a, (Res.bo e s).bl', q H2 r⟩
theorem t_B (h : Ev c te Γ k (.bool a)) : EvT c (tB te) Γ a := fun H0 O H σ e Q q => h H0 O H σ e _ fun v H2 r s => ⟨a, (Res.bo e s).bl', q H2 r⟩
theorem t_not (h : EvT c tt Γ a) : EvT c (tNot tt) Γ (!a) := fun H0 O H σ e Q q => h H0 O H σ e _ fun H2 r => q H2 r
theorem t_or (h : EvT c tt Γ a) (g : a = false → EvT c tu Γ b) : EvT c (tOr tt tu) Γ (a || b) := fun H0 O H σ e Q q => h H0 O H σ e _ fun H2 r => by
  cases a with
  | false => exact iteF (g rfl H0 O H2 σ (e.on r) _ fun H3 r3 => q H3 (r.tr r3))
  | true => exact iteT (q H2 r)
theorem t_yes : EvT c tYes Γ true := fun H0 O H σ e Q q => q H Rr.rf
/-! ### arguments -/
theorem a_nil : EvA c tNil Γ kv [] := fun H0 O H σ e Q q => q [] H Rr.rf .nil
theorem a_cons (h : Ev c te Γ k d) (hr : EvA c tr Γ false ds) : EvA c (tCons te tr) Γ false (d :: ds) := fun H0 O H σ e Q q =>
  h H0 O H σ e _ fun v H1 r1 s1 => hr H0 O H1 σ (e.on r1) _ fun vs H2 r2 s2 => q _ H2 (r1.tr r2) (.cons (Res.bo e (s1.on e r1 r2)) s2)
theorem a_consV (h : Ev c te Γ .v d) (hr : EvA c tr Γ true ds) : EvA c (tCons te tr) Γ true (d :: ds) := fun H0 O H σ e Q q =>
  h H0 O H σ e _ fun v H1 r1 s1 => hr H0 O H1 σ (e.on r1) _ fun vs H2 r2 s2 => q _ H2 (r1.tr r2) (.cons (s1.on e r1 r2) s2)
end
end Lm


namespace Lm
open PySem PySem.Spec PyProof.Rows L2
variable {c : Ct} {H H' H0 H1 H2 H3 : Hp} {O : List Addr} {σ : L2.St} {Γ Γ' : List (Option Rs)}

/-! ### what is walked -/
/-- an item: data, or a tuple made for the target alone -/
inductive Im where
  | d (x : PyData)
  | t (xs : List Im)
mutual
inductive Lo (c : Ct) (F : Hp) (fz : Bool) (H : Hp) : V → Im → Prop
  | leaf {v : V} {d : PyData} : (flatD d = true ∧ Bo c H v d) ∨ (fz = true ∧ Bo c F v d) → Lo c F fz H v (.d d)
  | tup {a : Addr} {xs : List V} {ds : List Im} : SqT c.K H a xs → LoAll c F fz H xs ds → Lo c F fz H (.ref a) (.t ds)
inductive LoAll (c : Ct) (F : Hp) (fz : Bool) (H : Hp) : List V → List Im → Prop
  | nil : LoAll c F fz H [] []
  | cons {v : V} {vs : List V} {d : Im} {ds : List Im} : Lo c F fz H v d → LoAll c F fz H vs ds → LoAll c F fz H (v :: vs) (d :: ds)
end
theorem LoAll.ofFlat {F : Hp} {fz : Bool} : ∀ {v : List V} {d : List PyData}, flatAll d = true → BoAll c H v d → LoAll c F fz H v (d.map Im.d)
  | _, _, _, .nil => .nil
  | _, _, q, .cons a b => by
    have q' : (flatD _ && flatAll _) = true := q
    rw [Bool.and_eq_true] at q'
    exact .cons (.leaf (.inl ⟨q'.1, a⟩)) (LoAll.ofFlat q'.2 b)
theorem LoAll.ofFz {F : Hp} : ∀ {v : List V} {d : List PyData}, BoAll c F v d → LoAll c F true H v (d.map Im.d)
  | _, _, .nil => .nil
  | _, _, .cons a b => .cons (.leaf (.inr ⟨rfl, a⟩)) (LoAll.ofFz b)
theorem LoAll.len {F : Hp} {fz : Bool} : ∀ {v : List V} {d : List Im}, LoAll c F fz H v d → v.length = d.length
  | _, _, .nil => rfl
  | _, _, .cons _ b => by simp [LoAll.len b]
/-- a tuple's parts -/
theorem Lo.parts {F : Hp} {fz : Bool} {v : V} {ds : List PyData} (j : Ji c F) (r : Rr c F H) (h : Lo c F fz H v (.d (.tuple ds))) : ∃ a xs, v = .ref a ∧ SqT c.K H a xs ∧ LoAll c F fz H xs (ds.map Im.d) := by
  cases h with
  | leaf h =>
    rcases h with ⟨q, b⟩ | ⟨q, b⟩
    · obtain ⟨a, xs, rfl, s, al⟩ := b.tup'
      exact ⟨a, xs, rfl, s.sq, .ofFlat (by simpa [flatD] using q) al⟩
    · obtain ⟨a, xs, rfl, s, al⟩ := b.tup'
      subst q
      exact ⟨a, xs, rfl, (r.tup j s).sq, .ofFz al⟩
def WD (c : Ct) (F : Hp) (fz : Bool) (J : It) (ds : List Im) : Prop :=
  Ji c F ∧ Walk J ds.length (fun H => Rr c F H) (fun i H x H' => Same H H' ∧ ∃ d, ds[i]? = some d ∧ Lo c F fz H' x d)
def EvI (c : Ct) (wi : TI) (Γ : List (Option Rs)) (fz : Bool) (ds : List Im) : Prop :=
  ∀ H0 O H σ, Env c H0 O H σ Γ → ∀ R : It → Hp → Prop, (∀ J H1, Rr c H H1 → WD c (if fz then mns H1 O else H1) fz J ds → R J H1) → wi σ H R
/-- a target takes an item -/
def EvG (c : Ct) (g : TG) (d : Im) (Γ Γ' : List (Option Rs)) (js : List Nat) : Prop :=
  ∀ H0 O H σ F fz x, Env c H0 O H σ Γ → Ji c F → Rr c F H → (fz = true → Rr c F (mns H O)) → Lo c F fz H x d → ∀ Q : L2.St → Hp → Prop,
    (∀ σ', Env c H0 O H σ' Γ' → (∀ vs, (∀ j ∈ js, j ∈ vs) → wipe σ' vs = wipe σ vs) → Q σ' H) → g x σ H Q
def EvGs (c : Ct) (g : TGs) (ds : List Im) (Γ Γ' : List (Option Rs)) (js : List Nat) : Prop :=
  ∀ H0 O H σ F fz xs, Env c H0 O H σ Γ → Ji c F → Rr c F H → (fz = true → Rr c F (mns H O)) → LoAll c F fz H xs ds → ∀ Q : L2.St → Hp → Prop,
    (∀ σ', Env c H0 O H σ' Γ' → (∀ vs, (∀ j ∈ js, j ∈ vs) → wipe σ' vs = wipe σ vs) → Q σ' H) → g xs σ H Q
theorem wipe_set {x : Option V} {j : Nat} {σ : L2.St} : ∀ {vs : List Nat}, j ∈ vs → wipe (σ.set j x) vs = wipe σ vs
  | [], h => by simp at h
  | v :: vs, h => by
    unfold wipe
    by_cases hj : j ∈ vs
    · rw [wipe_set hj]
    · have e : j = v := by simpa [hj] using h
      subst e
      have : ∀ (us : List Nat) (σ : L2.St), (wipe (σ.set j x) us).set j none = (wipe σ us).set j none := by
        intro us
        induction us with
        | nil => intro σ; simp [wipe]
        | cons u us ih =>
          intro σ
          show ((wipe (σ.set j x) us).set u none).set j none = ((wipe σ us).set u none).set j none
          by_cases q : u = j
          · subst q; simpa using ih σ
          · rw [List.set_comm _ _ q, ih σ, List.set_comm _ _ (fun z => q z.symm)]
      exact this vs σ
theorem wipe_wipe {σ : L2.St} : ∀ {vs us : List Nat}, (∀ v ∈ vs, v ∈ us) → wipe (wipe σ vs) us = wipe σ us
  | [], us, h => rfl
  | v :: vs, us, h => by
    show wipe ((wipe σ vs).set v none) us = wipe σ us
    rw [wipe_set (h v (by simp)), wipe_wipe fun w hw => h w (by simp [hw])]
def wipeG (Γ : List (Option Rs)) : List Nat → List (Option Rs)
  | [] => Γ
  | v :: vs => (wipeG Γ vs).set v none
theorem Env.wipe (e : Env c H0 O H σ Γ) : ∀ vs : List Nat, Env c H0 O H (L2.wipe σ vs) (wipeG Γ vs)
  | [] => e
  | v :: vs => (Env.wipe e vs).setN
theorem g_name {j : Nat} {d : PyData} : EvG c (gName j) (.d d) Γ (Γ.set j (some (.v d))) [j] := fun H0 O H σ F fz x e jF rF rM h Q q => by
  have b : Bo c (mns H O) x d := by
    cases h with
    | leaf h =>
      rcases h with ⟨f, b⟩ | ⟨f, b⟩
      · exact b.flatTo (fun a xs s => sqT_mns (fun b hb => e.dm b hb) s) f
      · exact b.mono jF (rM f)
  exact q _ (e.setV b) fun vs hv => wipe_set (hv j (by simp))
theorem g_nil : EvGs c gNil [] Γ Γ [] := fun H0 O H σ F fz xs e jF rF rM h Q q => by
  cases h
  exact ⟨rfl, q σ e fun _ _ => rfl⟩
theorem g_cons {g : TG} {gs : TGs} {d : Im} {ds : List Im} {Γ1 Γ2 : List (Option Rs)} {js ks : List Nat} (h : EvG c g d Γ Γ1 js) (hs : EvGs c gs ds Γ1 Γ2 ks) : EvGs c (gCons g gs) (d :: ds) Γ Γ2 (js ++ ks) := fun H0 O H σ F fz xs e jF rF rM l Q q => by
  cases l with
  | cons a b =>
    exact ⟨_, _, rfl, h H0 O H σ F fz _ e jF rF rM a _ fun σ1 e1 w1 => hs H0 O H σ1 F fz _ e1 jF rF rM b _ fun σ2 e2 w2 => q σ2 e2 fun vs hv =>
      (w2 vs fun j hj => hv j (by simp [hj])).trans (w1 vs fun j hj => hv j (by simp [hj]))⟩
theorem g_tup {n : Nat} {gs : TGs} {ds : List Im} {js : List Nat} (hn : ds.length = n) (hs : EvGs c gs ds Γ Γ' js) : EvG c (gTup c.K n gs) (.t ds) Γ Γ' js := fun H0 O H σ F fz x e jF rF rM h Q q => by
  cases h with
  | tup s al => exact ⟨_, _, rfl, s, al.len.trans hn, hs H0 O H σ F fz _ e jF rF rM al Q q⟩
theorem g_tupD {n : Nat} {gs : TGs} {ds : List PyData} {js : List Nat} (hn : ds.length = n) (hs : EvGs c gs (ds.map Im.d) Γ Γ' js) : EvG c (gTup c.K n gs) (.d (.tuple ds)) Γ Γ' js := fun H0 O H σ F fz x e jF rF rM h Q q => by
  obtain ⟨a, xs, rfl, s, al⟩ := h.parts jF rF
  exact ⟨_, _, rfl, s, al.len.trans (by simpa using hn), hs H0 O H σ F fz _ e jF rF rM al Q q⟩
end Lm


namespace Lm
open PySem PySem.Spec PyProof.Rows L2
variable {c : Ct} {H H' H0 H1 H2 H3 : Hp} {O : List Addr} {σ : L2.St} {Γ Γ' : List (Option Rs)}
variable {te ta tb tx tl : TE} {tt tu : TT} {tr : TA} {k ka kb : Kd} {d x y z : PyData} {i j : Int} {a b : Bool} {kv fz : Bool} {ds es : List PyData}

/-! ### what is walked: lists, tuples, ranges -/
theorem sizeOk {n : Nat} (h : n ≤ 1000000) : n ≤ sizeLine := Nat.le_trans h (by decide)
theorem map_get? {α : Type} {f : PyData → α} {i : Nat} {d : PyData} (h : ds[i]? = some d) : (ds.map f)[i]? = some (f d) := by simp [h]
/-- the frozen part -/
theorem Res.frozen {v : V} (e : Env c H0 O H σ Γ) (r : Rr c H H2) (h : Res c O H H2 v d k) (hk : k ≠ .b) : Bo c (mns H2 O) v d := by
  cases k with
  | v => exact h
  | o =>
    obtain ⟨fp, f, nd, new⟩ := h
    have e2 := e.on r
    have no : ∀ a ∈ fp, a ∉ O := fun a ha hO => by
      obtain ⟨xs, q, _⟩ := e.dm a hO
      rw [new a ha] at q
      cases q
    exact (f.up (fun a xs s => sqT_mns (fun b hb => e2.dm b hb) s) fun a ha o q => by rw [mns_out (no a ha)]; exact q).bo fun a ha => okA.fresh e.jH (new a ha)
  | b => exact absurd rfl hk
theorem i_core {J : It} {xs : List V} {F : Hp} (jF : Ji c F) (hw : Walk J xs.length (fun H => Rr c F H) (YAt xs)) (hb : BoAll c F xs ds) (hf : fz = true ∨ flatAll ds = true) : WD c F fz J (ds.map Im.d) := by
  refine ⟨jF, ?_⟩
  have hl : xs.length = (ds.map Im.d).length := by rw [hb.len]; simp
  rw [hl] at hw
  refine hw.mono (fun _ h => h) fun i H x H' hi g y => ?_
  obtain ⟨rfl, hx⟩ := y
  obtain ⟨d, hd, bd⟩ := hb.get hx
  refine ⟨Same.refl _, .d d, map_get? hd, .leaf ?_⟩
  rcases hf with hf | hf
  · exact .inr ⟨hf, bd⟩
  · refine .inl ⟨?_, bd.mono jF g⟩
    have : ∀ (l : List PyData), flatAll l = true → ∀ d ∈ l, flatD d = true := by
      intro l
      induction l with
      | nil => intro _ _ h; simp at h
      | cons a l ih =>
        intro q d hd
        have q' : (flatD a && flatAll l) = true := q
        rw [Bool.and_eq_true] at q'
        rcases List.mem_cons.mp hd with w | w
        · rw [w]; exact q'.1
        · exact ih q'.2 d w
    exact this ds hf d (List.mem_of_getElem? hd)
theorem i_list (h : Ev c tl Γ k (.list ds)) (hk : k ≠ .b) : EvI c (iList c.K tl) Γ true (ds.map Im.d) := fun H0 O H σ e R q =>
  h H0 O H σ e _ fun v H1 r s => by
    obtain ⟨p, xs, rfl, kp, sl, al⟩ := (Res.frozen e r s hk).lst'
    exact ⟨p, rfl, ⟨xs, mns_same.seq sl⟩, q _ H1 r (i_core (e.on r).j (walk_list.mono (fun H h => h.lst kp sl) fun _ _ _ _ _ _ y => y) al (.inl rfl))⟩
theorem i_tup (h : Ev c tl Γ k (.tuple ds)) (hk : k ≠ .b) : EvI c (iTup c.K tl) Γ true (ds.map Im.d) := fun H0 O H σ e R q =>
  h H0 O H σ e _ fun v H1 r s => by
    obtain ⟨p, xs, rfl, sl, al⟩ := (Res.frozen e r s hk).tup'
    exact ⟨p, rfl, ⟨xs, (sqT_same mns_same sl).sq⟩, q _ H1 r (i_core (e.on r).j (walk_tup.mono (fun H h => (h.tup (e.on r).j sl).sq) fun _ _ _ _ _ _ y => y) al (.inl rfl))⟩
/-- the upI from lo on, n of them -/
def upI (lo : Int) (n : Nat) : List Int := (List.range n).map fun (i : Nat) => lo + (i : Int)
theorem i_range {F : Hp} (jF : Ji c F) {lo : Int} {n : Nat} : WD c F fz (Itr lo n) ((upI lo n).map fun i => Im.d (.int i)) := by
  refine ⟨jF, ?_⟩
  have hl : ((upI lo n).map fun i => Im.d (.int i)).length = n := by simp [upI]
  rw [hl]
  refine walk_range.mono (fun _ _ => trivial) fun i H x H' hi g y => ?_
  obtain ⟨rfl, rfl⟩ := y
  exact ⟨Same.refl _, .d (.int (lo + i)), by simp [upI, hi], .leaf (.inl ⟨rfl, .int _⟩)⟩
theorem i_rng1 {n : Int} (h : EvA c tr Γ kv [.int n]) (hn : n ≤ 1000000) (hn' : -1000000 ≤ n) : EvI c (iRng1 tr) Γ true ((upI 0 n.toNat).map fun i => Im.d (.int i)) := fun H0 O H σ e R q =>
  h H0 O H σ e _ fun vs H1 r s => by
    cases s with
    | cons b bs =>
      cases bs
      have := b.int'
      subst this
      exact ⟨n, rfl, by omega, by omega, q _ H1 r (i_range (e.on r).j)⟩
/-! ### comprehensions -/
theorem flatAll_one {d : PyData} {ds : List PyData} (h : flatAll ds = true) (m : d ∈ ds) : flatD d = true := by
  induction ds with
  | nil => simp at m
  | cons a l ih =>
    have q' : (flatD a && flatAll l) = true := h
    rw [Bool.and_eq_true] at q'
    rcases List.mem_cons.mp m with w | w
    · rw [w]; exact q'.1
    · exact ih q'.2 w
theorem ifFz {F : Hp} {H1 : Hp} {O : List Addr} (e : Env c H0 O H σ Γ) (r1 : Rr c H H1) (r : Rr c H1 H2) : Rr c (if fz then mns H1 O else H1) H2 ∧ (fz = true → Rr c (if fz then mns H1 O else H1) (mns H2 O)) := by
  cases fz with
  | true => exact ⟨(Rr.same mns_same).tr r, fun _ => r.mns (e.on r1).j e.okO⟩
  | false => exact ⟨r, fun h => nomatch h⟩
theorem n_lc {wi : TI} {g : TG} {vs : List Nat} {items : List Im} (M : Nat → List PyData → Prop) (hi : EvI c wi Γ fz items) (hl : items.length ≤ 1000000) (h0 : M 0 [])
    (hb : ∀ (n : Nat) (a : Im) (acc : List PyData), items[n]? = some a → M n acc → ∃ Γ' js, EvG c g a (wipeG Γ vs) Γ' js ∧ (∀ j ∈ js, j ∈ vs) ∧
      ∃ (b : Bool) (P : PyData → Prop), EvT c tt Γ' b ∧ (b = true → EvN c te Γ' .o P ∧ ∀ d, P d → M (n + 1) (acc ++ [d])) ∧ (b = false → M (n + 1) acc)) :
    EvN c (tLc wi g tt te vs) Γ .o (fun d => ∃ acc, d = .list acc ∧ M items.length acc) := fun H0 O H σ e Q q =>
  hi H0 O H σ e _ fun J H1 r1 w D hD => by
    obtain ⟨jF, w⟩ := w
    refine lc_it w (fun n H' => Rr c H1 H' ∧ ∃ acc ds fp, H' D = some (.lst acc) ∧ FoAll c H' acc ds fp ∧ fp.Nodup ∧ (∀ a ∈ fp, H1 a = none) ∧ D ∉ fp ∧ ds.length ≤ n ∧ M n ds) ?_ ?_ ?_ ?_
    · exact ⟨Rr.same fun b o z => by rw [upd_ne (ne_of_none z hD)]; exact z, [], [], [], upd_same, .nil, List.nodup_nil, (fun _ h => nomatch h), (fun h => nomatch h), Nat.le_refl _, h0⟩
    · intro n H' _ p
      exact (ifFz (F := H) e r1 p.1).1
    · rintro n x H' H'' hn ⟨p1, acc, ds, fp, p2, p3, p4, p5, p6, p7, p8⟩ ⟨sm, im, him, lo⟩
      have e2 : Env c H0 O H'' σ Γ := e.on ((r1.tr p1).tr (Rr.same sm))
      have fzz := ifFz (fz := fz) (F := H) e r1 (p1.tr (Rr.same sm))
      obtain ⟨Γ', js, hg, hjs, b, P, ht, hy, hno⟩ := hb n im ds him p8
      refine hg H0 O H'' _ _ fz x (e2.wipe vs) jF fzz.1 fzz.2 lo _ fun σ2 e3 hw => ⟨(hw vs hjs).trans (wipe_wipe fun _ h => h), ht H0 O H'' σ2 e3 _ fun H3 r3 => ?_⟩
      have p3' : FoAll c H'' acc ds fp := p3.up (fun _ _ s => sqT_same sm s) fun a _ o z => sm a o z
      have okf : ∀ a ∈ fp, okA c a := fun a ha => okA.fresh (e.on r1).jH (p5 a ha)
      have okD : okA c D := okA.fresh (e.on r1).jH hD
      have f3 : FoAll c H3 acc ds fp := p3'.up (fun _ _ s => r3.tup e2.jH s) fun a ha o z => r3.1 a o (okf a ha) z
      have D3 : H3 D = some (.lst acc) := r3.1 D _ okD (sm _ _ p2)
      have r13 : Rr c H1 H3 := (p1.tr (Rr.same sm)).tr r3
      cases b with
      | true =>
        refine iteT ?_
        obtain ⟨hyN, hyM⟩ := hy rfl
        refine hyN H0 O H3 σ2 (e3.on r3) _ fun v d H4 pd r4 s4 => ?_
        obtain ⟨fq, f4, nq, newq⟩ := s4
        have e3' := e3.on r3
        have D4 : H4 D = some (.lst acc) := r4.1 D _ okD D3
        have f3' : FoAll c H4 acc ds fp := f3.up (fun _ _ s => r4.tup e3'.jH s) fun a ha o z => r4.1 a o (okf a ha) z
        have Dq : D ∉ fq := fun z => by rw [newq D z] at D3; cases D3
        have all : FoAll c H4 (acc ++ [v]) (ds ++ [d]) (fp ++ (fq ++ [])) := f3'.app (.cons f4 .nil)
        rw [List.append_nil] at all
        have lacc : acc.length = ds.length := (f3'.bo okf).len
        have hle : ds.length ≤ 1000000 := by omega
        have nodq : ∀ a ∈ fp, a ∉ fq := fun a ha hq => by
          obtain ⟨xs, z⟩ := f3.isL a ha
          rw [newq a hq] at z; cases z
        refine ⟨acc, D4, by rw [lacc, sizeLine_eq]; omega, ?_, acc ++ [v], ds ++ [d], fp ++ fq, upd_same, ?_, ?_, ?_, ?_, by simp; omega, hyM d pd⟩
        · refine ⟨fun a o ok z => ?_, fun jj => ?_⟩
          · rw [upd_ne (ne_of_none z hD)]; exact (r13.tr r4).1 a o ok z
          · intro st l eq
            obtain ⟨ns, x, k, g1, g2, g3, g4⟩ := (r13.tr r4).2 jj st l eq
            have d1 : st ≠ D := fun z => by
              obtain ⟨ns', x', k', g1', _⟩ := jj st l eq
              rw [z, hD] at g1'; cases g1'
            have d2 : l ≠ D := fun z => by
              obtain ⟨ns', x', k', _, g2', _⟩ := jj st l eq
              rw [z, hD] at g2'; cases g2'
            exact ⟨ns, x, k, by rw [upd_ne d1]; exact g1, by rw [upd_ne d2]; exact g2, g3, g4⟩
        · refine all.up (fun _ _ s => sqT_upd D4 s) fun a ha o z => ?_
          have : a ≠ D := fun w => by
            subst w
            rcases List.mem_append.mp ha with u | u
            · exact p6 u
            · exact Dq u
          rw [upd_ne this]; exact z
        · rw [List.nodup_append]
          exact ⟨p4, nq, fun a ha b hb z => by subst z; exact nodq a ha hb⟩
        · intro a ha
          rcases List.mem_append.mp ha with u | u
          · exact p5 a u
          · exact r13.back (e.on r1).jH (newq a u)
        · intro z
          rcases List.mem_append.mp z with u | u
          · exact p6 u
          · exact Dq u
      | false =>
        exact iteF ⟨r13, acc, ds, fp, D3, f3, p4, p5, p6, by omega, hno rfl⟩
    · rintro H' ⟨p1, acc, ds, fp, p2, p3, p4, p5, p6, p7, p8⟩
      refine q (.ref D) (.list ds) H' ⟨ds, rfl, p8⟩ (r1.tr p1) ⟨D :: fp, .lst p2 p3, ?_, fun a ha => ?_⟩
      · exact List.nodup_cons.mpr ⟨p6, p4⟩
      · rcases List.mem_cons.mp ha with w | w
        · rw [w]; exact r1.back e.jH hD
        · exact r1.back e.jH (p5 a w)
theorem d_lc {α : Type} {wi : TI} {g : TG} {vs : List Nat} {l : List α} {en : α → Im} (p : α → Bool) (m : α → PyData) (hi : EvI c wi Γ fz (l.map en)) (hl : l.length ≤ 1000000)
    (hb : ∀ a ∈ l, ∃ Γ' js, EvG c g (en a) (wipeG Γ vs) Γ' js ∧ (∀ j ∈ js, j ∈ vs) ∧ EvT c tt Γ' (p a) ∧ (p a = true → Ev c te Γ' .o (m a))) :
    Ev c (tLc wi g tt te vs) Γ .o (.list ((l.filter p).map m)) := by
  refine ((n_lc (fun n acc => acc = ((l.take n).filter p).map m) hi (by simpa using hl) rfl ?_).imp ?_).det
  · intro n a acc hn hacc
    rw [List.getElem?_map] at hn
    cases ha : l[n]? with
    | none => rw [ha] at hn; cases hn
    | some a0 =>
      rw [ha] at hn
      have : en a0 = a := Option.some.inj hn
      subst this
      have tk : l.take (n + 1) = l.take n ++ [a0] := by
        rw [List.take_add_one, ha]; rfl
      obtain ⟨Γ', js, h1, h2, h3, h4⟩ := hb a0 (List.mem_of_getElem? ha)
      refine ⟨Γ', js, h1, h2, p a0, fun d => d = m a0, h3, fun hp => ⟨(h4 hp).n, fun d hd => ?_⟩, fun hp => ?_⟩
      · rw [hacc, tk, hd]; simp [hp]
      · rw [hacc, tk]; simp [hp]
  · rintro d ⟨acc, rfl, h⟩
    have : (l.map en).length = l.length := by simp
    rw [this, List.take_length] at h
    rw [h]
/-- without a test -/
theorem d_lcA {α : Type} {wi : TI} {g : TG} {vs : List Nat} {l : List α} {en : α → Im} (m : α → PyData) (hi : EvI c wi Γ fz (l.map en)) (hl : l.length ≤ 1000000)
    (hb : ∀ a ∈ l, ∃ Γ' js, EvG c g (en a) (wipeG Γ vs) Γ' js ∧ (∀ j ∈ js, j ∈ vs) ∧ Ev c te Γ' .o (m a)) :
    Ev c (tLc wi g tYes te vs) Γ .o (.list (l.map m)) := by
  have := d_lc (te := te) (tt := tYes) (g := g) (vs := vs) (fun _ => true) m hi hl fun a ha => by
    obtain ⟨Γ', js, h1, h2, h3⟩ := hb a ha
    exact ⟨Γ', js, h1, h2, t_yes, fun _ => h3⟩
  have e : l.filter (fun _ => true) = l := List.filter_eq_self.mpr fun _ _ => rfl
  rwa [e] at this
end Lm


namespace Lm
open PySem PySem.Spec PyProof.Rows L2
variable {c : Ct} {H H' H0 H1 H2 H3 : Hp} {O : List Addr} {σ : L2.St} {Γ Γ' Γ1 : List (Option Rs)}
variable {te ta tb tx tl : TE} {tt tu : TT} {tr : TA} {k ka kb : Kd} {d x y z : PyData} {i j : Int} {a b : Bool} {kv fz : Bool} {ds es : List PyData}

/-! ### how a statement ends -/
inductive Out where
  | nx (Γ : List (Option Rs))
  | rt (k : Kd) (d : PyData)
  | bk (Γ : List (Option Rs))
  | ct (Γ : List (Option Rs))
def Rt (c : Ct) (H0 H : Hp) (v : V) (d : PyData) : Kd → Prop
  | .v => flatD d = true ∧ Bo c H v d
  | .o => ∃ fp, Fo c H v d fp ∧ fp.Nodup ∧ ∀ a ∈ fp, H0 a = none
  | .b => (∃ x, c.so = some x) ∧ Bo c H v d
def Sat (c : Ct) (H0 : Hp) (D : Ends) : Out → Prop
  | .nx Γ => ∀ O H σ, Env c H0 O H σ Γ → D.nx σ H
  | .rt k d => ∀ v H, Rr c H0 H → Rt c H0 H v d k → D.rt v H
  | .bk Γ => ∀ O H σ, Env c H0 O H σ Γ → D.bk σ H
  | .ct Γ => ∀ O H σ, Env c H0 O H σ Γ → D.ct σ H
def Sd (c : Ct) (t : TS) (Γ : List (Option Rs)) (P : Out → Prop) : Prop :=
  ∀ H0 O H σ D, Env c H0 O H σ Γ → (∀ o, P o → Sat c H0 D o) → t D σ H
section
variable {t u w : TS} {P P1 : Out → Prop} {n : Nat}
theorem Env.back0 (e : Env c H0 O H σ Γ) {a : Addr} (h : mns H O a = none) : H0 a = none := by
  cases q : H0 a with
  | none => rfl
  | some o =>
    have k : okA c a := fun st l z w => by
      obtain ⟨ns, x, k, g1, _⟩ := e.j st l z
      rw [← w, h] at g1
      cases g1
    have := e.r0.1 a o k q
    rw [h] at this
    cases this
theorem s_next (h : P (.nx Γ)) : Sd c tNext Γ P := fun H0 O H σ D e s => s _ h O H σ e
theorem s_seq (h : Sd c t Γ P1) (hn : ∀ Γ1, P1 (.nx Γ1) → Sd c u Γ1 P) (hr : ∀ k d, P1 (.rt k d) → P (.rt k d)) (hb : ∀ Γ1, P1 (.bk Γ1) → P (.bk Γ1)) (hc : ∀ Γ1, P1 (.ct Γ1) → P (.ct Γ1)) : Sd c (tSeq t u) Γ P := fun H0 O H σ D e s =>
  h H0 O H σ _ e fun o po => match o with
    | .nx Γ1 => fun O1 H1 σ1 e1 => hn Γ1 po H0 O1 H1 σ1 D e1 s
    | .rt k d => fun v H1 r q => s _ (hr k d po) v H1 r q
    | .bk Γ1 => fun O1 H1 σ1 e1 => s _ (hb Γ1 po) O1 H1 σ1 e1
    | .ct Γ1 => fun O1 H1 σ1 e1 => s _ (hc Γ1 po) O1 H1 σ1 e1
theorem s_seq1 (h : Sd c t Γ (fun o => o = .nx Γ1)) (hn : Sd c u Γ1 P) : Sd c (tSeq t u) Γ P :=
  s_seq h (fun _ e => by cases e; exact hn) (fun _ _ e => nomatch e) (fun _ e => nomatch e) (fun _ e => nomatch e)
theorem Sd.imp (h : Sd c t Γ P1) (i : ∀ o, P1 o → P o) : Sd c t Γ P := fun H0 O H σ D e s => h H0 O H σ D e fun o po => s o (i o po)
/-- another description of the slots -/
theorem Sd.pre (h : Sd c t Γ1 P) (i : ∀ H0 O H σ, Env c H0 O H σ Γ → ∃ O', Env c H0 O' H σ Γ1) : Sd c t Γ P := fun H0 O H σ D e s => by
  obtain ⟨O', e'⟩ := i H0 O H σ e
  exact h H0 O' H σ D e' s
theorem s_freeze (h : Γ[n]? = some (some (.o d))) (hs : Sd c t (Γ.set n (some (.v d))) P) : Sd c t Γ P :=
  hs.pre fun H0 O H σ e => let ⟨O', e', _⟩ := e.freeze h; ⟨O', e'⟩
/-- what an expression gave is stored: to be returned -/
theorem Rt.of {v : V} (e : Env c H0 O H σ Γ) (r : Rr c H H2) (h : Res c O H H2 v d k) (hk : k = .o ∨ (k = .v ∧ flatD d = true)) : Rt c H0 H2 v d k := by
  rcases hk with rfl | ⟨rfl, f⟩
  · obtain ⟨fp, q, nd, new⟩ := h
    refine ⟨fp, q, nd, fun a ha => e.back0 ?_⟩
    have : a ∉ O := fun z => by
      obtain ⟨xs, w, _⟩ := e.dm a z
      rw [new a ha] at w; cases w
    rw [mns_out this]; exact new a ha
  · exact ⟨f, Bo.same mns_same h⟩
theorem s_ret (h : Ev c te Γ k d) (hk : k = .o ∨ (k = .v ∧ flatD d = true)) (p : P (.rt k d)) : Sd c (tRet te) Γ P := fun H0 O H σ D e s =>
  h H0 O H σ e _ fun v H2 r q => s _ p v H2 (e.rH.tr r) (Rt.of e r q hk)
theorem s_retN (Pd : PyData → Prop) (h : EvN c te Γ k Pd) (hk : k = .o ∨ (k = .v ∧ ∀ d, Pd d → flatD d = true)) (p : ∀ d, Pd d → P (.rt k d)) : Sd c (tRet te) Γ P := fun H0 O H σ D e s =>
  h H0 O H σ e _ fun v d H2 pd r q => s _ (p d pd) v H2 (e.rH.tr r) (Rt.of e r q (hk.imp id fun w => ⟨w.1, w.2 d pd⟩))
/-- what stays is returned, lists in it too: to be read at once -/
theorem s_retB {x : Addr × Addr} (Pd : PyData → Prop) (hs : c.so = some x) (h : EvN c te Γ .v Pd) (p : ∀ d, Pd d → P (.rt .b d)) : Sd c (tRet te) Γ P := fun H0 O H σ D e s =>
  h H0 O H σ e _ fun v d H2 pd r q => s _ (p d pd) v H2 (e.rH.tr r) ⟨⟨x, hs⟩, Bo.same mns_same q⟩
theorem s_asg (h : Ev c te Γ .v d) (p : P (.nx (Γ.set n (some (.v d))))) : Sd c (tAsg te (gName n)) Γ P := fun H0 O H σ D e s =>
  h H0 O H σ e _ fun v H2 r q => s _ p O H2 _ ((e.on r).setV q)
theorem s_asgO (h : Ev c te Γ .o d) (p : P (.nx (Γ.set n (some (.o d))))) : Sd c (tAsg te (gName n)) Γ P := fun H0 O H σ D e s =>
  h H0 O H σ e _ fun v H2 r ⟨fp, f, nd, new⟩ => s _ p _ H2 _ (e.setO r f nd new)
theorem q_asg (h : Ev c te Γ .v d) (p : Sd c u (Γ.set n (some (.v d))) P) : Sd c (tSeq (tAsg te (gName n)) u) Γ P := s_seq1 (s_asg h rfl) p
theorem q_asgO (h : Ev c te Γ .o d) (p : Sd c u (Γ.set n (some (.o d))) P) : Sd c (tSeq (tAsg te (gName n)) u) Γ P := s_seq1 (s_asgO h rfl) p
theorem q_asgN (Pd : PyData → Prop) (h : EvN c te Γ .v Pd) (p : ∀ d, Pd d → Sd c u (Γ.set n (some (.v d))) P) : Sd c (tSeq (tAsg te (gName n)) u) Γ P := fun H0 O H σ D e s =>
  h H0 O H σ e _ fun v d H2 pd r q => p d pd H0 O H2 _ D ((e.on r).setV q) s
theorem q_asgNO (Pd : PyData → Prop) (h : EvN c te Γ .o Pd) (p : ∀ d, Pd d → Sd c u (Γ.set n (some (.o d))) P) : Sd c (tSeq (tAsg te (gName n)) u) Γ P := fun H0 O H σ D e s =>
  h H0 O H σ e _ fun v d H2 pd r ⟨fp, f, nd, new⟩ => p d pd H0 _ H2 _ D (e.setO r f nd new) s
theorem q_drop (h : Ev c te Γ k d) (p : Sd c u Γ P) : Sd c (tSeq (tDrop te) u) Γ P := fun H0 O H σ D e s =>
  h H0 O H σ e _ fun v H2 r q => p H0 O H2 σ D (e.on r) s
theorem s_drop (h : Ev c te Γ k d) (p : P (.nx Γ)) : Sd c (tDrop te) Γ P := fun H0 O H σ D e s =>
  h H0 O H σ e _ fun v H2 r q => s _ p O H2 σ (e.on r)
theorem s_if (h : EvT c tt Γ a) (h1 : a = true → Sd c t Γ P) (h2 : a = false → Sd c u Γ P) : Sd c (tIfS tt t u) Γ P := fun H0 O H σ D e s =>
  h H0 O H σ e _ fun H2 r => by
    cases a with
    | true => exact iteT (h1 rfl H0 O H2 σ D (e.on r) s)
    | false => exact iteF (h2 rfl H0 O H2 σ D (e.on r) s)
/-- if, then the rest -/
theorem q_if (h : EvT c tt Γ a) (h1 : a = true → Sd c (tSeq t w) Γ P) (h2 : a = false → Sd c (tSeq u w) Γ P) : Sd c (tSeq (tIfS tt t u) w) Γ P := fun H0 O H σ D e s =>
  h H0 O H σ e _ fun H2 r => by
    cases a with
    | true => exact iteT (h1 rfl H0 O H2 σ D (e.on r) s)
    | false => exact iteF (h2 rfl H0 O H2 σ D (e.on r) s)
theorem q_next (h : Sd c u Γ P) : Sd c (tSeq tNext u) Γ P := fun H0 O H σ D e s => h H0 O H σ D e s
theorem q_ret (h : Ev c te Γ k d) (hk : k = .o ∨ (k = .v ∧ flatD d = true)) (p : P (.rt k d)) : Sd c (tSeq (tRet te) u) Γ P := fun H0 O H σ D e s =>
  h H0 O H σ e _ fun v H2 r q => s _ p v H2 (e.rH.tr r) (Rt.of e r q hk)
/-- if that surely is not so (or is) -/
theorem q_no (h : EvT c tt Γ false) (h2 : Sd c w Γ P) : Sd c (tSeq (tIfS tt t tNext) w) Γ P := q_if h (fun e => nomatch e) (fun _ => q_next h2)
theorem s_no (h : EvT c tt Γ false) (h2 : Sd c u Γ P) : Sd c (tIfS tt t u) Γ P := s_if h (fun e => nomatch e) (fun _ => h2)
theorem s_yes (h : EvT c tt Γ true) (h2 : Sd c t Γ P) : Sd c (tIfS tt t u) Γ P := s_if h (fun _ => h2) (fun e => nomatch e)
theorem FoAll.set0 : ∀ {v : List V} {d : List PyData} {m : Nat} {x : V} {e : PyData}, FoAll c H v d [] → flatD e = true → Bo c H x e → FoAll c H (v.set m x) (d.set m e) [] := by
  intro v
  induction v with
  | nil =>
    intro d m x e h q b
    cases h
    exact .nil
  | cons v0 v ih =>
    intro d m x e h q b
    generalize hz : ([] : List Addr) = z at h
    cases h with
    | cons a r =>
      obtain ⟨h1, h2⟩ := List.append_eq_nil_iff.mp hz.symm
      subst h1
      subst h2
      cases m with
      | zero => exact .cons (f := []) (fs := []) (.leaf q b) r
      | succ m => exact .cons (f := []) (fs := []) a (ih r q b)
/-- xs[i] = e, xs a list of flat things -/
theorem s_setI (hx : Γ[n]? = some (some (.o (.list ds)))) (hds : flatAll ds = true) (h : Ev c te Γ k d) (hf : flatD d = true) (hi : Ev c ta Γ ka (.int (i : Int))) (hj : ixN ds.length i = some m) (p : P (.nx (Γ.set n (some (.o (.list (ds.set m d))))))) : Sd c (tAsg te (gSub (tVar n) ta rSetL)) Γ P := fun H0 O H σ D e s =>
  h H0 O H σ e _ fun v H2 r rs => by
    have e2 := e.on r
    obtain ⟨q, xs, f, hq, hp, fa, qf, qO, _⟩ := e2.write (es := ds.set m d) hx
    refine ⟨.ref q, hq, hi H0 O H2 σ e2 _ fun w H3 r3 ws => ?_⟩
    have e3 := e2.on r3
    obtain ⟨q', xs', f', hq', hp', fa', qf', qO', wr⟩ := e3.write (es := ds.set m d) hx
    have : q' = q := by rw [hq] at hq'; cases hq'; rfl
    subst this
    have bo : Bo c H3 v d := Res.bo e (Res.on e r r3 rs)
    have lx : xs'.length = ds.length := (fa'.bo fun a ha => e.okO a (qO' a ha)).len
    refine ⟨q', xs', i, m, rfl, (Res.bo e2 ws).int', hp', by rw [lx]; exact hj, s _ p O _ σ (wr _ ?_)⟩
    obtain ⟨rfl, ba⟩ := fa'.flat0 hds
    exact (FoAll.set0 fa' hf bo).up (fun _ _ s => sqT_upd hp' s) fun a ha => nomatch ha
/-! ### for -/
theorem s_for {wi : TI} {g : TG} {tb : TS} {items : List Im} (hi : EvI c wi Γ true items) (I : Nat → List (Option Rs) → Prop) (h0 : I 0 Γ)
    (hs : ∀ n a Γ1, items[n]? = some a → I n Γ1 → ∃ Γ2 js, EvG c g a Γ1 Γ2 js ∧
      Sd c tb Γ2 (fun o => (∃ Γ3, (o = .nx Γ3 ∨ o = .ct Γ3) ∧ I (n + 1) Γ3) ∨ (∃ Γ3, o = .bk Γ3 ∧ P (.nx Γ3)) ∨ ∃ k d, o = .rt k d ∧ P o))
    (hd : ∀ Γ1, I items.length Γ1 → P (.nx Γ1)) : Sd c (tFor wi g tb) Γ P := fun H0 O H σ D e s =>
  hi H0 O H σ e _ fun J H1 r1 w => by
    obtain ⟨jF, w⟩ := w
    have e1 := e.on r1
    refine for_it w (fun n σ' H' => ∃ O' Γ', I n Γ' ∧ Env c (mns H1 O) O' H' σ' Γ') ⟨O, Γ, h0, e1.base⟩ ?_ ?_ ?_
    · rintro n σ' H' _ ⟨O', Γ', _, e'⟩
      exact e'.rH
    · rintro n x σ' H' H'' hn ⟨O', Γ', hI, e'⟩ ⟨sm, im, him, lo⟩
      have e2 := e'.on (Rr.same sm)
      obtain ⟨Γ2, js, hg, hb⟩ := hs n im Γ' him hI
      refine hg _ _ _ _ _ true x e2 jF e2.rH (fun _ => e2.r0) lo _ fun σ2 e3 _ => hb _ _ _ _ _ e3 fun o po => ?_
      rcases po with ⟨Γ3, ho, h3⟩ | ⟨Γ3, ho, h3⟩ | ⟨k, d, ho, h3⟩
      · rcases ho with rfl | rfl
        · exact fun O4 H4 σ4 e4 => ⟨O4, Γ3, h3, e4⟩
        · exact fun O4 H4 σ4 e4 => ⟨O4, Γ3, h3, e4⟩
      · subst ho
        exact fun O4 H4 σ4 e4 => s _ h3 O4 H4 σ4 (e1.fromB e4)
      · subst ho
        intro v H4 r4 rt
        refine s _ h3 v H4 ((e.r0.tr (r1.mns e.j e.okO)).tr r4) ?_
        cases k with
        | v => exact rt
        | o =>
          obtain ⟨fp, q, nd, new⟩ := rt
          exact ⟨fp, q, nd, fun a ha => e1.back0 (new a ha)⟩
        | b => exact rt
    · rintro σ' H' ⟨O', Γ', hI, e'⟩
      exact s _ (hd Γ' hI) O' H' σ' (e1.fromB e')
theorem q_for {wi : TI} {g : TG} {tb : TS} {items : List Im} (hi : EvI c wi Γ true items) (I : Nat → List (Option Rs) → Prop) (h0 : I 0 Γ)
    (hs : ∀ n a Γ1, items[n]? = some a → I n Γ1 → ∃ Γ2 js, EvG c g a Γ1 Γ2 js ∧
      Sd c tb Γ2 (fun o => (∃ Γ3, (o = .nx Γ3 ∨ o = .ct Γ3) ∧ I (n + 1) Γ3) ∨ (∃ Γ3, o = .bk Γ3 ∧ Sd c u Γ3 P) ∨ ∃ k d, o = .rt k d ∧ P o))
    (hd : ∀ Γ1, I items.length Γ1 → Sd c u Γ1 P) : Sd c (tSeq (tFor wi g tb) u) Γ P :=
  s_seq (P1 := fun o => match o with | .nx Γ3 => Sd c u Γ3 P | .rt k d => P (.rt k d) | _ => False)
    (s_for hi I h0 (fun n a Γ1 h1 h2 => by
      obtain ⟨Γ2, js, hg, hb⟩ := hs n a Γ1 h1 h2
      refine ⟨Γ2, js, hg, hb.imp fun o po => ?_⟩
      rcases po with w | ⟨Γ3, ho, h3⟩ | ⟨k, d, ho, h3⟩
      · exact .inl w
      · exact .inr (.inl ⟨Γ3, ho, h3⟩)
      · subst ho; exact .inr (.inr ⟨k, d, rfl, h3⟩)) hd) (fun _ h => h) (fun _ _ h => h) (fun _ h => h.elim) (fun _ h => h.elim)
end

/-! ### new tuples and lists; built-ins -/
theorem newTk {xs : List V} {Q : VK} (h : ∀ p H2, H p = none → Same H H2 → TpN c.K H2 p xs → Q (.ref p) H2) : NewT H xs Q := fun p o ho hp =>
  h p _ hp (fun b u z => by rw [upd_ne (ne_of_none z hp)]; exact z) (.inl ⟨o, ho, upd_same⟩)
theorem BoAll.vm {O : List Addr} {vs : List V} (h : BoAll c (if true = true then mns H O else H) vs ds) : BoAll c (mns H O) vs ds := h
theorem new_notO (e : Env c H0 O H σ Γ) {p : Addr} (h : H p = none) : p ∉ O := fun z => by
  obtain ⟨xs, w, _⟩ := e.dm p z
  rw [h] at w; cases w
theorem tpN_mns (e : Env c H0 O H σ Γ) (r : Rr c H H2) {p : Addr} {xs : List V} (h : TpN c.K H2 p xs) : TpN c.K (mns H2 O) p xs := sqT_mns (fun b hb => (e.on r).dm b hb) h
theorem d_tup (h : EvA c tr Γ true ds) (hl : ds.length ≤ 1000000) : Ev c (tTupN tr) Γ .v (.tuple ds) := fun H0 O H σ e Q q =>
  h H0 O H σ e _ fun vs H1 r s => by
    have s' := BoAll.vm s
    refine ⟨by rw [s'.len]; exact sizeOk hl, newTk (c := c) fun p H2 hp sm tp => q _ H2 (r.tr (Rr.same sm)) ?_⟩
    have r2 : Rr c H H2 := r.tr (Rr.same sm)
    exact .tup (tpN_mns e r2 tp) (s'.mono (e.on r).j ((Rr.same sm : Rr c H1 H2).mns (e.on r).j e.okO))
theorem d_lst (h : EvA c tr Γ kv ds) (hf : flatAll ds = true) (hl : ds.length ≤ 1000000) : Ev c (tLst tr) Γ .o (.list ds) := fun H0 O H σ e Q q =>
  h H0 O H σ e _ fun vs H1 r s => by
    have s' : BoAll c H1 vs ds := by
      cases kv with
      | true => exact BoAll.same mns_same (BoAll.vm s)
      | false => exact s
    refine ⟨by rw [s'.len]; exact sizeOk hl, fun p hp => q _ _ (r.tr (Rr.same fun b u z => by rw [upd_ne (ne_of_none z hp)]; exact z)) ?_⟩
    have sm : Same H1 (upd H1 p (.lst vs)) := fun b u z => by rw [upd_ne (ne_of_none z hp)]; exact z
    exact ⟨[p], .lst upd_same (FoAll.leaves hf (s'.same sm)), by simp, fun a ha => by
      have : a = p := by simpa using ha
      rw [this]; exact r.back e.jH hp⟩
/-- a call by values -/
theorem d_cb {r : List V → Hp → VK → Prop} (h : EvA c tr Γ false ds) (hr : ∀ H O vs (Q : VK), BoAll c H vs ds → (∀ v H2, Rr c H H2 → Bo c (mns H2 O) v z → Q v H2) → r vs H Q) : Ev c (tCB r tr) Γ .v z := fun H0 O H σ e Q q =>
  h H0 O H σ e _ fun vs H1 r1 s => hr H1 O vs Q s fun v H2 r2 b => q v H2 (r1.tr r2) b
theorem BoAll.one {v : List V} (h : BoAll c H v [d]) : ∃ x, v = [x] ∧ Bo c H x d := by
  cases h with
  | cons a b => cases b; exact ⟨_, rfl, a⟩
theorem BoAll.two {v : List V} (h : BoAll c H v [d, x]) : ∃ y z, v = [y, z] ∧ Bo c H y d ∧ Bo c H z x := by
  cases h with
  | cons a b =>
    cases b with
    | cons a' b => cases b; exact ⟨_, _, rfl, a, a'⟩
def rLen (K : PySem.W.Frag) : List V → Hp → VK → Prop := fun xs H Q => ∃ p ys, xs = [.ref p] ∧ (SqL K H p ys ∨ SqT K H p ys) ∧ Q (.int ys.length) H
theorem d_lenT (h : Ev c te Γ k (.tuple ds)) : Ev c (tCB (rLen c.K) (tCons te tNil)) Γ .v (.int ds.length) :=
  d_cb (a_cons h a_nil) fun H O vs Q s q => by
    obtain ⟨x, rfl, b⟩ := s.one
    obtain ⟨p, xs, rfl, s, al⟩ := b.tup'
    exact ⟨p, xs, rfl, .inr s.sq, by rw [al.len]; exact q _ H Rr.rf (.int _)⟩
theorem d_lenL (h : Ev c te Γ k (.list ds)) : Ev c (tCB (rLen c.K) (tCons te tNil)) Γ .v (.int ds.length) :=
  d_cb (a_cons h a_nil) fun H O vs Q s q => by
    obtain ⟨x, rfl, b⟩ := s.one
    obtain ⟨p, xs, rfl, _, s, al⟩ := b.lst'
    exact ⟨p, xs, rfl, .inl s, by rw [al.len]; exact q _ H Rr.rf (.int _)⟩
theorem d_all {bs : List Bool} (h : Ev c te Γ k (.list (bs.map .bool))) : Ev c (tCB (rAll c.K) (tCons te tNil)) Γ .v (.bool (bs.all id)) :=
  d_cb (a_cons h a_nil) fun H O vs Q s q => by
    obtain ⟨x, rfl, b⟩ := s.one
    obtain ⟨p, xs, rfl, _, s, al⟩ := b.lst'
    have := al.bools
    subst this
    exact ⟨p, bs, rfl, s, q _ H Rr.rf (.bl _)⟩
theorem n_tuple {P : List PyData → Prop} (h : EvN c te Γ k (fun d => ∃ ds, d = .list ds ∧ P ds)) (hf : ∀ ds, P ds → flatAll ds = true) : EvN c (tCB (rTuple c.K) (tCons te tNil)) Γ .v (fun d => ∃ ds, d = .tuple ds ∧ P ds) := fun H0 O H σ e Q q =>
  h H0 O H σ e _ fun v d H1 ⟨ds, hd, pd⟩ r s => by
    subst hd
    obtain ⟨p, xs, rfl, _, sl, al⟩ := (Res.bo e s).lst'
    refine ⟨p, xs, rfl, .inl ⟨sl, newTk (c := c) fun p' H2 hp sm tp => q _ (.tuple ds) H2 ⟨ds, rfl, pd⟩ (r.tr (Rr.same sm)) ?_⟩⟩
    have r2 : Rr c H H2 := r.tr (Rr.same sm)
    exact .tup (tpN_mns e r2 tp) ((al.same sm).flatTo (fun a xs s => sqT_mns (fun b hb => (e.on r2).dm b hb) s) (hf ds pd))
theorem d_tuple (h : Ev c te Γ k (.list ds)) (hf : flatAll ds = true) : Ev c (tCB (rTuple c.K) (tCons te tNil)) Γ .v (.tuple ds) :=
  ((n_tuple (P := fun es => es = ds) (h.n.imp fun d hd => ⟨ds, hd, rfl⟩) fun es he => he ▸ hf).imp fun d ⟨es, h1, h2⟩ => by rw [h1, h2]).det
end Lm


namespace Lm
open PySem PySem.Spec PyProof.Rows L2
variable {c : Ct} {H H' H0 H1 H2 H3 : Hp} {O : List Addr} {σ : L2.St} {Γ Γ' Γ1 : List (Option Rs)}
variable {te ta tb tx tl : TE} {tt tu : TT} {tr : TA} {k ka kb : Kd} {d x y z : PyData} {i j : Int} {a b : Bool} {kv fz : Bool} {ds es : List PyData}

/-! ### promises of defs over data -/
abbrev pc (K : PySem.W.Frag) : Ct := ⟨K, none⟩
/-- args, how the answer is held, the answer -/
abbrev Pre := List PyData → Kd → PyData → Prop
def spD (K : PySem.W.Frag) (pre : Pre) : Sp := fun vs H Q _ => ∃ ds k d, BoAll (pc K) H vs ds ∧ pre ds k d ∧ ∀ v H', Same H H' → Rt (pc K) H H' v d k → Q v H'
/-- with the stream first: one of several answers -/
abbrev PreS := List PyData → Kd → (PyData → Prop) → Prop
abbrev sc (K : PySem.W.Frag) (st l : Addr) : Ct := ⟨K, some (st, l)⟩
def spS (K : PySem.W.Frag) (pre : PreS) : Sp := fun vs H Q _ => ∃ st l vs' ds k P, vs = .ref st :: vs' ∧ Str1 K st l H ∧ BoAll (sc K st l) H vs' ds ∧ pre ds k P ∧ ∀ v d H', P d → Rr (sc K st l) H H' → Rt (sc K st l) H H' v d k → Q v H'
mutual
theorem Fo.ct {c' : Ct} (hk : c'.K = c.K) : ∀ {v : V} {d : PyData} {fp : List Addr}, Fo c H v d fp → Fo c' H v d fp
  | _, _, _, .leaf q b => .leaf q (b.flat hk q)
  | _, _, _, .lst e a => .lst e (FoAll.ct hk a)
theorem FoAll.ct {c' : Ct} (hk : c'.K = c.K) : ∀ {v : List V} {d : List PyData} {fp : List Addr}, FoAll c H v d fp → FoAll c' H v d fp
  | _, _, _, .nil => .nil
  | _, _, _, .cons a b => .cons (Fo.ct hk a) (FoAll.ct hk b)
end
theorem Rt.res {v : V} (e : Env c H0 O H σ Γ) (r : Rr c H H2) (h : Rt c H H2 v d k) : Res c O H H2 v d k := by
  cases k with
  | v => exact Bo.flatM e r h.1 h.2
  | o => exact h
  | b => exact h.2
theorem d_call {pre : Pre} {E : XK} (h : EvA c tr Γ false ds) (hp : pre ds k d) : Ev c (tCall (spD c.K pre) [] E tr) Γ k d := fun H0 O H σ e Q q =>
  h H0 O H σ e _ fun vs H1 r s => by
    refine ⟨ds, k, d, by rw [List.append_nil]; exact s.pure, hp, fun v H2 sm rt => q v H2 (r.tr (Rr.same sm)) ?_⟩
    have r2 : Rr c H H2 := r.tr (Rr.same sm)
    cases k with
    | v => exact (Bo.flat (c := pc c.K) (c' := c) rfl rt.1 rt.2).flatM e r2 rt.1
    | o =>
      obtain ⟨fp, f, nd, new⟩ := rt
      exact ⟨fp, Fo.ct (c := pc c.K) (c' := c) rfl f, nd, fun a ha => r.back e.jH (new a ha)⟩
    | b => obtain ⟨⟨_, e⟩, _⟩ := rt; exact nomatch e
theorem n_call {pre : PreS} {E : XK} {st l : Addr} {P : PyData → Prop} {n : Nat} (hc : c.so = some (st, l)) (hst : Γ[n]? = some (some (.r (.ref st)))) (h : EvA c tr Γ false ds) (hp : pre ds k P) :
    EvN c (tCall (spS c.K pre) [] E (tCons (tVar n) tr)) Γ k P := fun H0 O H σ e Q q => by
  have hcc : c = sc c.K st l := by cases c; cases hc; rfl
  refine ⟨_, e.slotR hst, h H0 O H σ e _ fun vs H1 r s => ?_⟩
  refine ⟨st, l, vs, ds, k, P, by simp, (e.on r).jH st l hc, by rw [← hcc]; exact s, hp, fun v d H2 pd r2 rt => ?_⟩
  rw [← hcc] at r2 rt
  refine q v d H2 pd (r.tr r2) ?_
  exact (Rt.res (e.on r) r2 rt).back e r
/-! ### a def's body -/
def argsG (ds : List PyData) (n : Nat) : List (Option Rs) := ds.map (fun d => some (.v d)) ++ List.replicate (n - ds.length) none
theorem reps_none {O : List Addr} : ∀ n : Nat, Reps c O H (List.replicate n none) (List.replicate n none) []
  | 0 => .nil
  | n + 1 => .cons (f := []) (fs := []) rfl (reps_none n)
theorem reps_args {O : List Addr} {rest : L2.St} {restG : List (Option Rs)} (hr : Reps c O H rest restG []) : ∀ {vs : List V} {ds : List PyData}, BoAll c (mns H O) vs ds → Reps c O H (vs.map some ++ rest) (ds.map (fun d => some (.v d)) ++ restG) []
  | _, _, .nil => hr
  | _, _, .cons a b => .cons (f := []) (fs := []) ⟨rfl, _, rfl, a⟩ (reps_args hr b)
theorem env_args {N : List Str} {vs : List V} (j : Ji c H) (h : BoAll c H vs ds) : Env c H [] H (start N vs) (argsG ds N.length) := by
  refine ⟨Rr.same (by rw [mns_nil]; exact Same.refl _), by rw [mns_nil]; exact j, (fun _ h => nomatch h), (fun _ h => nomatch h), [], ?_, List.nodup_nil, (fun _ h => nomatch h)⟩
  unfold L2.start argsG
  rw [h.len]
  exact reps_args (reps_none _) (by rw [mns_nil]; exact h)
theorem Ji.pc {K : PySem.W.Frag} {H : Hp} : Ji (pc K) H := fun _ _ e => nomatch e
/-- the body of a def without the stream -/
theorem run_pure {K : PySem.W.Frag} {N : List Str} {t : TS} {pre : Pre} {vs : List V} {Q : VK} {E : XK} (hs : ∀ ds k d, pre ds k d → Sd (pc K) t (argsG ds N.length) (fun o => o = .rt k d ∨ (k = .v ∧ d = .none ∧ ∃ Γ, o = .nx Γ)))
    (h : spD K pre vs H Q E) : t { nx := fun _ H' => Q .non H', rt := Q } (start N vs) H := by
  obtain ⟨ds, k, d, hb, hp, hq⟩ := h
  have sm : ∀ H', Rr (Lm.pc K) H H' → Same H H' := fun H' r a o z => r.1 a o (fun _ _ e => nomatch e) z
  refine hs ds k d hp H [] H (start N vs) _ (env_args Ji.pc hb) fun o po => ?_
  rcases po with rfl | ⟨rfl, rfl, Γ, rfl⟩
  · exact fun v H' r rt => hq v H' (sm H' r) rt
  · intro O H' σ e
    exact hq .non H' (sm H' (e.r0.tr (Rr.same mns_same))) ⟨rfl, .non⟩
theorem spD_len {K : PySem.W.Frag} {pre : Pre} {vs : List V} {Q : VK} {E : XK} {n : Nat} (h : spD K pre vs H Q E) (hl : ∀ ds k d, pre ds k d → ds.length = n) : vs.length = n := by
  obtain ⟨ds, k, d, hb, hp, _⟩ := h
  rw [hb.len, hl ds k d hp]
/-- the body of a def with the stream first -/
theorem run_str {K : PySem.W.Frag} {N : List Str} {t : TS} {pre : PreS} {vs : List V} {Q : VK} {E : XK}
    (hs : ∀ st l ds k P, pre ds k P → Sd (sc K st l) t (some (.r (.ref st)) :: (ds.map (fun d => some (.v d)) ++ List.replicate (N.length - (ds.length + 1)) none)) (fun o => ∃ d, o = .rt k d ∧ P d))
    (h : spS K pre vs H Q E) : t { nx := fun _ H' => Q .non H', rt := Q } (start N vs) H := by
  obtain ⟨st, l, vs', ds, k, P, rfl, hst, hb, hp, hq⟩ := h
  have j : Ji (sc K st l) H := fun st' l' e => by cases e; exact hst
  refine hs st l ds k P hp H [] H (start N (.ref st :: vs')) _ ⟨Rr.same (by rw [mns_nil]; exact Same.refl _), by rw [mns_nil]; exact j, (fun _ h => nomatch h), (fun _ h => nomatch h), [], ?_, List.nodup_nil, (fun _ h => nomatch h)⟩ fun o po => ?_
  · unfold L2.start
    have : (V.ref st :: vs').length = ds.length + 1 := by simp [hb.len]
    rw [this]
    exact .cons (f := []) (fs := []) ⟨rfl, rfl⟩ (reps_args (reps_none _) (by rw [mns_nil]; exact hb))
  · obtain ⟨d, rfl, pd⟩ := po
    exact fun v H' r rt => hq v d H' pd r rt
theorem spS_len {K : PySem.W.Frag} {pre : PreS} {vs : List V} {Q : VK} {E : XK} {n : Nat} (h : spS K pre vs H Q E) (hl : ∀ ds k P, pre ds k P → ds.length + 1 = n) : vs.length = n := by
  obtain ⟨st, l, vs', ds, k, P, rfl, _, hb, hp, _⟩ := h
  simp [hb.len, hl ds k P hp]
/-- what a caller knows of a def: where it stands, what it promises -/
structure Cal (P : Program) (w : World) (K : PySem.W.Frag) (mg : Str → Option Value) (base : Heap) (CX : CXT) (k : Nat) (x : Str) (ps : List Str) (sp : Sp) : Prop where
  ok : ∃ f fd, FnOk P w K mg base CX k f fd ps sp ∧ mg x = some (.ref f) ∧ PySem.W.keepIn K (.ref f) = true ∧ Binds K fd ps []
section
variable {X : Cx}
theorem pe_cal {CX : CXT} {E : XK} {k : Nat} {x : Str} {ps : List Str} {sp : Sp} {p pos : Pos} {e : Expr} {es : List Expr} {t : TA} (F : Cal X.prog X.w X.K X.mg X.base CX k x ps sp) (hr : Room k X.A) (hg : Gl X x) (hx : Passes CX X E) (ha : PA X (e :: es) t)
    (hdb : (x == ("__debug__" : Str)) = false := by decide) (he : starEach (e :: es) X.env = (false, eval e X.env) :: starEach es X.env := by rfl) (hpl : (backTo pos (starEach es X.env)).any (·.1) = false := by rfl) :
    PE X (.Call (.Name x p) (e :: es) [] pos) (tCall sp [] E t) := by
  obtain ⟨f, fd, F1, F2, F3, F4⟩ := F.ok
  exact pe_call F1 hr hg F2 F3 F4 .nil hx ha hdb he hpl
end
/-! ### methods of tuples -/
theorem d_count {ns : List Int} (h : Ev c ta Γ ka (.tuple (ns.map .int))) (hb : Ev c tb Γ kb (.int i)) : Ev c (tTM c.K (rCountT c.K) ta (tCons tb tNil)) Γ .v (.int (ns.count i : Nat)) := fun H0 O H σ e Q q =>
  h H0 O H σ e _ fun v H1 r1 s1 => by
    obtain ⟨p, xs, rfl, s, al⟩ := (Res.bo e s1).tup'
    refine ⟨⟨p, xs, rfl, s⟩, hb H0 O H1 σ (e.on r1) _ fun u H2 r2 s2 => ?_⟩
    obtain ⟨p', xs', e', s', al'⟩ := (Res.bo e (Res.on e r1 r2 s1)).tup'
    cases e'
    have := al'.ints
    subst this
    exact ⟨p, ns, i, rfl, by rw [(Res.bo (e.on r1) s2).int'], s'.sq, q _ H2 (r1.tr r2) (.int _)⟩
end Lm


namespace Lm
open PySem PySem.Spec PyProof.Rows L2
/-! ### enumerate(tuple) -/
/-- the turns of enumerate over the tuple at a: its items as they stand, each in a pair -/
def IteT (K : PySem.W.Frag) (a : Addr) : It where
  go := fun i H => ∃ (xs : List V) (x : V), SqT K H a xs ∧ xs[i]? = some x
  yld := fun i H v H' => ∃ T x, v = .ref T ∧ H T = none ∧ H' = upd H T (.tup [.int (i : Nat), x]) ∧ ∀ xs, SqT K H a xs → xs[i]? = some x
  stop := fun i H => ∃ xs : List V, SqT K H a xs ∧ xs.length = i
theorem turnEnumT {P : Program} {w : World} {K : PySem.W.Frag} {elts : List Expr} {kk : Nat} {tpos : Pos} (a e it : Addr) :
    Turn P w K (.Tuple elts kk tpos) (IteT K a) [e, it] e fun i h => (∃ old, IsEnum h e it ((i : Nat) : Int) old) ∧ h.IsTupleIter it a i ∧ e ≠ it ∧ a ≠ it where
  mem := List.mem_cons_self
  obj := by
    rintro i h ⟨⟨old, he⟩, ⟨o, ho, hc, hd⟩, _⟩ b hb
    rcases List.mem_cons.mp hb with rfl | hb
    · exact ⟨_, he, fun v q => nomatch q⟩
    · cases List.mem_singleton.mp hb
      exact ⟨o, ho, fun v q => by rw [hd] at q; cases q⟩
  keep := by
    rintro i h h' ⟨⟨old, he⟩, hi, hne⟩ k
    exact ⟨⟨old, k e List.mem_cons_self _ he⟩, hi.at fun o q => k it (List.mem_cons_of_mem _ List.mem_cons_self) o q, hne⟩
  item := by
    intro X hP hw hK hc i pins s σ H E I hf ⟨⟨old, he⟩, hit, hne, hai⟩ ⟨xs, x, hq, hx⟩
    subst hP hw hK
    obtain ⟨its, rv, p, hz⟩ := I.tuple hq
    obtain ⟨u, hu, ru⟩ := rv.get hx
    have hlt : i < its.toArray.size := by rw [List.size_toArray]; exact (List.getElem?_eq_some_iff.mp hu).1
    have hel := Heap.lt_size he
    have hil : it < s.heap.objs.size := let ⟨_, q, _⟩ := hit; Heap.lt_size q
    have hea : e ≠ a := fun z => by
      have h0 := (hf e List.mem_cons_self).1
      obtain ⟨ob, g, gc, n, gd⟩ := p
      rw [← z, he] at g
      cases g
      exact absurd gc (by simp)
    have DT := Draws.tuple (prog := X.prog) (w := X.w) (A := X.A.in1) (show X.A.in1.handled = none from I.ok.hd hc) it a hai its.toArray
    refine PySem.wpAny_pyNext_enum_itemD DT he ⟨hit, p⟩ hlt hne (by simpa [hne] using hea) fun x' h' tk hx' ho hs' hT hsz hk => ?_
    have ex : x' = u := by
      have : its[i]? = some x' := by simpa using hx'
      rw [hu] at this
      exact (Option.some.inj this).symm
    subst ex
    refine ⟨_, rfl, wpAny_letOwnedTupleGo_enum (s := { s with heap := h', toks := tk + 1 }) ho fun h'' he' sb => ?_⟩
    have hT2 := (sb.2 _ (Nat.ne_of_gt hel)).trans hT
    have new : ObjOk X.prog X.w (upd H s.heap.objs.size (.tup [.int (i : Nat), x])) h'' s.heap.objs.size (.tup [.int (i : Nat), x]) :=
      ⟨(by decide : 2 ≤ sizeLine), [.int i tk, x'], .cons ⟨_, rfl⟩ (.cons ru .nil), _, hT2, rfl, _, rfl⟩
    have I1 := I.turnedNew (t' := tk + 1) (ch := [e, it]) (fun b ob hb q => (sb.2 b fun z => hb (z ▸ List.mem_cons_self)).trans (hk b ob (fun z => hb (z ▸ List.mem_cons_self)) (fun z => hb (z ▸ List.mem_cons_of_mem _ List.mem_cons_self)) q)) hf (Nat.le_refl _) new
    refine ⟨.ref s.heap.objs.size, _, I1, rfl, ⟨_, x, rfl, I.hok.fresh (Nat.le_refl _), rfl, fun ys hy => by rw [I.tuple_inj hy hq]; exact hx⟩, ⟨⟨x', ?_⟩, hs'.1.at fun o q => (sb.2 it hne.symm).trans q, hne, hai⟩, fun b hb => ?_⟩
    · have e1 : ((i + 1 : Nat) : Int) = (i : Int) + 1 := by omega
      rw [e1]; exact he'
    · have hb' : b < s.heap.objs.size := by
        rcases List.mem_cons.mp hb with rfl | hb
        · exact hel
        · cases List.mem_singleton.mp hb; exact hil
      rw [upd_ne (Nat.ne_of_lt hb')]
      exact (hf b hb).1
  done := by
    intro X hP hw hK hc i pins s σ H E I hf ⟨⟨old, he⟩, hit, hne, hai⟩ ⟨xs, hq, hx⟩
    subst hP hw hK
    obtain ⟨its, rv, p, hz⟩ := I.tuple hq
    obtain ⟨f0, f1, f2, f3, f4, f5⟩ := hf it (List.mem_cons_of_mem _ List.mem_cons_self)
    have hl : its.toArray.size = i := by rw [List.size_toArray, ← rv.length]; exact hx
    have DT := Draws.tuple (prog := X.prog) (w := X.w) (A := X.A.in1) (show X.A.in1.handled = none from I.ok.hd hc) it a hai its.toArray
    rw [hl] at DT
    exact PySem.wpAny_pyNext_enum_endD DT he ⟨hit, p⟩
      fun h' eb => ⟨rfl, I.turned (t' := s.toks) (fun b o hb q => eb b o hb q) f0 f1 f3 f4 f5⟩
  self := fun A i s Q E ⟨⟨_, he⟩, _⟩ h => wpAny_pyIter_enum he h
theorem meetsEnumT {l : Addr} {items : Array Value} :
    Meets (Builtin.«enumerate.__new__» ⟨[.type "enumerate", .ref l], []⟩) fun _ R s => s.heap.IsTuple l items ∧
      R (.ok (.ret (.ref (s.heap.push { cls := .type "tuple_iterator", data := .fields #[.ref l, .int 0 0] }).objs.size)))
        { s with heap := (s.heap.push { cls := .type "tuple_iterator", data := .fields #[.ref l, .int 0 0] }).push { cls := .type "enumerate", data := .fields #[.none, .bool false, .ref s.heap.objs.size, rawInt 0, .none, .none] } } :=
  .of_wp fun prog w A R s h => by
    obtain ⟨hp, g, d, tk, os⟩ := s
    obtain ⟨hl, h⟩ := h
    have q1 : ∀ {A' : Around} {E Q : Value → Shared → Prop}, Q (.ref hp.objs.size) ⟨hp.push { cls := .type "tuple_iterator", data := .fields #[.ref l, .int 0 0] }, g, d, tk, os⟩ → wpAny (model prog w) A' (pyIter (.ref l)) Q E ⟨hp, g, d, tk, os⟩ := fun q => wpAny_pyIter_tuple hl q
    have hsub := sub_enumerate
    wp_walk using q1
    refine wpAny_stack_any fun st => wpAny_pure ?_
    split
    · rename_i c _ _ _ _ _
      cases (c == Value.type "enumerate") <;> (wp_walk using q1; exact ⟨_, rfl, h⟩)
    · wp_walk using q1
      exact ⟨_, rfl, h⟩
theorem callEnumT {prog : Program} {w : World} {A : Around} {E : Value → Shared → Prop} {s : Shared} {l : Addr} {items : Array Value} {Q : Value → Shared → Prop} (hL : s.heap.IsTuple l items)
    (h : ∀ h', IsEnum h' (s.heap.objs.size + 1) s.heap.objs.size 0 .none → h'.IsTupleIter s.heap.objs.size l 0 → (∀ b o, s.heap.get? b = some o → h'.get? b = some o) → Q (.ref (s.heap.objs.size + 1)) { s with heap := h' }) :
    wpAny (model prog w) A (call (.type "enumerate") [.ref l]) Q E s := by
  refine callType_new F.called_enumerate (by decide) (F.typeCall_enumerate_1 _) (F.newCall_enumerate_1 _) (fun obj => F.args_object_init_2 obj _) F.entry_enumerate_new meetsEnumT ⟨hL, ?_⟩
  generalize hto : ({ cls := .type "tuple_iterator", data := .fields #[.ref l, .int 0 0] } : Obj) = to
  have hz : (s.heap.push to).objs.size = s.heap.objs.size + 1 := Heap.size_push ..
  show _ ∧ _
  rw [hz]
  have he : IsEnum ((s.heap.push to).push { cls := .type "enumerate", data := .fields #[.none, .bool false, .ref s.heap.objs.size, rawInt 0, .none, .none] }) (s.heap.objs.size + 1) s.heap.objs.size 0 .none := by
    have := Heap.get?_push_size (s.heap.push to) (o := { cls := .type "enumerate", data := .fields #[.none, .bool false, .ref s.heap.objs.size, rawInt 0, .none, .none] }) rfl
    rw [hz] at this
    exact this
  have hfree : to.isFreed = false := by rw [← hto]; rfl
  refine ⟨⟨_, he, rfl⟩, h _ he ?_ fun b o x => Heap.get?_push_of_some _ (Heap.get?_push_of_some _ x)⟩
  exact ⟨to, Heap.get?_push_of_some _ (Heap.get?_push_size _ hfree), by rw [← hto], by rw [← hto]; rfl⟩
def iEnumA (K : PySem.W.Frag) (ta : TA) : TI := fun σ H R => ta σ H fun vs H1 => ∃ a xs, vs = [.ref a] ∧ ((SqL K H1 a xs ∧ R (Ite K a) H1) ∨ (SqT K H1 a xs ∧ R (IteT K a) H1))
theorem pi_enumA {X : Cx} {e : Expr} {ta : TA} {p pos tpos : Pos} {elts : List Expr} {kk : Nat} (hg : Gl X "enumerate") (hm : X.mg "enumerate" = none) (ha : PA X [e] ta) (hs : starEach [e] X.env = [(false, eval e X.env)] := by rfl) :
    PI X (.Tuple elts kk tpos) (.Call (.Name "enumerate" p) [e] [] pos) (iEnumA X.K ta) := by
  refine ⟨fun pins s σ H R I h => Call_ (ld_blt I hg hm boot_enumerate (PyProof.Rows.callWith_type1 (thn (ha.run pos pins s σ H _ I h) fun us s1 ⟨vs, H1, I1, r1, q1⟩ => ?_) hs rfl))⟩
  obtain ⟨a, xs, rfl, q⟩ := q1
  obtain ⟨u, rfl, ru⟩ := vals1 r1
  cases ru
  have fresh2 : ∀ b ∈ [s1.heap.objs.size + 1, s1.heap.objs.size], FpOk X pins H1 b := fun b hb => by
    have hle : s1.heap.objs.size ≤ b := by
      rcases List.mem_cons.mp hb with rfl | hb
      · exact Nat.le_succ _
      · cases List.mem_singleton.mp hb; exact Nat.le_refl _
    exact I1.fpOk hle (I1.hok.fresh hle)
  rcases q with ⟨hq, q⟩ | ⟨hq, q⟩
  · obtain ⟨its, rv, p', hz⟩ := I1.list hq
    refine call_enumerate_list p'.isList fun h' he hit hsz hk => wpAny_pyIter_enum he ?_
    exact ⟨_, _, _, _, H1, rfl, I1.kept (t' := s1.toks) hk, turn_enum a (s1.heap.objs.size + 1) s1.heap.objs.size, ⟨⟨.none, he⟩, hit, Nat.succ_ne_self _⟩, fresh2, q⟩
  · obtain ⟨its, rv, p', hz⟩ := I1.tuple hq
    have ha : a < s1.heap.objs.size := let ⟨_, g, _⟩ := p'; Heap.lt_size g
    refine callEnumT p' fun h' he hit hk => wpAny_pyIter_enum he ?_
    exact ⟨_, _, _, _, H1, rfl, I1.kept (t' := s1.toks) hk, turnEnumT a (s1.heap.objs.size + 1) s1.heap.objs.size, ⟨⟨.none, he⟩, hit, Nat.succ_ne_self _, Nat.ne_of_lt ha⟩, fresh2, q⟩
theorem walk_enumT {K : PySem.W.Frag} {a : Addr} {xs : List V} : Walk (IteT K a) xs.length (fun H => SqT K H a xs) (YPair (fun i => some (.int (i : Nat))) fun i => xs[i]?) where
  goes := fun i _ hi q => ⟨xs, xs[i], q, List.getElem?_eq_getElem hi⟩
  stops := fun _ q => ⟨xs, q, rfl⟩
  yields := fun i H v H' _ q ⟨T, x, h1, h2, h3, h4⟩ => ⟨T, _, x, h1, h2, h3, rfl, h4 xs q⟩
end Lm


namespace Lm
open PySem PySem.Spec PyProof.Rows L2
/-- the greatest one of these and m -/
def mxOf (m : Int) (ns : List Int) : Int := ns.foldl (fun m n => if n > m then n else m) m
section
variable {prog : Program} {w : World} {A : Around} {E : Value → Shared → Prop} {s : Shared}
/-- a call of a built-in function with keywords, by its tree -/
theorem callFnKw {id : String} {b : Builtin} {args : List Value} {kw : List (Str × Value)} {Q : Value → Shared → Prop} (hk : builtinKind id = none) (hp : plainId id = true) (hb : entryFor table id = some b) (ha : argsOk id ⟨args, kw⟩)
    (hc : wpAny (model prog w) A.in1 (b ⟨args, kw⟩) (fun fin s' => match fin with
      | .done f => (match (Except.ok f : Result) with | .ok (.ret v) => Q v s' | .ok _ => False | .error e => E e s')
      | .again c' => c'.quiet = true ∧ codeAny (model prog w) A c' (fun r s' => match r with | .ok (.ret v) => Q v s' | .ok _ => False | .error e => E e s') s') E s) :
    wpAny (model prog w) A (call (.builtin id) args kw) Q E s := by
  refine wpAny_call (codeAny_call_builtin hp hb ?_)
  simp only [checkBuiltinCall, hk]
  cases hsig : Manifest.signature? id with
  | none => exact wpAny_pure hc
  | some sig =>
    have h2 : Bind.checkArgs id sig ⟨args, kw⟩ = pure () := by simpa only [argsOk, hsig] using ha
    show wpAny _ A.in1 (Bind.checkArgs id sig ⟨args, kw⟩) _ _ s
    exact h2 ▸ wpAny_pure hc
/-- max's loop with any keywords, from the j-th item on, the greatest so far being m -/
theorem maxLoopKw {R : Result → Shared → Prop} {I a S : Addr} {its : Array Value} {ns : List Int} {kw : List (Str × Value)} (hh : A.handled = none) (hi : IntsAre its.toList ns) (hSI : S ≠ I) (hSa : S ≠ a) (haI : a ≠ I) :
    ∀ (k j : Nat) (s : Shared) (m : Int) (t : Tok) (c : Nat), ns.length - j = k → j ≤ ns.length → s.heap.IsTupleIter I a j → s.heap.IsTuple a its → s.heap.get? S = some { cls := .type "list", data := .seq #[.int m t, .int m t] c } →
    (∀ h' tk t', (∀ b o, b ≠ I → b ≠ S → s.heap.get? b = some o → h'.get? b = some o) → R (.ok (.ret (.int (mxOf m (ns.drop j)) t'))) { s with heap := h', toks := tk }) →
    codeAny (model prog w) A (.builtin "max.loop" ⟨[.ref I, .none, .ref S], kw⟩) R s := by
  have hname : (toString "max" ++ toString ".loop" : String) = "max.loop" := by decide
  have hsz : its.size = ns.length := by rw [← Array.length_toList]; exact hi.length
  have W := Walks.tuple (prog := prog) (w := w) (A := A.in1) hh I a haI its
  intro k
  induction k with
  | zero =>
    intro j s m t c hk hj hit ht hS hR
    have e : j = ns.length := by omega
    subst e
    refine codeAny_builtin F.entry_max_loop ?_
    rw [Around.under_plainId F.plain_max_loop _]
    show wpAny _ A.in1 (seqItems? (.ref S) >>= _) _ _ s
    refine wpAny_bind (wpAny_seqItems hS rfl (wpAny_bind (wpAny_tryCatch (W.done s _ _ (hsz ▸ ⟨hit, ht⟩) fun h' tk hk' => ?_))))
    have hS' := hk' S _ (by simpa using hSI) hS
    show wpAny _ A.in1 (updateSeq S (fun _ => #[]) >>= _) _ _ _
    refine wpAny_bind (wpAny_updateSeq hS' rfl (wpAny_bind (wpAny_letGo (wpAny_pure ?_))))
    have := hR (h'.update S (Obj.mapSeq fun _ => #[])) tk t fun b o hb hb' q => (Heap.get?_update_other _ _ hb'.symm).trans (hk' b o (by simpa using hb) q)
    rw [List.drop_length] at this
    exact this
  | succ k ih =>
    intro j s m t c hk hj hit ht hS hR
    have hlt : j < ns.length := by omega
    obtain ⟨tj, hjt⟩ := hi.get j ns[j] (List.getElem?_eq_getElem hlt)
    refine codeAny_builtin F.entry_max_loop ?_
    rw [Around.under_plainId F.plain_max_loop _]
    show wpAny _ A.in1 (seqItems? (.ref S) >>= _) _ _ s
    refine wpAny_bind (wpAny_seqItems hS rfl (wpAny_bind (wpAny_tryCatch (W.item j s _ _ (by omega) ⟨hit, ht⟩ fun v h' tk hP hst' hk' => ?_))))
    have ev : v = .int ns[j] tj := by
      have h1 : its.toList[j]? = some v := by simpa using hP
      rw [hjt] at h1
      exact (Option.some.inj h1).symm
    subst ev
    have hS' := hk' S _ (by simpa using hSI) hS
    have hdrop : ns.drop j = ns[j] :: ns.drop (j + 1) := List.drop_eq_getElem_cons hlt
    have gt : ∀ (s0 : Shared) (Q0 E0 : Value → Shared → Prop), Q0 (.bool (decide (ns[j] > m))) s0 → wpAny (model prog w) A.in1 (richCompare .Gt (.int ns[j] tj) (.int m t)) Q0 E0 s0 := fun s0 Q0 E0 q =>
      CmpOf.ints_gt (A := A.in1) (P := fun i v => (i = 0 ∧ v = .int ns[j] tj) ∨ (i = 1 ∧ v = .int m t)) (fun i => if i = 0 then ns[j] else m) (by rintro i v (⟨rfl, rfl⟩ | ⟨rfl, rfl⟩) <;> exact ⟨_, rfl⟩) 0 1 _ _ s0 Q0 E0 (.inl ⟨rfl, rfl⟩) (.inr ⟨rfl, rfl⟩) (by simpa using q)
    refine wpAny_bind (wpAny_pure ?_)
    refine wpAny_bind (wpAny_tryCatch (wpAny_holding (wpAny_bind (gt _ _ _ (wpAny_bind (wpAny_holding (wpAny_truthy_bool (wpAny_bind (wpAny_letGo (wpAny_pure ?_))))))))))
    by_cases hb : ns[j] > m
    · simp only [hb, decide_true, if_true]
      have e2 : mxOf m (ns.drop j) = mxOf ns[j] (ns.drop (j + 1)) := by
        rw [hdrop]
        exact congrArg (fun z => mxOf z (ns.drop (j + 1))) (if_pos hb)
      refine wpAny_bind (wpAny_updateSeq hS' rfl (wpAny_bind (wpAny_letGo ?_)))
      rw [hname]
      have oth : ∀ b o, b ≠ S → h'.get? b = some o → (h'.update S (Obj.mapSeq fun _ => #[.int ns[j] tj, .int ns[j] tj])).get? b = some o := fun b o q e => (Heap.get?_update_other _ _ q.symm).trans e
      refine wpAny_pure ⟨plainId_quiet F.plain_max_loop _, ih (j + 1) _ ns[j] tj _ (by omega) hlt (hst'.1.at fun o q => oth _ _ hSI.symm q) (hst'.2.at fun o q => oth _ _ hSa.symm q) (Heap.get?_update_self _ hS' rfl) fun h'' tk'' t'' hk'' => ?_⟩
      exact e2 ▸ hR h'' tk'' t'' fun b o hbI hbS q => hk'' b o hbI hbS (oth b o hbS (hk' b o (by simpa using hbI) q))
    · simp only [hb, decide_false, Bool.false_eq_true, if_false]
      have e2 : mxOf m (ns.drop j) = mxOf m (ns.drop (j + 1)) := by
        rw [hdrop]
        exact congrArg (fun z => mxOf z (ns.drop (j + 1))) (if_neg hb)
      refine wpAny_bind (wpAny_letGo ?_)
      rw [hname]
      refine wpAny_pure ⟨plainId_quiet F.plain_max_loop _, ih (j + 1) _ m t c (by omega) hlt hst'.1 hst'.2 hS' fun h'' tk'' t'' hk'' => ?_⟩
      exact e2 ▸ hR h'' tk'' t'' fun b o hbI hbS q => hk'' b o hbI hbS (hk' b o (by simpa using hbI) q)
/-- max(t, default=d) of a tuple of ints -/
theorem callMaxD {a : Addr} {its : Array Value} {ns : List Int} {d : Value} {Q : Value → Shared → Prop} (hh : A.handled = none) (ht : s.heap.IsTuple a its) (hi : IntsAre its.toList ns)
    (h0 : ns = [] → ∀ h' tk, (∀ b o, s.heap.get? b = some o → h'.get? b = some o) → Q d { s with heap := h', toks := tk })
    (h1 : ∀ n ms, ns = n :: ms → ∀ h' tk t', (∀ b o, s.heap.get? b = some o → h'.get? b = some o) → Q (.int (mxOf n ms) t') { s with heap := h', toks := tk }) :
    wpAny (model prog w) A (call (.builtin "max") [.ref a] [("default", d)]) Q E s := by
  have hname : (toString "max" ++ toString ".loop" : String) = "max.loop" := by decide
  refine callFnKw F.kind_max F.plain_max F.entry_max (by unfold argsOk; kernel_rfl) ?_
  show wpAny _ A.in1 (Builtin.Builtins.bindParams "max" ["key", "default"] 0 ⟨[], [("default", d)]⟩ >>= _) _ _ s
  refine wpAny_bind (wpAny_of_eq (a := [none, some d]) rfl (wpAny_bind (wpAny_pure (wpAny_bind (wpAny_pyIter_tuple ht ?_)))))
  refine wpAny_bind (wpAny_newObj_type ?_)
  have haL : a < s.heap.objs.size := let ⟨_, g, _⟩ := ht; Heap.lt_size g
  generalize hhp : (s.heap.push { cls := .type "tuple_iterator", data := .fields #[.ref a, .int 0 0] }) = hp
  have hps : hp.objs.size = s.heap.objs.size + 1 := by rw [← hhp]; exact Heap.size_push ..
  have old : ∀ b o, s.heap.get? b = some o → hp.get? b = some o := fun b o q => by rw [← hhp]; exact Heap.get?_push_of_some _ q
  rw [hname]
  have W := Walks.tuple (prog := prog) (w := w) (A := A.in1) hh s.heap.objs.size a (Nat.ne_of_lt haL) its
  have sz : its.size = ns.length := by rw [← Array.length_toList]; exact hi.length
  have hS : (hp.push (seqObj "list" #[] 0)).get? hp.objs.size = some { cls := .type "list", data := .seq #[] 0 } := Heap.get?_push_size _ rfl
  have hitI : (hp.push (seqObj "list" #[] 0)).IsTupleIter s.heap.objs.size a 0 := ⟨_, Heap.get?_push_of_some _ (by rw [← hhp]; exact Heap.get?_push_size _ rfl), rfl, rfl⟩
  have htI : (hp.push (seqObj "list" #[] 0)).IsTuple a its := ht.at fun o q => Heap.get?_push_of_some _ (old _ _ q)
  have nIS : hp.objs.size ≠ s.heap.objs.size := by omega
  have nSa : hp.objs.size ≠ a := Nat.ne_of_gt (Nat.lt_of_lt_of_le haL (hps ▸ Nat.le_succ _))
  refine wpAny_pure ⟨plainId_quiet F.plain_max_loop _, codeAny_builtin F.entry_max_loop ?_⟩
  rw [Around.under_plainId F.plain_max_loop _]
  show wpAny _ A.in1 (seqItems? (.ref hp.objs.size) >>= _) _ _ _
  refine wpAny_bind (wpAny_seqItems hS rfl ?_)
  cases ns with
  | nil =>
    refine wpAny_bind (wpAny_tryCatch (W.done _ _ _ (sz ▸ ⟨hitI, htI⟩) fun h' tk hk => ?_))
    refine wpAny_bind (wpAny_rule (wpAny_pure ?_))
    exact h0 rfl h' tk fun b o q => hk b o (by simpa using Nat.ne_of_lt (Heap.lt_size q)) (Heap.get?_push_of_some _ (old b o q))
  | cons n ms =>
    obtain ⟨t0, ht0⟩ := hi.get 0 n rfl
    refine wpAny_bind (wpAny_tryCatch (W.item 0 _ _ _ (by rw [sz]; exact Nat.succ_pos _) ⟨hitI, htI⟩ fun v h' tk hP hst hk => ?_))
    have ev : v = .int n t0 := by
      have h1 : its.toList[0]? = some v := by simpa using hP
      rw [ht0] at h1
      exact (Option.some.inj h1).symm
    subst ev
    have hS' := hk _ _ (by simpa using nIS) hS
    refine wpAny_bind (wpAny_pure (wpAny_bind (wpAny_updateSeq hS' rfl ?_)))
    have oth : ∀ b o, b ≠ hp.objs.size → h'.get? b = some o → (h'.update hp.objs.size (Obj.mapSeq fun _ => #[.int n t0, .int n t0])).get? b = some o := fun b o q e => (Heap.get?_update_other _ _ q.symm).trans e
    rw [hname]
    refine wpAny_pure ⟨plainId_quiet F.plain_max_loop _, maxLoopKw hh hi nIS nSa (Nat.ne_of_lt haL) _ 1 _ n t0 _ rfl (Nat.succ_le_succ (Nat.zero_le _)) (hst.1.at fun o q => oth _ _ nIS.symm q) (hst.2.at fun o q => oth _ _ nSa.symm q) (Heap.get?_update_self _ hS' rfl) fun h'' tk'' t'' hk'' => ?_⟩
    refine h1 n ms rfl h'' tk'' t'' fun b o q => ?_
    have lb := Heap.lt_size q
    have b1 : b ≠ s.heap.objs.size := Nat.ne_of_lt lb
    have b2 : b ≠ hp.objs.size := Nat.ne_of_lt (Nat.lt_of_lt_of_le lb (hps ▸ Nat.le_succ _))
    exact hk'' b o b1 b2 (oth b o b2 (hk b o (by simpa using b1) (Heap.get?_push_of_some _ (old b o q))))
end
def rMaxDT (K : PySem.W.Frag) : List V → List V → Hp → VK → Prop := fun xs zs H Q => ∃ (a : Addr) (ns : List Int) (d : Int), xs = [.ref a] ∧ zs = [.int d] ∧ SqT K H a (ns.map V.int) ∧ Q (.int (match ns with | [] => d | n :: ms => mxOf n ms)) H
theorem cr_maxD {X : Cx} (hc : X.calm = true) : CallRK X (.builtin "max") [Str.ofString "default"] (rMaxDT X.K) := by
  intro pins s σ H vs zs us ws Q I r rz h
  obtain ⟨a, ns, d, rfl, rfl, hs, q⟩ := h
  obtain ⟨u, rfl, e⟩ := vals1 r
  cases e
  obtain ⟨w1, rfl, t, rfl⟩ := vals1 rz
  obtain ⟨its, rv, p, hz⟩ := I.tuple hs
  have hi := ints_of_vals rv
  refine callMaxD (ns := ns) (I.ok.hd hc) (show s.heap.IsTuple a its.toArray from p) hi (fun e h' tk hk => ?_) fun n ms e h' tk t' hk => ?_
  · subst e
    exact ⟨.int d, H, I.kept hk, ⟨_, rfl⟩, q⟩
  · subst e
    exact ⟨.int (mxOf n ms), H, I.kept hk, ⟨_, rfl⟩, q⟩
end Lm


namespace Lm
open PySem PySem.Spec PyProof.Rows L2
section
variable {X : Cx}
/-! ### rules that serve several kinds of values: the derivation need not know which -/
def rAddA (K : PySem.W.Frag) : R2 := fun x y H Q => rI0 (fun i j => .int (i + j)) x y H Q ∨ rCatN K x y H Q ∨ rCat x y H Q
theorem op_addA : OpR X (binaryOp .Add) (rAddA X.K) := op_add.or (op_catN.or op_cat)
def rMulA : R2 := fun x y H Q => rI CMul (fun i j => .int (i * j)) x y H Q ∨ rRep x y H Q
theorem op_mulA : OpR X (binaryOp .Mult) rMulA := op_mul.or op_rep
def rEqA (K : PySem.W.Frag) : R2 := fun x y H Q => rEq x y H Q ∨ rEqD K x y H Q
theorem op_eqA (hu : X.A.units + 64 < cLine) : OpR X (compareOp .Eq) (rEqA X.K) := op_eq.or (op_eqD hu)
def rNeA (K : PySem.W.Frag) : R2 := fun x y H Q => rNe x y H Q ∨ rNeD K x y H Q
theorem op_neA (hu : X.A.units + 64 < cLine) : OpR X (compareOp .NotEq) (rNeA X.K) := op_ne.or (op_neD hu)
def iSeq (K : PySem.W.Frag) (tl : TE) : TI := fun σ H R => iList K tl σ H R ∨ iTup K tl σ H R
theorem pi_seq {e tg : Expr} {tl : TE} (h : PE X e tl) : PI X tg e (iSeq X.K tl) := by
  refine ⟨fun pins s σ H R I q => ?_⟩
  rcases q with q | q
  · exact (pi_list h).run pins s σ H R I q
  · exact (pi_tup h).run pins s σ H R I q
def rUnits {k : Nat} {A : Around} (hr : Room k A) : A.units + 64 < cLine := by have := hr.un; omega
end
variable {c : Ct} {H H' H0 H1 H2 H3 : Hp} {O : List Addr} {σ : L2.St} {Γ Γ' Γ1 : List (Option Rs)}
variable {te ta tb tx tl : TE} {tt tu : TT} {tr : TA} {k ka kb kc : Kd} {d x y z : PyData} {i j : Int} {a b : Bool} {kv fz : Bool} {ds es : List PyData}
theorem e_add (ha : Ev c ta Γ ka (.int i)) (hb : Ev c tb Γ kb (.int j)) : Ev c (tOp (rAddA c.K) ta tb) Γ .v (.int (i + j)) :=
  d_bin ha hb fun H O v u Q bv bu q => .inl ⟨i, j, bv.int', bu.int', q _ H Rr.rf (.int _)⟩
theorem e_mul (ha : Ev c ta Γ ka (.int i)) (hb : Ev c tb Γ kb (.int j)) (h : CMul i j) : Ev c (tOp rMulA ta tb) Γ .v (.int (i * j)) :=
  d_bin ha hb fun H O v u Q bv bu q => .inl ⟨i, j, bv.int', bu.int', h, q _ H Rr.rf (.int _)⟩
theorem e_eqI (ha : Ev c ta Γ ka (.int i)) (hb : Ev c tb Γ kb (.int j)) : Ev c (tOp (rEqA c.K) ta tb) Γ .v (.bool (decide (i = j))) :=
  d_bin ha hb fun H O v u Q bv bu q => .inl ⟨by rw [bv.int', bu.int']; rfl, by rw [bv.int', bu.int', decI]; exact q _ H Rr.rf (.bl _)⟩
theorem e_neI (ha : Ev c ta Γ ka (.int i)) (hb : Ev c tb Γ kb (.int j)) : Ev c (tOp (rNeA c.K) ta tb) Γ .v (.bool (!decide (i = j))) :=
  d_bin ha hb fun H O v u Q bv bu q => .inl ⟨by rw [bv.int', bu.int']; rfl, by rw [bv.int', bu.int', decI]; exact q _ H Rr.rf (.bl _)⟩
theorem e_eqS {v w : V} (ha : Ev c ta Γ ka x) (hb : Ev c tb Γ kb y) (hx : scalD x = some v) (hy : scalD y = some w) (hs : scal v w = true) (hz : decide (v = w) = a) : Ev c (tOp (rEqA c.K) ta tb) Γ .v (.bool a) :=
  d_bin ha hb fun H O v' u' Q bv bu q => .inl ⟨by rw [bv.scal hx, bu.scal hy]; exact hs, by rw [bv.scal hx, bu.scal hy, hz]; exact q _ H Rr.rf (.bl _)⟩
theorem e_neS {v w : V} (ha : Ev c ta Γ ka x) (hb : Ev c tb Γ kb y) (hx : scalD x = some v) (hy : scalD y = some w) (hs : scal v w = true) (hz : (!decide (v = w)) = a) : Ev c (tOp (rNeA c.K) ta tb) Γ .v (.bool a) :=
  d_bin ha hb fun H O v' u' Q bv bu q => .inl ⟨by rw [bv.scal hx, bu.scal hy]; exact hs, by rw [bv.scal hx, bu.scal hy, hz]; exact q _ H Rr.rf (.bl _)⟩
theorem e_eqD (ha : Ev c ta Γ ka x) (hb : Ev c tb Γ kb y) (hx : SeqAt.shaped x = true) (hy : SeqAt.shaped y = true) : Ev c (tOp (rEqA c.K) ta tb) Γ .v (.bool (PyData.eqv x y)) :=
  d_bin ha hb fun H O v u Q bv bu q => .inr ⟨x, y, bv.dp, bu.dp, hx, hy, q _ H Rr.rf (.bl _)⟩
theorem e_ixT (ha : Ev c ta Γ ka (.tuple ds)) (hb : Ev c tb Γ kb (.int i)) (he : atI ds i = some d) (hf : flatD d = true) : Ev c (tOp (rIx c.K) ta tb) Γ .v d := fun H0 O H σ e Q q =>
  ha H0 O H σ e _ fun v H1 r1 s1 => hb H0 O H1 σ (e.on r1) _ fun u H2 r2 s2 => by
    obtain ⟨p, xs, rfl, s, al⟩ := (Res.bo e (Res.on e r1 r2 s1)).tup'
    obtain ⟨x, hx, bx⟩ := atI_bo al he
    exact .inr (.inl ⟨p, xs, i, x, rfl, (Res.bo (e.on r1) s2).int', s.sq, hx, q x H2 (r1.tr r2) (Bo.flatM e (r1.tr r2) hf bx)⟩)
theorem e_ixL (ha : Ev c ta Γ ka (.list ds)) (hb : Ev c tb Γ kb (.int i)) (he : atI ds i = some d) (hf : flatD d = true) : Ev c (tOp (rIx c.K) ta tb) Γ .v d := fun H0 O H σ e Q q =>
  ha H0 O H σ e _ fun v H1 r1 s1 => hb H0 O H1 σ (e.on r1) _ fun u H2 r2 s2 => by
    obtain ⟨p, xs, rfl, _, s, al⟩ := (Res.bo e (Res.on e r1 r2 s1)).lst'
    obtain ⟨x, hx, bx⟩ := atI_bo al he
    exact .inl ⟨p, xs, i, x, rfl, (Res.bo (e.on r1) s2).int', s, hx, q x H2 (r1.tr r2) (Bo.flatM e (r1.tr r2) hf bx)⟩
theorem e_ixLv (ha : Ev c ta Γ .v (.list ds)) (hb : Ev c tb Γ kb (.int i)) (he : atI ds i = some d) : Ev c (tOp (rIx c.K) ta tb) Γ .v d := fun H0 O H σ e Q q =>
  ha H0 O H σ e _ fun v H1 r1 s1 => hb H0 O H1 σ (e.on r1) _ fun u H2 r2 s2 => by
    obtain ⟨p, xs, rfl, _, s, al⟩ := Bo.lst' (Res.on e r1 r2 s1)
    obtain ⟨x, hx, bx⟩ := atI_bo al he
    exact .inl ⟨p, xs, i, x, rfl, (Res.bo (e.on r1) s2).int', mns_same.seq s, hx, q x H2 (r1.tr r2) bx⟩
/-- a < b < c of ints -/
theorem d_chain {f g : Int → Int → Bool} {l : Int} (ha : Ev c ta Γ ka (.int i)) (hb : Ev c tb Γ kb (.int j)) (hc : f i j = true → Ev c tx Γ kc (.int l)) :
    Ev c (tChain (rI0 fun i j => .bl (f i j)) (rI0 fun i j => .bl (g i j)) ta tb tx) Γ .v (.bool (f i j && g j l)) := fun H0 O H σ e Q q =>
  ha H0 O H σ e _ fun v H1 r1 s1 => hb H0 O H1 σ (e.on r1) _ fun u H2 r2 s2 => by
    refine ⟨i, j, (Res.bo e s1).int', (Res.bo (e.on r1) s2).int', f i j, rfl, ?_⟩
    cases hf : f i j with
    | true =>
      refine iteT (hc hf H0 O H2 σ ((e.on r1).on r2) _ fun w H3 r3 s3 => ?_)
      exact ⟨j, l, (Res.bo (e.on r1) s2).int', (Res.bo ((e.on r1).on r2) s3).int', by
        have := q (.bl (g j l)) H3 ((r1.tr r2).tr r3)
        rw [hf, Bool.true_and] at this
        exact this (.bl _)⟩
    | false =>
      refine iteF ?_
      have := q (.bl false) H2 (r1.tr r2)
      rw [hf, Bool.false_and] at this
      exact this (.bl _)
/-! ### isinstance -/
def tyD : PyData → String
  | .none => "NoneType"
  | .bool _ => "bool"
  | .int _ => "int"
  | .str _ => "str"
  | .list _ => "list"
  | .tuple _ => "tuple"
  | .dict _ => "dict"
theorem Bo.ty {v : V} (h : Bo c H v d) : TyX c.K H v (.type (tyD d)) := by
  cases h with
  | non => exact .base .non
  | bl b => exact .base (.bl b)
  | int i => exact .base (.int i)
  | str x => exact .base (.str x)
  | lst _ s a =>
    rcases s with (s | ⟨o, s⟩) | ⟨o, its, n, h1, h2, _⟩
    · exact .base (.lst s)
    · exact .base (.frz s)
    · exact .kList h1 h2
  | tup s a =>
    rcases s with ⟨o, _, s⟩ | ⟨o, its, n, h1, h2, _⟩
    · exact .fTuple s
    · exact .kTuple h1 h2
theorem e_isi {n : String} (h : Ev c te Γ k d) (e : kitB (tyD d) n = some b) : Ev c (tCB (rIsi c.K) (tCons te (tCons (tC (.ty n)) tNil))) Γ .v (.bool b) := fun H0 O H σ en Q q =>
  h H0 O H σ en _ fun v H1 r1 s1 => ⟨v, .ty n, _, _, b, rfl, .ty n, (Res.bo en s1).ty, kit_ty e, q _ H1 r1 (.bl b)⟩
/-! ### what is walked -/
theorem i_seqL (h : Ev c tl Γ k (.list ds)) (hk : k ≠ .b) : EvI c (iSeq c.K tl) Γ true (ds.map Im.d) := fun H0 O H σ e R q => .inl (i_list h hk H0 O H σ e R q)
theorem i_seqT (h : Ev c tl Γ k (.tuple ds)) (hk : k ≠ .b) : EvI c (iSeq c.K tl) Γ true (ds.map Im.d) := fun H0 O H σ e R q => .inr (i_tup h hk H0 O H σ e R q)
/-- the places and the items -/
def enumI (ds : List PyData) : List Im := ds.zipIdx.map fun p => .t [.d (.int (p.2 : Nat)), .d p.1]
theorem enum_core {J : It} {xs : List V} {F : Hp} (jF : Ji c F) (hw : Walk J xs.length (fun H => Rr c F H) (YPair (fun i => some (.int (i : Nat))) fun i => xs[i]?)) (hb : BoAll c F xs ds) (hf : fz = true ∨ flatAll ds = true) : WD c F fz J (enumI ds) := by
  refine ⟨jF, ?_⟩
  have hl : xs.length = (enumI ds).length := by rw [hb.len]; simp [enumI]
  rw [hl] at hw
  refine hw.mono (fun _ h => h) fun i H x H' hi g y => ?_
  obtain ⟨T, x1, x2, rfl, hT, rfl, h1, h2⟩ := y
  cases h1
  obtain ⟨d, hd, bd⟩ := hb.get h2
  have sm : Same H (upd H T (.tup [.int (i : Nat), x2])) := fun b o z => by rw [upd_ne (ne_of_none z hT)]; exact z
  refine ⟨sm, .t [.d (.int (i : Nat)), .d d], ?_, .tup (.inl (.inl upd_same)) (.cons (.leaf (.inl ⟨rfl, .int _⟩)) (.cons (.leaf ?_) .nil))⟩
  · simp [enumI, hd]
  · rcases hf with hf | hf
    · exact .inr ⟨hf, bd⟩
    · exact .inl ⟨flatAll_one hf (List.mem_of_getElem? hd), bd.mono jF (g.tr (Rr.same sm))⟩
theorem i_enumT (h : EvA c tr Γ true [.tuple ds]) : EvI c (iEnumA c.K tr) Γ true (enumI ds) := fun H0 O H σ e R q =>
  h H0 O H σ e _ fun vs H1 r s => by
    obtain ⟨x, rfl, b⟩ := (BoAll.vm s).one
    obtain ⟨p, xs, rfl, sl, al⟩ := b.tup'
    exact ⟨p, xs, rfl, .inr ⟨(sqT_same mns_same sl).sq, q _ H1 r (enum_core (e.on r).j (walk_enumT.mono (fun H h => (h.tup (e.on r).j sl).sq) fun _ _ _ _ _ _ y => y) al (.inl rfl))⟩⟩
/-- max(t, default=d) -/
def mxD (d : Int) : List Int → Int
  | [] => d
  | n :: ms => mxOf n ms
theorem e_maxD {ns : List Int} (h : Ev c ta Γ ka (.tuple (ns.map .int))) (hb : Ev c tb Γ kb (.int i)) : Ev c (tCKw (rMaxDT c.K) (tCons ta tNil) (tCons tb tNil)) Γ .v (.int (mxD i ns)) := fun H0 O H σ e Q q =>
  h H0 O H σ e _ fun v H1 r1 s1 => hb H0 O H1 σ (e.on r1) _ fun u H2 r2 s2 => by
    obtain ⟨p, xs, rfl, s, al⟩ := (Res.bo e (Res.on e r1 r2 s1)).tup'
    have := al.ints
    subst this
    refine ⟨p, ns, i, rfl, by rw [(Res.bo (e.on r1) s2).int'], s.sq, ?_⟩
    cases ns with
    | nil => exact q _ H2 (r1.tr r2) (.int _)
    | cons n ms => exact q _ H2 (r1.tr r2) (.int _)
end Lm


namespace Lm
open PySem PySem.Spec PyProof.Rows L2
section
variable {prog : Program} {w : World} {A : Around} {E : Value → Shared → Prop} {s : Shared}
/-- iter(t), what it takes to walk t -/
theorem iterTup {a : Addr} {its : Array Value} {Q : Value → Shared → Prop} (ht : s.heap.IsTuple a its)
    (h : ∀ s2 : Shared, s2 = { s with heap := s.heap.push { cls := .type "tuple_iterator", data := .fields #[.ref a, .int 0 0] } } → s2.heap.IsTupleIter s.heap.objs.size a 0 ∧ s2.heap.IsTuple a its → (∀ b ∈ [s.heap.objs.size, a], b < s2.heap.objs.size) → a ≠ s.heap.objs.size →
      (∀ b o, s.heap.get? b = some o → b ∉ [s.heap.objs.size] ∧ s2.heap.get? b = some o) → Q (.ref s.heap.objs.size) s2) : wpAny (model prog w) A (pyIter (.ref a)) Q E s := by
  have hlt : a < s.heap.objs.size := let ⟨_, g, _⟩ := ht; Heap.lt_size g
  refine wpAny_pyIter_tuple ht (h _ rfl ⟨⟨_, Heap.get?_push_size _ rfl, rfl, rfl⟩, ht.at fun o q => Heap.get?_push_of_some _ q⟩ (fun b hb => ?_) (Nat.ne_of_lt hlt) fun b o q => ⟨by simpa using Nat.ne_of_lt (Heap.lt_size q), Heap.get?_push_of_some _ q⟩)
  show b < (s.heap.push _).objs.size
  rw [Heap.size_push]
  rcases List.mem_cons.mp hb with rfl | hb
  · exact Nat.lt_succ_self _
  · cases List.mem_singleton.mp hb
    exact Nat.lt_succ_of_lt hlt
theorem preSum_take (ns : List Int) : ∀ j, j ≤ ns.length → preSum (fun i => ns.getD i 0) j = (ns.take j).sum
  | 0, _ => rfl
  | j + 1, h => by
    have e : ns[j]? = some ns[j] := List.getElem?_eq_getElem h
    rw [preSum, preSum_take ns j (Nat.le_of_succ_le h), sum_take e, List.getD_eq_getElem?_getD, e]
    rfl
theorem callSumT {a : Addr} {its : Array Value} {ns : List Int} {Q : Value → Shared → Prop} (hh : A.handled = none) (ht : s.heap.IsTuple a its) (hi : IntsAre its.toList ns)
    (h : ∀ h' tk t', (∀ b o, s.heap.get? b = some o → h'.get? b = some o) → Q (.int ns.sum t') { s with heap := h', toks := tk }) : wpAny (model prog w) A (call (.builtin "sum") [.ref a]) Q E s := by
  have hsz : its.size = ns.length := by rw [← Array.length_toList]; exact hi.length
  refine call_sum_walkG (iterTup ht fun s2 e st hfp hne old => ?_)
  refine ⟨_, _, _, ns.length, _, _, fun i => ns.getD i 0, rfl, hsz ▸ Walks.tuple (A := A.in1) hh _ a hne its, st, hfp, fun i v q => ?_, fun h' tk t' hk => ?_⟩
  · have h1 : its.toList[i]? = some v := by simpa using q
    have hlt : i < ns.length := by rw [← hi.length]; exact (List.getElem?_eq_some_iff.mp h1).1
    obtain ⟨t, h2⟩ := hi.get i ns[i] (List.getElem?_eq_getElem hlt)
    rw [h1] at h2
    refine ⟨t, ?_⟩
    show v = Value.int (ns.getD i 0) t
    rw [List.getD_eq_getElem?_getD, List.getElem?_eq_getElem hlt]
    exact Option.some.inj h2
  · rw [preSum_take ns _ (Nat.le_refl _), List.take_length]
    subst e
    exact h h' tk t' fun b o q => hk b o (old b o q).1 (old b o q).2
end
def rSumT (K : PySem.W.Frag) : List V → Hp → VK → Prop := fun vs H Q => ∃ (a : Addr) (ns : List Int), vs = [V.ref a] ∧ SqT K H a (ns.map V.int) ∧ Q (.int ns.sum) H
def rSumA (K : PySem.W.Frag) : List V → Hp → VK → Prop := fun vs H Q => rSum K vs H Q ∨ rSumT K vs H Q
section
variable {X : Cx}
theorem cr_sumT (hc : X.calm = true) : CallR X (.builtin "sum") (rSumT X.K) := by
  rintro pins s σ H vs us Q I r ⟨a, ns, rfl, hs, q⟩
  obtain ⟨its, rv, p, _⟩ := I.tuple hs
  rw [Vals.ref1 r]
  exact callSumT (I.ok.hd hc) (show s.heap.IsTuple a its.toArray from p) rv.ints fun h' tk t' hk => ⟨.int _, H, I.kept hk, ⟨_, rfl⟩, q⟩
theorem cr_sumA (hc : X.calm = true) : CallR X (.builtin "sum") (rSumA X.K) := (cr_sum hc).or (cr_sumT hc)
theorem cr_len : CallR X (.builtin "len") (rLen X.K) := call_len_seq
/-- a module's int -/
theorem pe_const {x : Str} {n : Int} {pos : Pos} (hg : Gl X x) (hm : ∃ t, X.mg x = some (.int n t)) (hd : (x == ("__debug__" : Str)) = false := by decide) : PE X (.Name x pos) (tC (.int n)) := by
  obtain ⟨t, h⟩ := hm
  exact pe_glob hg h ⟨t, rfl⟩ hd
/-- a built-in class as a value -/
theorem pe_ty {x : Str} {n : String} {pos : Pos} (hg : Gl X x) (hm : X.mg x = none) (hv : bootBuiltins x = some (.type n)) (hn : x ≠ "__name__" := by decide) (hd : (x == ("__debug__" : Str)) = false := by decide) : PE X (.Name x pos) (tC (.ty n)) :=
  pe_bltn hg hm hv rfl hn hd
/-- list(x) -/
def rListA (K : PySem.W.Frag) : List V → Hp → VK → Prop := fun xs H Q => ∃ p ys, xs = [.ref p] ∧ (SqL K H p ys ∨ SqT K H p ys) ∧ ∀ l, H l = none → Q (.ref l) (upd H l (.lst ys))
theorem cr_list : CallR X (.type "list") (rListA X.K) := call_list_of
end
variable {c : Ct} {H H' H0 H1 H2 H3 : Hp} {O : List Addr} {σ : L2.St} {Γ Γ' Γ1 : List (Option Rs)}
variable {te ta tb tx tl : TE} {tt tu : TT} {tr : TA} {k ka kb kc : Kd} {d x y z : PyData} {i j : Int} {a b : Bool} {kv fz : Bool} {ds es : List PyData}
theorem e_sumT {ns : List Int} (h : Ev c te Γ k (.tuple (ns.map .int))) : Ev c (tCB (rSumA c.K) (tCons te tNil)) Γ .v (.int ns.sum) :=
  d_cb (a_cons h a_nil) fun H O vs Q s q => by
    obtain ⟨x, rfl, b⟩ := s.one
    obtain ⟨p, xs, rfl, s, al⟩ := b.tup'
    have := al.ints
    subst this
    exact .inr ⟨p, ns, rfl, s.sq, q _ H Rr.rf (.int _)⟩
theorem e_sumL {ns : List Int} (h : Ev c te Γ k (.list (ns.map .int))) : Ev c (tCB (rSumA c.K) (tCons te tNil)) Γ .v (.int ns.sum) :=
  d_cb (a_cons h a_nil) fun H O vs Q s q => by
    obtain ⟨x, rfl, b⟩ := s.one
    obtain ⟨p, xs, rfl, _, s, al⟩ := b.lst'
    have := al.ints
    subst this
    exact .inl ⟨p, ns, rfl, s, q _ H Rr.rf (.int _)⟩
theorem e_listT (h : Ev c te Γ k (.tuple ds)) (hf : flatAll ds = true) : Ev c (tCB (rListA c.K) (tCons te tNil)) Γ .o (.list ds) := fun H0 O H σ e Q q =>
  h H0 O H σ e _ fun v H1 r s => by
    obtain ⟨p, xs, rfl, sl, al⟩ := (Res.bo e s).tup'
    refine ⟨p, xs, rfl, .inr sl.sq, fun l hl => ?_⟩
    have sm : Same H1 (upd H1 l (.lst xs)) := fun b u z => by rw [upd_ne (ne_of_none z hl)]; exact z
    exact q _ _ (r.tr (Rr.same sm)) ⟨[l], .lst upd_same (FoAll.leaves hf (al.same sm)), by simp, fun a ha => by
      cases List.mem_singleton.mp ha
      exact r.back e.jH hl⟩
end Lm
namespace Lm
open PySem PySem.Spec PyProof.Rows L2
variable {c : Ct} {Γ : List (Option Rs)} {te : TE} {tt : TT} {fz : Bool} {α : Type} {wi : TI} {g : TG} {vs : List Nat} {l : List α} {en : α → Im}
theorem d_lcB (m : α → Bool) (hi : EvI c wi Γ fz (l.map en)) (hl : l.length ≤ 1000000)
    (hb : ∀ a ∈ l, ∃ Γ' js, EvG c g (en a) (wipeG Γ vs) Γ' js ∧ (∀ j ∈ js, j ∈ vs) ∧ ∃ k, Ev c te Γ' k (.bool (m a))) : Ev c (tLc wi g tYes te vs) Γ .o (.list ((l.map m).map .bool)) := by
  have := d_lcA (te := te) (g := g) (vs := vs) (fun a => PyData.bool (m a)) hi hl fun a ha => by
    obtain ⟨Γ', js, h1, h2, k, h3⟩ := hb a ha
    exact ⟨Γ', js, h1, h2, h3.fo rfl⟩
  rw [List.map_map]
  exact this
theorem d_lcI (m : α → Int) (hi : EvI c wi Γ fz (l.map en)) (hl : l.length ≤ 1000000)
    (hb : ∀ a ∈ l, ∃ Γ' js, EvG c g (en a) (wipeG Γ vs) Γ' js ∧ (∀ j ∈ js, j ∈ vs) ∧ ∃ k, Ev c te Γ' k (.int (m a))) : Ev c (tLc wi g tYes te vs) Γ .o (.list ((l.map m).map .int)) := by
  have := d_lcA (te := te) (g := g) (vs := vs) (fun a => PyData.int (m a)) hi hl fun a ha => by
    obtain ⟨Γ', js, h1, h2, k, h3⟩ := hb a ha
    exact ⟨Γ', js, h1, h2, h3.fo rfl⟩
  rw [List.map_map]
  exact this
theorem d_lcPI (p : α → Bool) (m : α → Int) (hi : EvI c wi Γ fz (l.map en)) (hl : l.length ≤ 1000000)
    (hb : ∀ a ∈ l, ∃ Γ' js, EvG c g (en a) (wipeG Γ vs) Γ' js ∧ (∀ j ∈ js, j ∈ vs) ∧ EvT c tt Γ' (p a) ∧ (p a = true → ∃ k, Ev c te Γ' k (.int (m a)))) : Ev c (tLc wi g tt te vs) Γ .o (.list (((l.filter p).map m).map .int)) := by
  have := d_lc (te := te) (tt := tt) (g := g) (vs := vs) p (fun a => PyData.int (m a)) hi hl fun a ha => by
    obtain ⟨Γ', js, h1, h2, h3, h4⟩ := hb a ha
    exact ⟨Γ', js, h1, h2, h3, fun q => let ⟨k, h⟩ := h4 q; h.fo rfl⟩
  rw [List.map_map]
  exact this
end Lm
namespace Lm
open PySem
theorem flatT (ns : List Int) : flatD (.tuple (ns.map .int)) = true := flatAll_ints ns
end Lm
namespace Lm
open PySem PySem.Spec PyProof.Rows L2
def pairI (p : Int × Nat) : Im := .t [.d (.int ((p.2 : Nat) : Int)), .d (.int p.1)]
theorem enumI_ints (ns : List Int) : enumI (ns.map .int) = ns.zipIdx.map pairI := by
  unfold enumI
  rw [List.zipIdx_map, List.map_map]
  rfl
theorem i_enumTI {c : Ct} {Γ : List (Option Rs)} {tr : TA} {ns : List Int} (h : EvA c tr Γ true [.tuple (ns.map .int)]) : EvI c (iEnumA c.K tr) Γ true (ns.zipIdx.map pairI) := enumI_ints ns ▸ i_enumT h
end Lm
namespace Lm
open PySem PySem.Spec PyProof.Rows L2
def imI (n : Int) : Im := .d (.int n)
theorem i_seqTI {c : Ct} {Γ : List (Option Rs)} {tl : TE} {k : Kd} {ns : List Int} (h : Ev c tl Γ k (.tuple (ns.map .int))) (hk : k ≠ .b) : EvI c (iSeq c.K tl) Γ true (ns.map imI) := by
  have := i_seqT h hk
  rwa [List.map_map] at this
theorem i_seqLI {c : Ct} {Γ : List (Option Rs)} {tl : TE} {k : Kd} {ns : List Int} (h : Ev c tl Γ k (.list (ns.map .int))) (hk : k ≠ .b) : EvI c (iSeq c.K tl) Γ true (ns.map imI) := by
  have := i_seqL h hk
  rwa [List.map_map] at this
theorem kv_ne : Kd.v ≠ Kd.b := fun h => nomatch h
theorem ko_ne : Kd.o ≠ Kd.b := fun h => nomatch h
end Lm


/-! the rules, the written part given by name (within a comprehension's block it may not be read off the context) -/
namespace Lm
open PySem PySem.Spec PyProof.Rows L2
section
variable {X : Cx} {K : PySem.W.Frag} (hK : X.K = K)
include hK
theorem k_add : OpR X (binaryOp .Add) (rAddA K) := hK ▸ op_addA
theorem k_eq (hu : X.A.units + 64 < cLine) : OpR X (compareOp .Eq) (rEqA K) := hK ▸ op_eqA hu
theorem k_ne (hu : X.A.units + 64 < cLine) : OpR X (compareOp .NotEq) (rNeA K) := hK ▸ op_neA hu
theorem k_in : OpR X (compareOp .In) (rIn K false) := hK ▸ op_in_seq
theorem k_ix : IxR X (rIx K) := hK ▸ ix_seq
theorem k_slT : SlR X (rSlN K) := hK ▸ sl_tupN
theorem k_isi : CallR X (.builtin "isinstance") (rIsi K) := hK ▸ call_isi
theorem k_len : CallR X (.builtin "len") (rLen K) := hK ▸ cr_len
theorem k_all (hc : X.calm = true) : CallR X (.builtin "all") (rAll K) := hK ▸ cr_all hc
theorem k_sum (hc : X.calm = true) : CallR X (.builtin "sum") (rSumA K) := hK ▸ cr_sumA hc
theorem k_tuple : CallR X (.type "tuple") (rTuple K) := hK ▸ cr_tuple
theorem k_list : CallR X (.type "list") (rListA K) := hK ▸ cr_list
theorem k_maxD (hc : X.calm = true) : CallRK X (.builtin "max") [Str.ofString "default"] (rMaxDT K) := hK ▸ cr_maxD hc
theorem k_count : MtR X "tuple.count" (rCountT K) := hK ▸ mt_tcount
theorem k_seq {e tg : Expr} {tl : TE} (h : PE X e tl) : PI X tg e (iSeq K tl) := hK ▸ pi_seq h
theorem k_enum {e : Expr} {ta : TA} {p pos tpos : Pos} {elts : List Expr} {kk : Nat} (hg : Gl X "enumerate") (hm : X.mg "enumerate" = none) (ha : PA X [e] ta) (hs : starEach [e] X.env = [(false, eval e X.env)] := by rfl) :
    PI X (.Tuple elts kk tpos) (.Call (.Name "enumerate" p) [e] [] pos) (iEnumA K ta) := hK ▸ pi_enumA hg hm ha hs
theorem k_zip {e e2 : Expr} {ta : TA} {p pos tpos : Pos} {elts : List Expr} {kk : Nat} (hg : Gl X "zip") (hm : X.mg "zip" = none) (ha : PA X [e, e2] ta)
    (hs : starEach [e, e2] X.env = (false, eval e X.env) :: starEach [e2] X.env := by rfl) (hpl : (backTo pos (starEach [e2] X.env)).any (·.1) = false := by rfl) :
    PI X (.Tuple elts kk tpos) (.Call (.Name "zip" p) [e, e2] [] pos) (RZ.iZipA K ta) := hK ▸ RZ.pi_zipA hg hm ha hs hpl
theorem k_tup {es : List Expr} {k : Nat} {t : TGs} {n : Nat} {pos : Pos} (hc : X.calm = true) (h : PGs X es t)
    (hn : (assignEach es X.env).length = n := by rfl) (hst : (assignEach es X.env).findIdx? (·.1) = none := by rfl) : PG X (.Tuple es k pos) (gTup K n t) := hK ▸ pg_tup hc h hn hst
theorem k_tm {name : Str} {id : String} {r : V → List V → Hp → VK → Prop} {o e : Expr} {es : List Expr} {to : TE} {t : TA} {apos cpos : Pos} (slot : Slot "tuple" name id) (hty : typeOf (.builtin id) = pure (.type "method_descriptor")) (hm : MtR X id r) (ho : PE X o to) (ha : PA X (e :: es) t)
    (hbase : attributeBase o name X.env (eval o X.env) = eval o X.env := by rfl)
    (hfew : ((backTo cpos (starEach (e :: es) X.env)).all (fun x => !x.1) && (backToKw cpos (keywordEach [] X.env)).all (fun x => x.1.isSome) && decide ((e :: es).length + ([] : List Keyword).length + (if ([] : List Keyword).isEmpty then 0 else 1) < 30)) = true := by rfl)
    (hline : (apos.endLine == cpos.line) = true := by rfl) (hs : starEach (e :: es) X.env = (false, eval e X.env) :: starEach es X.env := by rfl) (hplain : (backTo cpos (starEach es X.env)).any (·.1) = false := by rfl) :
    PE X (.Call (.Attribute o name apos) (e :: es) [] cpos) (tTM K r to t) := hK ▸ pe_tm slot hty hm ho ha hbase hfew hline hs hplain
theorem k_bm {T : String} {name : Str} {id : String} {r : V → List V → Hp → VK → Prop} {o e : Expr} {es : List Expr} {to : TE} {t : TA} {apos cpos : Pos} (pa : PlainAttrs T) (slot : Slot T name id) (hty : typeOf (.builtin id) = pure (.type "method_descriptor")) (hm : MtR X id r) (ho : PE X o to) (ha : PA X (e :: es) t)
    (hbase : attributeBase o name X.env (eval o X.env) = eval o X.env := by rfl)
    (hfew : ((backTo cpos (starEach (e :: es) X.env)).all (fun x => !x.1) && (backToKw cpos (keywordEach [] X.env)).all (fun x => x.1.isSome) && decide ((e :: es).length + ([] : List Keyword).length + (if ([] : List Keyword).isEmpty then 0 else 1) < 30)) = true := by rfl)
    (hline : (apos.endLine == cpos.line) = true := by rfl) (hs : starEach (e :: es) X.env = (false, eval e X.env) :: starEach es X.env := by rfl) (hplain : (backTo cpos (starEach es X.env)).any (·.1) = false := by rfl) :
    PE X (.Call (.Attribute o name apos) (e :: es) [] cpos) (tBM K T r to t) := hK ▸ pe_bm pa slot hty hm ho ha hbase hfew hline hs hplain
end
end Lm


/-! the law's own start and end -/
namespace Lm
open PySem PySem.Spec PyProof.Rows L2
variable {c : Ct} {H H' H0 H1 H2 H3 : Hp} {O : List Addr} {σ : L2.St} {Γ Γ' Γ1 : List (Option Rs)}
variable {te ta tb tx tl : TE} {tt tu : TT} {tr : TA} {k ka kb kc : Kd} {d x y z : PyData} {i j : Int} {a b : Bool} {kv fz : Bool} {ds es : List PyData}
/-- law's: a list of at most 63 ints is handed in, True comes out -/
def spLaw (K : PySem.W.Frag) : Sp := fun vs H Q _ => ∃ (a : Addr) (ns : List Int), vs = [.ref a] ∧ SqL K H a (ns.map V.int) ∧ ns.length ≤ 63 ∧ ∀ H', Q (.bl true) H'
def spStream (K : PySem.W.Frag) : Sp := fun vs H Q _ => ∃ (a : Addr) (ns : List Int), vs = [.ref a] ∧ SqL K H a (ns.map V.int) ∧ ns.length ≤ 63 ∧ ∀ st l H', Same H H' → H st = none → Str1 K st l H' → Q (.ref st) H'
theorem run_law {K : PySem.W.Frag} {N : List Str} {t : TS} {vs : List V} {Q : VK} {E E' : XK} (hN : 2 ≤ N.length)
    (hs : ∀ st l, Sd (sc K st l) t (none :: some (.r (.ref st)) :: List.replicate (N.length - 2) none) (fun o => o = .rt .v (.bool true))) (h : spLaw K vs H Q E) :
    tSeq (tAsg (tCall (spStream K) [] E' (tCons (tVar 0) tNil)) (gName 1)) t { nx := fun _ H' => Q .non H', rt := Q } (start N vs) H := by
  obtain ⟨a, ns, rfl, hS, hl, hq⟩ := h
  have es : start N [.ref a] = some (.ref a) :: List.replicate (N.length - 1) none := rfl
  rw [es]
  refine ⟨.ref a, rfl, a, ns, rfl, hS, hl, fun st l H1 sm hst str => ?_⟩
  have j : Ji (sc K st l) H1 := fun st' l' e => by cases e; exact str
  refine hs st l H1 [] H1 _ _ ⟨Rr.same (by rw [mns_nil]; exact Same.refl _), by rw [mns_nil]; exact j, (fun _ h => nomatch h), (fun _ h => nomatch h), [], ?_, List.nodup_nil, (fun _ h => nomatch h)⟩ fun o po => ?_
  · have e2 : List.replicate (N.length - 1) (none : Option V) = none :: List.replicate (N.length - 2) none := by
      have : N.length - 1 = (N.length - 2) + 1 := by omega
      rw [this, List.replicate_succ]
    rw [e2]
    exact .cons (f := []) (fs := []) rfl (.cons (f := []) (fs := []) ⟨rfl, rfl⟩ (reps_none _))
  · subst po
    intro v H' _ rt
    have := rt.2.bl'
    subst this
    exact hq H'
/-! one of several answers -/
theorem n_bin {r : R2} {Pa Pb P : PyData → Prop} (ha : EvN c ta Γ ka Pa) (hb : EvN c tb Γ kb Pb)
    (hr : ∀ x y, Pa x → Pb y → ∃ z, P z ∧ ∀ H O v u (Q : VK), Bo c H v x → Bo c H u y → (∀ v' H2, Rr c H H2 → Bo c (mns H2 O) v' z → Q v' H2) → r v u H Q) : EvN c (tOp r ta tb) Γ .v P := fun H0 O H σ e Q q =>
  ha H0 O H σ e _ fun v x H1 px r1 s1 => hb H0 O H1 σ (e.on r1) _ fun u y H2 py r2 s2 => by
    obtain ⟨z, pz, hz⟩ := hr x y px py
    exact hz H2 O v u Q (Res.bo e (Res.on e r1 r2 s1)) (Res.bo (e.on r1) s2) fun v' H3 r3 b => q v' z H3 pz ((r1.tr r2).tr r3) b
/-- some int with Q -/
abbrev SomeI (Q : Int → Prop) : PyData → Prop := fun d => ∃ n : Int, d = .int n ∧ Q n
theorem n_add {Qa Qb Q : Int → Prop} (ha : EvN c ta Γ ka (SomeI Qa)) (hb : EvN c tb Γ kb (SomeI Qb)) (h : ∀ m n, Qa m → Qb n → Q (m + n)) : EvN c (tOp (rAddA c.K) ta tb) Γ .v (SomeI Q) :=
  n_bin ha hb fun x y ⟨m, hm, qm⟩ ⟨n, hn, qn⟩ => ⟨.int (m + n), ⟨_, rfl, h m n qm qn⟩, fun H O v u Q bv bu q => by
    subst hm; subst hn
    exact .inl ⟨m, n, bv.int', bu.int', q _ H Rr.rf (.int _)⟩⟩
theorem Ev.sm {Q : Int → Prop} (h : Ev c te Γ k (.int i)) (q : Q i) : EvN c te Γ k (SomeI Q) := h.n.imp fun d e => ⟨i, e, q⟩
end Lm


/-! what the defs promise -/
namespace Lm
open PySem PySem.Spec PyProof.Rows L2
/-- is an int from lo to hi -/
def isIntD : PyData → Int → Int → Bool
  | .int i, lo, hi => decide (lo ≤ i) && decide (i ≤ hi)
  | _, _, _ => false
def isIntTy : PyData → Bool
  | .int _ => true
  | .bool _ => true
  | _ => false
def isBoolTy : PyData → Bool
  | .bool _ => true
  | _ => false
theorem kit_int (x : PyData) : kitB (tyD x) "int" = some (isIntTy x) := by cases x <;> (simp only [tyD, isIntTy, isBoolTy]; decide +kernel)
theorem kit_bool (x : PyData) : kitB (tyD x) "bool" = some (isBoolTy x) := by cases x <;> (simp only [tyD, isIntTy, isBoolTy]; decide +kernel)
def sp_is_integer (K : PySem.W.Frag) : Sp := spD K fun ds k d => ∃ x lo hi, ds = [x, .int lo, .int hi] ∧ k = .v ∧ d = .bool (isIntD x lo hi)


def sp_require (K : PySem.W.Frag) : Sp := spD K fun ds k d => ∃ nm, ds = [.bool true, .str nm] ∧ k = .v ∧ d = .none
/-- a tuple of ints from lo to hi -/
def areInts : PyData → Int → Int → Bool
  | .tuple ds, lo, hi => ds.all fun d => isIntD d lo hi
  | _, _, _ => false
def isTupTy : PyData → Bool
  | .tuple _ => true
  | _ => false
theorem kit_tuple (x : PyData) : kitB (tyD x) "tuple" = some (isTupTy x) := by cases x <;> (simp only [tyD, isTupTy]; decide +kernel)
/-- tuples are not too long -/
def SmallT (x : PyData) : Prop := ∀ es, x = .tuple es → es.length ≤ 1000000
def sp_are_integers (K : PySem.W.Frag) : Sp := spD K fun ds k d => ∃ x lo hi, ds = [x, .int lo, .int hi] ∧ SmallT x ∧ k = .v ∧ d = .bool (areInts x lo hi)
theorem isInt_int {d : PyData} {lo hi : Int} (h : isIntD d lo hi = true) : ∃ n, d = .int n ∧ lo ≤ n ∧ n ≤ hi := by
  cases d with
  | int i =>
    simp only [isIntD, Bool.and_eq_true, decide_eq_true_eq] at h
    exact ⟨i, rfl, h.1, h.2⟩
  | _ => simp [isIntD] at h
theorem areInts_ints {x : PyData} {lo hi : Int} (h : areInts x lo hi = true) : ∃ ns : List Int, x = .tuple (ns.map .int) ∧ ∀ n ∈ ns, lo ≤ n ∧ n ≤ hi := by
  cases x with
  | tuple ds =>
    have h' : (ds.all fun d => isIntD d lo hi) = true := h
    clear h
    induction ds with
    | nil => exact ⟨[], rfl, fun _ h => nomatch h⟩
    | cons d ds ih =>
      rw [List.all_cons, Bool.and_eq_true] at h'
      obtain ⟨n, rfl, h1, h2⟩ := isInt_int h'.1
      obtain ⟨ns, e, h3⟩ := ih h'.2
      refine ⟨n :: ns, by rw [PyData.tuple.inj e]; rfl, fun m hm => ?_⟩
      rcases List.mem_cons.mp hm with q | q
      · rw [q]; exact ⟨h1, h2⟩
      · exact h3 m q
  | _ => simp [areInts] at h
theorem areInts_of {ns : List Int} {lo hi : Int} (h : ∀ n ∈ ns, lo ≤ n ∧ n ≤ hi) : areInts (.tuple (ns.map .int)) lo hi = true := by
  show ((ns.map PyData.int).all fun d => isIntD d lo hi) = true
  rw [List.all_map, List.all_eq_true]
  intro n hn
  have := h n hn
  simp [isIntD, this.1, this.2]


def lenT : PyData → Nat
  | .tuple ds => ds.length
  | _ => 0
def intD : PyData → Int
  | .int i => i
  | _ => 0
def sumT : PyData → Int
  | .tuple ds => (ds.map intD).sum
  | _ => 0
theorem lenT_ints (ns : List Int) : lenT (.tuple (ns.map .int)) = ns.length := by simp [lenT]
theorem sumT_ints (ns : List Int) : sumT (.tuple (ns.map .int)) = ns.sum := by
  have : (intD ∘ PyData.int) = id := rfl
  simp [sumT, this]
def isAlloc (x : PyData) (n b : Int) : Bool := areInts x 0 b && (decide ((lenT x : Int) = n) && decide (sumT x = b))
def sp_is_allocation (K : PySem.W.Frag) : Sp := spD K fun ds k d => ∃ x n b, ds = [x, .int n, .int b] ∧ SmallT x ∧ k = .v ∧ d = .bool (isAlloc x n b)
def isBAsg (x : PyData) (v : Int) : Bool := areInts x 0 (v - 1) && decide ((lenT x : Int) ≤ 20)
def sp_is_bounded_assignment (K : PySem.W.Frag) : Sp := spD K fun ds k d => ∃ x v, ds = [x, .int v] ∧ SmallT x ∧ k = .v ∧ d = .bool (isBAsg x v)
def sp_check_assignment (K : PySem.W.Frag) : Sp := spD K fun ds k d => ∃ x nm, ds = [x, .str nm] ∧ SmallT x ∧ isBAsg x 5 = true ∧ k = .v ∧ d = .none
def sp_check_enough (K : PySem.W.Frag) : Sp := spD K fun ds k d => ∃ (v : Int) (ns : List Int), ds = [.int v, .tuple (ns.map .int)] ∧ mxD 0 ns + 1 ≤ v ∧ v ≤ 5 ∧ k = .v ∧ d = .none


/-- how often each variant occurs -/
def countsI (ns : List Int) (v : Int) : List Int := (upI 0 v.toNat).map fun i => (ns.count i : Int)
/-- the places of a variant -/
def placesI (ns : List Int) (v : Int) : List Int := (ns.zipIdx.filter fun p => decide (p.1 = v)).map fun p => ((p.2 : Nat) : Int)
theorem mxOf_le : ∀ (ns : List Int) (m b : Int), m ≤ b → (∀ n ∈ ns, n ≤ b) → mxOf m ns ≤ b
  | [], m, b, h, _ => h
  | n :: ns, m, b, h, g => by
    show mxOf (if n > m then n else m) ns ≤ b
    refine mxOf_le ns _ b ?_ fun x hx => g x (by simp [hx])
    split
    · exact g n (by simp)
    · exact h
theorem mxD_le {ns : List Int} {b : Int} (h0 : 0 ≤ b) (h : ∀ n ∈ ns, n ≤ b) : mxD 0 ns ≤ b := by
  cases ns with
  | nil => exact h0
  | cons n ns => exact mxOf_le ns n b (h n (by simp)) fun x hx => h x (by simp [hx])
/-- an assignment of at most 20 buckets to v variants -/
structure Asg (ns : List Int) (v : Int) : Prop where
  len : ns.length ≤ 20
  rng : ∀ n ∈ ns, 0 ≤ n ∧ n < v
theorem Asg.bAsg {ns : List Int} {v w : Int} (h : Asg ns v) (hw : v ≤ w) : isBAsg (.tuple (ns.map .int)) w = true := by
  unfold isBAsg
  rw [areInts_of fun n hn => ⟨(h.rng n hn).1, by have := (h.rng n hn).2; omega⟩, lenT_ints]
  have := h.len
  simp
  omega
theorem small_ints {ns : List Int} (h : ns.length ≤ 1000000) : SmallT (.tuple (ns.map .int)) := fun es e => by
  rw [← PyData.tuple.inj e]
  simpa using h
theorem Asg.small {ns : List Int} {v : Int} (h : Asg ns v) : SmallT (.tuple (ns.map .int)) := small_ints (by have := h.len; omega)
def sp_allocation_of (K : PySem.W.Frag) : Sp := spD K fun ds k d => ∃ (ns : List Int) (v : Int), ds = [.tuple (ns.map .int), .int v] ∧ Asg ns v ∧ 1 ≤ v ∧ v ≤ 5 ∧ k = .v ∧ d = .tuple ((countsI ns v).map .int)
def sp_buckets_of (K : PySem.W.Frag) : Sp := spD K fun ds k d => ∃ (ns : List Int) (v : Int), ds = [.tuple (ns.map .int), .int v] ∧ Asg ns 5 ∧ 0 ≤ v ∧ v ≤ 4 ∧ k = .o ∧ d = .list ((placesI ns v).map .int)


def sp__law_next (K : PySem.W.Frag) : Sp := spS K fun ds k P => ∃ m : Int, ds = [.int m] ∧ 0 < m ∧ m < 1073741824 ∧ k = .v ∧ P = fun d => ∃ n : Int, d = .int n ∧ 0 ≤ n ∧ n < m
theorem Str1.put {K : PySem.W.Frag} {st l : Addr} {H : Hp} {ns : List Int} {x k : Int} (h2 : H l = some (.lst (ns.map V.int))) (h3 : l ≠ st) (h4 : 0 ≤ k) : Str1 K st l (upd H st (.lst [.ref l, .int x, .int k])) :=
  ⟨ns, x, k, upd_same, by rw [upd_ne h3]; exact h2, h3, h4⟩


/-! the law's helpers -/

def sp__law_stream := spStream
/-- data that _law_equal may look at, to some depth -/
inductive EqOk : Nat → PyData → Prop
  | non {n} : EqOk n .none
  | bl {n} (b : Bool) : EqOk n (.bool b)
  | int {n} (i : Int) : EqOk n (.int i)
  | str {n} (s : Str) : EqOk n (.str s)
  | lst {n} {xs : List PyData} : xs.length ≤ 1000000 → (∀ x ∈ xs, EqOk n x) → EqOk (n + 1) (.list xs)
  | tup {n} {xs : List PyData} : xs.length ≤ 1000000 → (∀ x ∈ xs, EqOk n x) → EqOk (n + 1) (.tuple xs)
theorem EqOk.ints {n : Nat} {ns : List Int} (h : ns.length ≤ 1000000) : EqOk (n + 1) (.tuple (ns.map .int)) := .tup (by simpa using h) fun x hx => by
  obtain ⟨i, _, rfl⟩ := List.mem_map.mp hx
  exact .int i
theorem EqOk.up {n : Nat} {x : PyData} (h : EqOk n x) : ∀ {m : Nat}, n ≤ m → EqOk m x := by
  induction h with
  | non => intro m _; exact .non
  | bl b => intro m _; exact .bl b
  | int i => intro m _; exact .int i
  | str s => intro m _; exact .str s
  | lst hl _ ih =>
    intro m hm
    cases m with
    | zero => omega
    | succ m => exact .lst hl fun x hx => ih x hx (by omega)
  | tup hl _ ih =>
    intro m hm
    cases m with
    | zero => omega
    | succ m => exact .tup hl fun x hx => ih x hx (by omega)


def sp__law_assignment (K : PySem.W.Frag) : Sp := spS K fun ds k P => ∃ v b : Int, ds = [.int v, .int b] ∧ 1 ≤ v ∧ v ≤ 1000 ∧ 0 ≤ b ∧ b ≤ 1000 ∧ k = .v ∧ P = fun d => ∃ ns : List Int, d = .tuple (ns.map .int) ∧ (ns.length : Int) = b ∧ ∀ n ∈ ns, 0 ≤ n ∧ n < v
theorem n_draws {c : Ct} {Γ : List (Option Rs)} {te : TE} {fz : Bool} {wi : TI} {g : TG} {vs : List Nat} {items : List Im} (Q : Int → Prop) (hi : EvI c wi Γ fz items) (hl : items.length ≤ 1000000)
    (hb : ∀ a ∈ items, ∃ Γ' js, EvG c g a (wipeG Γ vs) Γ' js ∧ (∀ j ∈ js, j ∈ vs) ∧ ∃ k, EvN c te Γ' k (fun d => ∃ n : Int, d = .int n ∧ Q n)) :
    EvN c (tLc wi g tYes te vs) Γ .o (fun d => ∃ acc, d = .list acc ∧ ∃ ns : List Int, acc = ns.map .int ∧ ns.length = items.length ∧ ∀ n ∈ ns, Q n) := by
  refine n_lc (fun m acc => ∃ ns : List Int, acc = ns.map .int ∧ ns.length = m ∧ ∀ n ∈ ns, Q n) hi hl ⟨[], rfl, rfl, fun _ h => nomatch h⟩ fun m a acc ha hM => ?_
  obtain ⟨Γ', js, h1, h2, k, h3⟩ := hb a (List.mem_of_getElem? ha)
  obtain ⟨ns, rfl, hn, hq⟩ := hM
  refine ⟨Γ', js, h1, h2, true, fun d => ∃ n : Int, d = .int n ∧ Q n, t_yes, fun _ => ⟨h3.fo (by rintro d ⟨n, rfl, _⟩; rfl), ?_⟩, fun e => nomatch e⟩
  rintro d ⟨n, rfl, q⟩
  refine ⟨ns ++ [n], by simp, by simp [hn], fun x hx => ?_⟩
  rcases List.mem_append.mp hx with w | w
  · exact hq x w
  · rw [List.mem_singleton.mp w]; exact q

theorem upI0 (v : Nat) : upI 0 v = (List.range v).map fun (i : Nat) => (i : Int) := by
  unfold upI
  apply List.map_congr_left
  intro i _
  omega
theorem upI_count {v : Nat} {n : Int} (h0 : 0 ≤ n) (h1 : n < v) : (upI 0 v).count n = 1 := by
  obtain ⟨m, rfl⟩ := Int.eq_ofNat_of_zero_le h0
  have hm : m < v := by omega
  rw [upI0, List.count_eq_countP, List.countP_map]
  have e : ((fun x : Int => x == (m : Int)) ∘ fun (i : Nat) => (i : Int)) = fun i : Nat => i == m := by
    funext i
    show ((i : Int) == (m : Int)) = (i == m)
    rw [Bool.eq_iff_iff]
    simp
    omega
  rw [e]
  have : List.countP (fun i => i == m) (List.range v) = (List.range v).count m := rfl
  rw [this, List.nodup_range.count]
  simp [hm]
theorem count_sum (v : Nat) : ∀ ns : List Int, (∀ n ∈ ns, 0 ≤ n ∧ n < (v : Int)) → ((upI 0 v).map fun i => (ns.count i : Int)).sum = ns.length := by
  intro ns
  induction ns with
  | nil =>
    intro _
    generalize upI 0 v = l
    induction l with
    | nil => rfl
    | cons a l ih =>
      rw [List.map_cons, List.sum_cons, ih]
      rfl
  | cons n ns ih =>
    intro hv
    have ih' := ih fun m hm => hv m (by simp [hm])
    have hn := hv n (by simp)
    have key : ∀ l : List Int, (l.map fun i => ((n :: ns).count i : Int)).sum = (l.map fun i => (ns.count i : Int)).sum + l.count n := by
      intro l
      induction l with
      | nil => rfl
      | cons a l ihl =>
        rw [List.map_cons, List.sum_cons, List.map_cons, List.sum_cons, ihl, List.count_cons, List.count_cons]
        by_cases h : n = a
        · subst h
          rw [beq_self_eq_true, if_pos rfl]
          omega
        · rw [beq_eq_false_iff_ne.mpr h, beq_eq_false_iff_ne.mpr (fun e => h e.symm)]
          simp
          omega
    rw [key, ih', upI_count hn.1 hn.2]
    simp
theorem upI_get {lo : Int} {n m : Nat} {a : Im} (h : ((upI lo n).map fun i => Im.d (.int i))[m]? = some a) : ∃ i : Int, a = .d (.int i) ∧ lo ≤ i ∧ i < lo + n := by
  unfold upI at h
  rw [List.map_map, List.getElem?_map] at h
  cases q : (List.range n)[m]? with
  | none => rw [q] at h; cases h
  | some j =>
    rw [q] at h
    have hj : j < n := List.mem_range.mp (List.mem_of_getElem? q)
    exact ⟨lo + j, (Option.some.inj h).symm, by omega, by omega⟩
end Lm


/-! more rules: a list unpacked, tuple.index of an int, the number of a tuple's different ints, list.pop(i) -/
namespace Lm
open PySem PySem.Spec PyProof.Rows L2
section
variable {prog : Program} {w : World} {A : Around} {E : Value → Shared → Prop} {s : Shared}
end
section
variable {X : Cx}
/-- the place of an int in a tuple of ints -/
def rIndexT (K : PySem.W.Frag) : V → List V → Hp → VK → Prop := fun x xs H Q => ∃ (p : Addr) (ns : List Int) (k : Int) (j : Nat), x = .ref p ∧ xs = [.int k] ∧ SqT K H p (ns.map V.int) ∧ ns[j]? = some k ∧ (∀ m, m < j → ns[m]? ≠ some k) ∧ Q (.int (j : Nat)) H
theorem mt_tindex : MtR X "tuple.index" (rIndexT X.K) := by
  intro pins s σ H x xs v us Q I rx rs h
  obtain ⟨p, ns, k, j, rfl, rfl, hq, hy, hno, q⟩ := h
  cases rx
  obtain ⟨u, rfl, ru⟩ := rs.one
  obtain ⟨t, rfl⟩ := ru
  obtain ⟨its, rv, ⟨⟨cls, dd, data, sl⟩, ho, hc, n, hd⟩, hlen⟩ := I.tuple hq
  simp only at hc hd
  subst hc hd
  have hi := ints_of_vals rv
  have hl : its.toArray.size = ns.length := by rw [List.size_toArray, ← rv.length, List.length_map]
  have at' : ∀ (m : Nat) (hm : m < its.toArray.size), ∃ t', its.toArray[m] = Value.int (ns.getD m 0) t' := fun m hm => by
    have hm' : m < ns.length := by rw [← hl]; exact hm
    obtain ⟨w, hw, t', hw'⟩ := rv.get (i := m) (x := .int ns[m]) (by simp [hm'])
    refine ⟨t', ?_⟩
    have e := (List.getElem?_eq_some_iff.mp hw).2
    have e2 : ns.getD m 0 = ns[m] := by rw [List.getD_eq_getElem?_getD, List.getElem?_eq_getElem hm']; rfl
    rw [e2, ← hw', ← e]
    simp
  obtain ⟨hjn, hje⟩ := List.getElem?_eq_some_iff.mp hy
  have hj : j < its.toArray.size := by rw [hl]; exact hjn
  have gd : ∀ m, m < ns.length → ns[m]? = some (ns.getD m 0) := fun m hm => by rw [List.getD_eq_getElem?_getD, List.getElem?_eq_getElem hm]; rfl
  refine call_meets PySem.F.slot_tuple_index ⟨_, ho, rfl⟩ PySem.F.entry_tuple_index (PySem.F.args_tuple_index_2 _ _)
    (TI.tuple_indexAt p its.toArray n dd sl (.int k t) (eqk k) j hj ?_ ?_) ⟨ho, fun y hy => (eqk_gives hi y (by simpa using hy)).at _ _, .int (j : Nat), H, I.tok _, ⟨_, rfl⟩, q⟩
  · obtain ⟨t', e⟩ := at' j hj
    have e2 : ns.getD j 0 = k := Option.some.inj ((gd j hjn).symm.trans hy)
    rw [e, e2]
    simp [eqk]
  · intro m hm hmj
    obtain ⟨t', e⟩ := at' m hm
    have hm' : m < ns.length := by rw [← hl]; exact hm
    have e2 : ns.getD m 0 ≠ k := fun z => hno m hmj (by rw [gd m hm', z])
    rw [e]
    show (ns.getD m 0 == k) = false
    exact beq_eq_false_iff_ne.mpr e2
/-- how many different ints a tuple has -/
def tLenSetT (K : PySem.W.Frag) (ta : TE) : TE := fun σ H Q => ta σ H fun x H1 => ∃ (l : Addr) (ns ks : List Int), x = .ref l ∧ SqT K H1 l (ns.map V.int) ∧ ns.length ≤ 4000 ∧ ks.Nodup ∧ (∀ k, k ∈ ks ↔ k ∈ ns) ∧ Q (.int (ks.length : Nat)) H1
theorem length_sub : ∀ {as bs : List Int}, as.Nodup → (∀ k, k ∈ as → k ∈ bs) → as.length ≤ bs.length
  | [], _, _, _ => Nat.zero_le _
  | a :: as, bs, ha, h => by
    have hm : a ∈ bs := h a (by simp)
    obtain ⟨hna, hnd⟩ := List.nodup_cons.mp ha
    have := length_sub (bs := bs.erase a) hnd fun k q => (List.mem_erase_of_ne fun (z : k = a) => hna (by rw [← z]; exact q)).mpr (h k (by simp [q]))
    rw [List.length_erase_of_mem hm] at this
    have : 0 < bs.length := List.length_pos_of_mem hm
    simp only [List.length_cons]
    omega
theorem same_length {as bs : List Int} (ha : as.Nodup) (hb : bs.Nodup) (h : ∀ k, k ∈ as ↔ k ∈ bs) : as.length = bs.length :=
  Nat.le_antisymm (length_sub ha fun k q => (h k).mp q) (length_sub hb fun k q => (h k).mpr q)
theorem pe_lenSetT {a : Expr} {ta : TE} {p p2 q pos : Pos} (hg : Gl X "len") (hm : X.mg "len" = none) (hg2 : Gl X "set") (hm2 : X.mg "set" = none) (ha : PE X a ta) (hc : X.calm = true := by rfl)
    (na : starEach [a] X.env = (false, eval a X.env) :: starEach [] X.env := by rfl) : PE X (.Call (.Name "len" p) [.Call (.Name "set" p2) [a] [] q] [] pos) (tLenSetT X.K ta) := by
  refine ⟨fun pins s σ H Q I h => ?_⟩
  refine Call_ (ld_blt I hg hm boot_len (PyProof.Rows.callWith_builtin1 (PyProof.Rows.args_cons ?_ rfl) rfl rfl))
  refine Call_ (ld_blt I hg2 hm2 boot_set ?_)
  refine PyProof.Rows.callWith_type1 (PyProof.Rows.args_cons (thn (ha.run pins s σ H _ I h) fun v s1 ⟨x, H1, I1, r1, q1⟩ => PyProof.Rows.args_nil ?_) na) na rfl
  obtain ⟨l, ns, ks, rfl, hq, hl, hnd, hks, q1⟩ := q1
  cases r1
  obtain ⟨its, r, pl, hz⟩ := I1.tuple hq
  refine call_set_tupI ns (I1.ok.hd hc) (show s1.heap.IsTuple l its.toArray from pl) (by simpa using ints_of_vals r) (by unfold scanBound; omega) fun h' tk c hS hc' hk => ?_
  refine PyProof.Rows.args_nil ?_
  obtain ⟨o, es, ep, t, ho, hex, hd, _, hn, hmem, _, hf, hsz, _⟩ := hS
  have I2 : Inv X pins σ H1 { s1 with heap := h', toks := tk } := I1.kept fun b o e => hk b o e
  have ec : es.size = ks.length := by
    rw [← Array.length_toList, ← List.length_map (f := keyOf)]
    refine same_length hn hnd fun k => ?_
    rw [← hmem k, hks k]
    simp
  have hle : ks.length ≤ 4000 := by omega
  exact call_len_set ho hex hd hf (by omega) ⟨.int (ks.length : Nat), H1, I2.tok _, ⟨_, by rw [ec]⟩, q1⟩
end
section
variable {X : Cx} {K : PySem.W.Frag} (hK : X.K = K)
include hK
theorem k_index : MtR X "tuple.index" (rIndexT K) := hK ▸ mt_tindex
theorem k_lenSet {a : Expr} {ta : TE} {p p2 q pos : Pos} (hg : Gl X "len") (hm : X.mg "len" = none) (hg2 : Gl X "set") (hm2 : X.mg "set" = none) (ha : PE X a ta) (hc : X.calm = true := by rfl)
    (na : starEach [a] X.env = (false, eval a X.env) :: starEach [] X.env := by rfl) : PE X (.Call (.Name "len" p) [.Call (.Name "set" p2) [a] [] q] [] pos) (tLenSetT K ta) := hK ▸ pe_lenSetT hg hm hg2 hm2 ha hc na
end
end Lm


namespace Lm
open PySem PySem.Spec PyProof.Rows L2
variable {c : Ct} {H H' H0 H1 H2 H3 : Hp} {O : List Addr} {σ : L2.St} {Γ Γ' Γ1 : List (Option Rs)}
variable {te ta tb tx tl : TE} {tt tu : TT} {tr : TA} {k ka kb kc : Kd} {d x y z : PyData} {i j : Int} {a b : Bool} {kv fz : Bool} {ds es : List PyData}
/-! ### zip of two tuples -/
def zipD (ds es : List PyData) : List Im := (ds.zip es).map fun p => .t [.d p.1, .d p.2]
theorem walk_zipT {K : PySem.W.Frag} {p q : Addr} {xs ys : List V} {n : Nat} (hn : n = min xs.length ys.length) : Walk (RZ.ItzT K p q) n (fun H => SqT K H p xs ∧ SqT K H q ys) (YPair (fun i => xs[i]?) (fun i => ys[i]?)) where
  goes := fun i _ hi w => ⟨xs, ys, xs[i]'(by omega), ys[i]'(by omega), w.1, w.2, List.getElem?_eq_getElem (by omega), List.getElem?_eq_getElem (by omega)⟩
  stops := fun _ w => ⟨xs, ys, w.1, w.2, by omega⟩
  yields := fun i H v H' _ w ⟨T, x, z, h1, h2, h3, h4, h5⟩ => ⟨T, x, z, h1, h2, h3, h4 xs w.1, h5 ys w.2⟩
theorem i_zipT (h : EvA c tr Γ true [.tuple ds, .tuple es]) : EvI c (RZ.iZipA c.K tr) Γ true (zipD ds es) := fun H0 O H σ e R q =>
  h H0 O H σ e _ fun vs H1 r s => by
    obtain ⟨x, y, rfl, b1, b2⟩ := (BoAll.vm s).two
    obtain ⟨p, xs, rfl, sl, al⟩ := b1.tup'
    obtain ⟨p2, ys, rfl, sl2, al2⟩ := b2.tup'
    refine ⟨p, p2, xs, ys, rfl, .inr ⟨(sqT_same mns_same sl).sq, (sqT_same mns_same sl2).sq, q _ H1 r ⟨(e.on r).j, ?_⟩⟩⟩
    have hl : (zipD ds es).length = min xs.length ys.length := by rw [al.len, al2.len]; simp [zipD]
    refine (walk_zipT hl).mono (fun H h => ⟨(h.tup (e.on r).j sl).sq, (h.tup (e.on r).j sl2).sq⟩) fun i H v H' hi g w => ?_
    obtain ⟨T, u1, u2, rfl, hT, rfl, g1, g2⟩ := w
    obtain ⟨d1, hd1, bd1⟩ := al.get g1
    obtain ⟨d2, hd2, bd2⟩ := al2.get g2
    have sm : Same H (upd H T (.tup [u1, u2])) := fun b o z => by rw [upd_ne (ne_of_none z hT)]; exact z
    refine ⟨sm, .t [.d d1, .d d2], ?_, .tup (.inl (.inl upd_same)) (.cons (.leaf (.inr ⟨rfl, bd1⟩)) (.cons (.leaf (.inr ⟨rfl, bd2⟩)) .nil))⟩
    have : (ds.zip es)[i]? = some (d1, d2) := by rw [List.getElem?_zip_eq_some]; exact ⟨hd1, hd2⟩
    simp [zipD, this]
def zipI (p : Int × Int) : Im := .t [.d (.int p.1), .d (.int p.2)]
theorem i_zipTI {ns ms : List Int} (h : EvA c tr Γ true [.tuple (ns.map .int), .tuple (ms.map .int)]) : EvI c (RZ.iZipA c.K tr) Γ true ((ns.zip ms).map zipI) := by
  have e : zipD (ns.map .int) (ms.map .int) = (ns.zip ms).map zipI := by
    unfold zipD
    rw [List.zip_map, List.map_map]
    rfl
  exact e ▸ i_zipT h
/-! ### calls -/
theorem e_max2 (ha : Ev c ta Γ ka (.int i)) (hb : Ev c tb Γ kb (.int j)) : Ev c (tCB (fun xs H Q => ∃ i j, xs = [V.int i, V.int j] ∧ Q (.int (if j > i then j else i)) H) (tCons ta (tCons tb tNil))) Γ .v (.int (if j > i then j else i)) :=
  d_cb (a_cons ha (a_cons hb a_nil)) fun H O vs Q s q => by
    obtain ⟨y, z, rfl, b1, b2⟩ := s.two
    exact ⟨i, j, by rw [b1.int', b2.int'], q _ H Rr.rf (.int _)⟩
theorem e_index {ns : List Int} {m : Nat} (h : Ev c ta Γ ka (.tuple (ns.map .int))) (hb : Ev c tb Γ kb (.int i)) (hm : ns[m]? = some i) (hno : ∀ n, n < m → ns[n]? ≠ some i) : Ev c (tTM c.K (rIndexT c.K) ta (tCons tb tNil)) Γ .v (.int (m : Nat)) := fun H0 O H σ e Q q =>
  h H0 O H σ e _ fun v H1 r1 s1 => by
    obtain ⟨p, xs, rfl, s, al⟩ := (Res.bo e s1).tup'
    refine ⟨⟨p, xs, rfl, s⟩, hb H0 O H1 σ (e.on r1) _ fun u H2 r2 s2 => ?_⟩
    obtain ⟨p', xs', e', s', al'⟩ := (Res.bo e (Res.on e r1 r2 s1)).tup'
    cases e'
    have := al'.ints
    subst this
    exact ⟨p, ns, i, m, rfl, by rw [(Res.bo (e.on r1) s2).int'], s'.sq, hm, hno, q _ H2 (r1.tr r2) (.int _)⟩
theorem e_lenSet {ns ks : List Int} (h : Ev c ta Γ ka (.tuple (ns.map .int))) (hl : ns.length ≤ 4000) (hn : ks.Nodup) (hk : ∀ k, k ∈ ks ↔ k ∈ ns) : Ev c (tLenSetT c.K ta) Γ .v (.int (ks.length : Nat)) := fun H0 O H σ e Q q =>
  h H0 O H σ e _ fun v H1 r1 s1 => by
    obtain ⟨p, xs, rfl, s, al⟩ := (Res.bo e s1).tup'
    have := al.ints
    subst this
    exact ⟨p, ns, ks, rfl, s.sq, hl, hn, hk, q _ H1 r1 (.int _)⟩
/-- list * int, the list a new one -/
theorem e_rep (h : Ev c ta Γ .o (.list ds)) (hf : flatAll ds = true) (hb : Ev c tb Γ kb (.int i)) (h1 : -(2 ^ 63) ≤ i) (h2 : i < 2 ^ 63) (hl : ds.length * i.toNat ≤ 1000000) : Ev c (tOp rMulA ta tb) Γ .o (.list (List.replicate i.toNat ds).flatten) := fun H0 O H σ e Q q =>
  h H0 O H σ e _ fun v H1 r1 s1 => hb H0 O H1 σ (e.on r1) _ fun u H2 r2 s2 => by
    obtain ⟨fp, f, nd, new⟩ : Res c O H H2 v (.list ds) .o := Res.on e r1 r2 s1
    obtain ⟨p, xs, g, rfl, rfl, hp, fa⟩ := f.list'
    obtain ⟨_, al⟩ := fa.flat0 hf
    refine .inr ⟨p, i, xs, rfl, (Res.bo (e.on r1) s2).int', hp, h1, h2, by rw [al.len]; exact sizeOk hl, fun p' hp' => ?_⟩
    have sm : Same H2 (upd H2 p' (.lst (List.replicate i.toNat xs).flatten)) := fun b o z => by rw [upd_ne (ne_of_none z hp')]; exact z
    have rep : ∀ n : Nat, BoAll c H2 (List.replicate n xs).flatten (List.replicate n ds).flatten := by
      intro n
      induction n with
      | zero => exact .nil
      | succ n ih => rw [List.replicate_succ, List.replicate_succ, List.flatten_cons, List.flatten_cons]; exact al.app ih
    have fl : ∀ n : Nat, flatAll (List.replicate n ds).flatten = true := by
      intro n
      refine flatAll_mem fun d hd => ?_
      obtain ⟨l, hl, hd⟩ := List.mem_flatten.mp hd
      rw [(List.mem_replicate.mp hl).2] at hd
      exact flatAll_one hf hd
    refine q _ _ ((r1.tr r2).tr (Rr.same sm)) ⟨[p'], .lst upd_same (FoAll.leaves (fl _) ((rep _).same sm)), by simp, fun a ha => ?_⟩
    cases List.mem_singleton.mp ha
    exact (r1.tr r2).back e.jH hp'
/-! ### unpacking -/
/-- data drawn one after another -/
theorem n_drawsP {wi : TI} {g : TG} {vs : List Nat} {items : List Im} (Q : PyData → Prop) (hQ : ∀ d, Q d → flatD d = true) (hi : EvI c wi Γ fz items) (hl : items.length ≤ 1000000)
    (hb : ∀ a ∈ items, ∃ Γ' js, EvG c g a (wipeG Γ vs) Γ' js ∧ (∀ j ∈ js, j ∈ vs) ∧ ∃ k, EvN c te Γ' k Q) :
    EvN c (tLc wi g tYes te vs) Γ .o (fun d => ∃ acc, d = .list acc ∧ acc.length = items.length ∧ ∀ x ∈ acc, Q x) := by
  refine n_lc (fun m acc => acc.length = m ∧ ∀ x ∈ acc, Q x) hi hl ⟨rfl, fun _ h => nomatch h⟩ fun m a acc ha hM => ?_
  obtain ⟨Γ', js, h1, h2, k, h3⟩ := hb a (List.mem_of_getElem? ha)
  refine ⟨Γ', js, h1, h2, true, Q, t_yes, fun _ => ⟨h3.fo hQ, fun d hd => ⟨by simp [hM.1], fun x hx => ?_⟩⟩, fun e => nomatch e⟩
  rcases List.mem_append.mp hx with w | w
  · exact hM.2 x w
  · rw [List.mem_singleton.mp w]; exact hd
end Lm


/-! what more defs promise: allocations, orders -/
namespace Lm
open PySem PySem.Spec PyProof.Rows L2
/-- an allocation of b buckets to v variants -/
structure Alc (ns : List Int) (v b : Int) : Prop where
  len : (ns.length : Int) = v
  sum : ns.sum = b
  nn : ∀ n ∈ ns, 0 ≤ n
theorem sum_nn : ∀ {ns : List Int}, (∀ n ∈ ns, 0 ≤ n) → 0 ≤ ns.sum
  | [], _ => by simp
  | n :: ns, h => by
    have h1 := sum_nn (ns := ns) fun m hm => h m (by simp [hm])
    have h2 := h n (by simp)
    simp only [List.sum_cons]; omega
theorem le_sum : ∀ {ns : List Int}, (∀ n ∈ ns, 0 ≤ n) → ∀ m ∈ ns, m ≤ ns.sum
  | [], _, m, hm => nomatch hm
  | n :: ns, h, m, hm => by
    have h1 := sum_nn (ns := ns) fun m hm => h m (by simp [hm])
    have h2 := h n (by simp)
    simp only [List.sum_cons]
    rcases List.mem_cons.mp hm with q | q
    · rw [q]; omega
    · have := le_sum (ns := ns) (fun m hm => h m (by simp [hm])) m q
      omega
theorem Alc.le {ns : List Int} {v b : Int} (h : Alc ns v b) : ∀ n ∈ ns, n ≤ b := fun n hn => h.sum ▸ le_sum h.nn n hn
theorem Alc.isAlloc {ns : List Int} {v b : Int} (h : Alc ns v b) : isAlloc (.tuple (ns.map .int)) v b = true := by
  unfold Lm.isAlloc
  rw [areInts_of fun n hn => ⟨h.nn n hn, h.le n hn⟩, lenT_ints, sumT_ints, h.len, h.sum]
  simp
def sp_check_allocation (K : PySem.W.Frag) : Sp := spD K fun ds k d => ∃ (ns : List Int) (v b : Int) (nm : Str), ds = [.tuple (ns.map .int), .str nm] ∧ Alc ns v b ∧ 1 ≤ v ∧ v ≤ 5 ∧ b ≤ 20 ∧ k = .v ∧ d = .none
def sp_check_alike (K : PySem.W.Frag) : Sp := spD K fun ds k d => ∃ (ms ns : List Int) (v b : Int) (nm : Str), ds = [.tuple (ms.map .int), .tuple (ns.map .int), .str nm] ∧ Alc ms v b ∧ Alc ns v b ∧ v ≤ 1000 ∧ k = .v ∧ d = .none
/-- what goes over from one to the other -/
def trI (ns ms : List Int) : Int := ((ns.zip ms).map fun p => if 0 > p.1 - p.2 then 0 else p.1 - p.2).sum
def sp_transfer (K : PySem.W.Frag) : Sp := spD K fun ds k d => ∃ (ns ms : List Int) (v b : Int), ds = [.tuple (ns.map .int), .tuple (ms.map .int)] ∧ Alc ns v b ∧ Alc ms v b ∧ 1 ≤ v ∧ v ≤ 5 ∧ b ≤ 20 ∧ k = .v ∧ d = .int (trI ns ms)
/-- the numbers from 0 to m - 1, each once -/
structure IsOrd (ns : List Int) (m : Int) : Prop where
  len : (ns.length : Int) = m
  nd : ns.Nodup
  rng : ∀ n ∈ ns, 0 ≤ n ∧ n < m
def placedI (ns os : List Int) : List Int := (upI 0 os.length).map fun i => ns.getD (os.idxOf i) 0
def sp_placed (K : PySem.W.Frag) : Sp := spD K fun ds k d => ∃ (ns os : List Int) (m : Int), ds = [.tuple (ns.map .int), .tuple (os.map .int)] ∧ IsOrd os m ∧ (ns.length : Int) = m ∧ m ≤ 1000 ∧ k = .v ∧ d = .tuple ((placedI ns os).map .int)
def sp_renamed_shares (K : PySem.W.Frag) : Sp := spD K fun ds k d => ∃ (ns os : List Int) (v b : Int), ds = [.tuple (ns.map .int), .tuple (os.map .int)] ∧ Alc ns v b ∧ IsOrd os v ∧ 1 ≤ v ∧ v ≤ 5 ∧ b ≤ 20 ∧ k = .v ∧ d = .tuple ((placedI ns os).map .int)
def sp__law_allocation (K : PySem.W.Frag) : Sp := spS K fun ds k P => ∃ v b : Int, ds = [.int v, .int b] ∧ 1 ≤ v ∧ v ≤ 1000 ∧ 0 ≤ b ∧ b ≤ 1000 ∧ k = .v ∧ P = fun d => ∃ ns : List Int, d = .tuple (ns.map .int) ∧ Alc ns v b
def sp__law_order (K : PySem.W.Frag) : Sp := spS K fun ds k P => ∃ m : Int, ds = [.int m] ∧ 0 ≤ m ∧ m ≤ 1000 ∧ k = .v ∧ P = fun d => ∃ ns : List Int, d = .tuple (ns.map .int) ∧ IsOrd ns m
/-! orders: every number has its place -/
theorem nodup_inj {ns : List Int} (h : ns.Nodup) {i j : Nat} (hi : i < ns.length) (hj : j < ns.length) (e : ns[i] = ns[j]) : i = j := by
  have p := List.pairwise_iff_getElem.mp h
  rcases Nat.lt_trichotomy i j with q | q | q
  · exact absurd e (p i j hi hj q)
  · exact q
  · exact absurd e.symm (p j i hj hi q)
theorem perm_sum {as bs : List Int} (h : as.Perm bs) : as.sum = bs.sum := by
  induction h with
  | nil => rfl
  | cons x _ ih => simp [ih]
  | swap x y l => simp only [List.sum_cons]; omega
  | trans _ _ ih1 ih2 => exact ih1.trans ih2
theorem mem_upI {n : Nat} {i : Int} : i ∈ upI 0 n ↔ 0 ≤ i ∧ i < n := by
  unfold upI
  rw [List.mem_map]
  constructor
  · rintro ⟨m, hm, rfl⟩
    have := List.mem_range.mp hm
    omega
  · rintro ⟨h0, h1⟩
    exact ⟨i.toNat, List.mem_range.mpr (by omega), by omega⟩
theorem nodup_upI (n : Nat) : (upI 0 n).Nodup := by
  rw [upI0]
  exact List.Pairwise.map _ (fun a b h e => h (Int.ofNat.inj e)) List.nodup_range
theorem IsOrd.mem {ns : List Int} {m : Int} (h : IsOrd ns m) {i : Int} (h0 : 0 ≤ i) (h1 : i < m) : i ∈ ns := by
  refine Decidable.byContradiction fun hn => ?_
  have h2 : (i :: ns).length ≤ (upI 0 ns.length).length := length_sub (List.nodup_cons.mpr ⟨hn, h.nd⟩) fun k hk => by
    have hl := h.len
    rcases List.mem_cons.mp hk with q | q
    · rw [q, mem_upI]; omega
    · rw [mem_upI]; have := h.rng k q; omega
  simp [upI] at h2
  omega
theorem IsOrd.perm {ns : List Int} {m : Int} (h : IsOrd ns m) : (upI 0 ns.length).Perm ns := by
  refine (List.perm_iff_count.mpr fun i => ?_)
  by_cases q : 0 ≤ i ∧ i < (ns.length : Int)
  · rw [upI_count q.1 q.2, h.nd.count]
    rw [if_pos (h.mem q.1 (by have := h.len; omega))]
  · rw [List.count_eq_zero_of_not_mem (fun z => q (mem_upI.mp z)), List.count_eq_zero_of_not_mem (fun z => q (by have := h.rng i z; have := h.len; omega))]
theorem IsOrd.idx {ns : List Int} {m : Int} (h : IsOrd ns m) {i : Int} (h0 : 0 ≤ i) (h1 : i < m) : ∃ hj : ns.idxOf i < ns.length, ns[ns.idxOf i]? = some i ∧ ∀ n, n < ns.idxOf i → ns[n]? ≠ some i := by
  have hj : ns.idxOf i < ns.length := List.idxOf_lt_length_of_mem (h.mem h0 h1)
  refine ⟨hj, ?_, fun n hn e => ?_⟩
  · rw [List.getElem?_eq_getElem hj, List.getElem_idxOf hj]
  · have hl : n < ns.length := by omega
    have e1 : ns[n] = i := by rw [List.getElem?_eq_getElem hl] at e; exact Option.some.inj e
    have e2 : ns[ns.idxOf i] = i := List.getElem_idxOf hj
    have := nodup_inj h.nd hl hj (e1.trans e2.symm)
    omega
theorem IsOrd.idxOf_get {ns : List Int} {m : Int} (h : IsOrd ns m) {j : Nat} (hj : j < ns.length) : ns.idxOf ns[j] = j := by
  have hm : ns[j] ∈ ns := List.getElem_mem hj
  have hl : ns.idxOf ns[j] < ns.length := List.idxOf_lt_length_of_mem hm
  exact nodup_inj h.nd hl hj (List.getElem_idxOf hl)
/-- a sum over the placed is the sum over the old -/
theorem IsOrd.sums {os : List Int} {m : Int} (h : IsOrd os m) (f : Nat → Int) : ((upI 0 os.length).map fun i => f (os.idxOf i)).sum = ((List.range os.length).map f).sum := by
  have e : os.map (fun i => f (os.idxOf i)) = (List.range os.length).map f := by
    apply List.ext_getElem
    · simp
    · intro j h1 h2
      simp only [List.getElem_map, List.getElem_range]
      rw [h.idxOf_get (by simpa using h1)]
  rw [← e]
  exact perm_sum (h.perm.map _)
theorem sum_range {ns : List Int} : ((List.range ns.length).map fun j => ns.getD j 0).sum = ns.sum := by
  congr 1
  apply List.ext_getElem
  · simp
  · intro j h1 h2
    have h2' : j < ns.length := h2
    simp [List.getD_eq_getElem?_getD, List.getElem?_eq_getElem h2']
theorem IsOrd.alc {ns os : List Int} {v b : Int} (h : Alc ns v b) (o : IsOrd os v) : Alc (placedI ns os) v b := by
  have hl : os.length = ns.length := by have := h.len; have := o.len; omega
  refine ⟨?_, ?_, ?_⟩
  · simp [placedI, upI, o.len]
  · unfold placedI
    rw [o.sums fun j => ns.getD j 0, hl, sum_range, h.sum]
  · intro n hn
    obtain ⟨i, _, rfl⟩ := List.mem_map.mp hn
    rw [List.getD_eq_getElem?_getD]
    cases q : ns[os.idxOf i]? with
    | none => exact Int.le_refl _
    | some x => exact h.nn x (List.mem_of_getElem? q)
def t0 (a b : Int) : Int := if 0 > a - b then 0 else a - b
theorem trI_range {ns ms : List Int} (h : ns.length = ms.length) : trI ns ms = ((List.range ns.length).map fun j => t0 (ns.getD j 0) (ms.getD j 0)).sum := by
  unfold trI
  congr 1
  apply List.ext_getElem
  · simp [h]
  · intro j h1 h2
    have h3 : j < ns.length := by simpa using h2
    have h4 : j < ms.length := by omega
    simp [t0, List.getD_eq_getElem?_getD, List.getElem?_eq_getElem h3, List.getElem?_eq_getElem h4]
end Lm


namespace Lm
open PySem PySem.Spec PyProof.Rows L2
section
variable {c : Ct} {H H' H0 H1 H2 H3 : Hp} {O : List Addr} {σ : L2.St} {Γ Γ' Γ1 : List (Option Rs)} {te : TE} {k : Kd} {i : Int}
theorem rgV_upI (i : Int) : rgV 0 i = (upI 0 i.toNat).map V.int := by
  unfold rgV upI
  rw [List.map_map, Int.sub_zero]
  rfl
theorem erase_map {α : Type} (f : Int → α) : ∀ (l : List Int) (k : Nat), (l.map f).eraseIdx k = (l.eraseIdx k).map f
  | [], _ => rfl
  | _ :: _, 0 => rfl
  | x :: l, k + 1 => by
    show f x :: (l.map f).eraseIdx k = f x :: (l.eraseIdx k).map f
    rw [erase_map f l k]
theorem erase_perm : ∀ (l : List Int) (k : Nat) (h : k < l.length), (l[k] :: l.eraseIdx k).Perm l
  | _ :: _, 0, _ => List.Perm.refl _
  | x :: l, k + 1, h => by
    have hk : k < l.length := by simpa using h
    show (l[k]'hk :: x :: l.eraseIdx k).Perm (x :: l)
    exact (List.Perm.swap ..).trans (List.Perm.cons x (erase_perm l k hk))
theorem yesT {σ : L2.St} {H : Hp} {Q : Bool → Hp → Prop} (h : Q true H) : tYes σ H Q := h
/-- list(range(n)) -/
theorem e_listRg (h : Ev c te Γ k (.int i)) (h0 : 0 ≤ i) (h1 : i ≤ 1000000) : Ev c (tLstRg (tRg1 te)) Γ .o (.list ((upI 0 i.toNat).map .int)) := fun H0 O H σ e Q q =>
  h H0 O H σ e _ fun v H1 r s => ⟨i, (Res.bo e s).int', .of_le (by decide) (by omega) (by decide) h0, fun p hp => by
    have sm : Same H1 (upd H1 p (.lst (rgV 0 i))) := fun b o z => by rw [upd_ne (ne_of_none z hp)]; exact z
    refine q _ _ (r.tr (Rr.same sm)) ⟨[p], .lst upd_same (FoAll.leaves (flatAll_ints _) ?_), by simp, fun a ha => ?_⟩
    · rw [rgV_upI]; exact BoAll.ofInts _
    · cases List.mem_singleton.mp ha
      exact r.back e.jH hp⟩
/-- all the items of a list in any order, one after another taken out of it -/
theorem s_popAll {K : PySem.W.Frag} {st l : Addr} {E : XK} {m : Int} {ns : List Int} {P : Out → Prop} (g0 : Γ[0]? = some (some (.r (.ref st)))) (g1 : Γ[1]? = some (some (.v (.int m)))) (g2 : Γ[2]? = some (some (.o (.list (ns.map .int)))))
    (ho : IsOrd ns m) (hm : m ≤ 1000) (p : ∀ ms, IsOrd ms m → P (.rt .v (.tuple (ms.map .int)))) :
    Sd (sc K st l) (tRet (tCB (rTuple K) (tCons (tLc (iRng1 (tCons (tVar 1) tNil)) (gName 3) tYes (tBM K "list" rPopAt (tVar 2) (tCons (tCall (sp__law_next K) [] E (tCons (tVar 0) (tCons (tCB (rLen K) (tCons (tVar 2) tNil)) tNil))) tNil)) [3]) tNil))) Γ P := fun H0 O H σ D e s => by
  have s0 : σ[0]? = some (some (.ref st)) := e.slotR g0
  obtain ⟨v1, s1, b1⟩ := e.slotV g1
  have := b1.int'
  subst this
  obtain ⟨v2, fp, s2, f2, nd2, sub2⟩ := e.slotO g2
  obtain ⟨L, xs, f, rfl, rfl, hL, fa⟩ := f2.list'
  obtain ⟨_, al⟩ := fa.flat0 (flatAll_ints ns)
  have := al.ints
  subst this
  have LO : L ∈ O := sub2 L (by simp)
  have Lst : L ≠ st := e.okO L LO st l rfl
  have hlen := ho.len
  have hm0 : 0 ≤ m := by omega
  refine ⟨_, s1, m, rfl, by omega, by omega, fun C hC => lc_it walk_range (fun n H' => ∃ (left acc : List Int), H' L = some (.lst (left.map V.int)) ∧ H' C = some (.lst (acc.map V.int)) ∧ acc.length = n ∧ (left.length : Int) = m - n ∧ (acc ++ left).Nodup ∧ (∀ x ∈ acc ++ left, 0 ≤ x ∧ x < m) ∧ Ji (sc K st l) H' ∧ ∀ a o, a ≠ st → a ≠ L → a ≠ C → H a = some o → H' a = some o) ?_ (fun _ _ _ _ => trivial) ?_ ?_⟩
  · have LC : L ≠ C := fun z => by rw [z, hC] at hL; cases hL
    have sm : Same H (upd H C (.lst [])) := fun b o z => by rw [upd_ne (ne_of_none z hC)]; exact z
    exact ⟨ns, [], by rw [upd_ne LC]; exact hL, upd_same, rfl, by omega, ho.nd, ho.rng, e.jH.same sm, fun a o _ _ q z => by rw [upd_ne q]; exact z⟩
  · rintro i x H' H'' hi ⟨left, acc, hl, hc, ha, hll, nd, rg, jH, fr⟩ ⟨rfl, rfl⟩
    have k0 : ((L2.wipe σ [3]).set 3 (some (V.int (0 + (i : Int)))))[0]? = some (some (.ref st)) := by simp [L2.wipe, List.getElem?_set, s0]
    have k2 : ((L2.wipe σ [3]).set 3 (some (V.int (0 + (i : Int)))))[2]? = some (some (.ref L)) := by simp [L2.wipe, List.getElem?_set, s2]
    have CL : C ≠ L := fun z => by rw [← z, hC] at hL; cases hL
    have Cst : C ≠ st := fun z => by
      obtain ⟨_, _, _, h1, _⟩ := e.jH st l rfl
      rw [← z, hC] at h1; cases h1
    have lpos : 0 < left.length := by omega
    refine ⟨(wipe_set (by simp)).trans (wipe_wipe fun _ h => h), ?_⟩
    refine yesT ?_
    dsimp only
    rw [if_pos rfl]
    refine ⟨_, k2, .inl ⟨rfl, _, .inl (.inl hl)⟩, _, k0, _, k2, L, _, rfl, .inl (.inl (.inl hl)), ?_⟩
    refine ⟨st, l, [.int (left.map V.int).length], [.int (left.map V.int).length], .v, _, rfl, jH st l rfl, .cons (.int _) .nil, ⟨_, rfl, by rw [List.length_map]; omega, by rw [List.length_map]; omega, rfl, rfl⟩, ?_⟩
    rintro v d H2 ⟨n, rfl, n0, n1⟩ r rt
    rw [List.length_map] at n1
    have := rt.2.int'
    subst this
    have hl2 : H2 L = some (.lst (left.map V.int)) := r.1 L _ (fun st' l' q => by cases q; exact Lst) hl
    have hc2 : H2 C = some (.lst (acc.map V.int)) := r.1 C _ (fun st' l' q => by cases q; exact Cst) hc
    have nk : n.toNat < left.length := by omega
    refine ⟨L, left.map V.int, n, n.toNat, .int left[n.toNat], rfl, rfl, hl2, by omega, by omega, ?_, by simp [nk], acc.map V.int, by rw [upd_ne CL]; exact hc2, by rw [List.length_map, sizeLine_eq]; omega, left.eraseIdx n.toNat, acc ++ [left[n.toNat]], ?_, ?_, by simp [ha], ?_, ?_, ?_, ?_, ?_⟩
    · unfold seqIndex?
      have h1 : ¬ n < 0 := by omega
      simp [h1, n0, n1]
    · rw [upd_ne CL.symm, upd_same, erase_map]
    · rw [upd_same, List.map_append]; rfl
    · rw [List.length_eraseIdx]
      simp [nk]
      omega
    · have pe : (acc ++ [left[n.toNat]] ++ left.eraseIdx n.toNat).Perm (acc ++ left) := by
        rw [List.append_assoc]
        exact List.Perm.append_left acc (erase_perm left n.toNat nk)
      exact pe.nodup_iff.mpr nd
    · intro x hx
      have pe : (acc ++ [left[n.toNat]] ++ left.eraseIdx n.toNat).Perm (acc ++ left) := by
        rw [List.append_assoc]
        exact List.Perm.append_left acc (erase_perm left n.toNat nk)
      exact rg x (pe.mem_iff.mp hx)
    · have j2 := r.2 jH
      intro st' l' q
      cases q
      obtain ⟨ns', x', k', g1, g2, g3, g4⟩ := j2 st l rfl
      have lL : l ≠ L := fun z => by
        obtain ⟨ns'', x'', k'', h1, h2, h3, h4⟩ := e.j st l rfl
        rw [z, mns_in LO] at h2
        cases h2
      have lC : l ≠ C := fun z => by
        obtain ⟨ns'', x'', k'', h1, h2, h3, h4⟩ := e.jH st l rfl
        rw [z, hC] at h2
        cases h2
      exact ⟨ns', x', k', by rw [upd_ne Cst.symm, upd_ne Lst.symm]; exact g1, by rw [upd_ne lC, upd_ne lL]; exact g2, g3, g4⟩
    · intro a o a1 a2 a3 z
      rw [upd_ne a3, upd_ne a2]
      exact r.1 a o (fun st' l' q => by cases q; exact a1) (fr a o a1 a2 a3 z)
  · rintro H' ⟨left, acc, hl, hc, ha, hll, nd, rg, jH, fr⟩
    have e0 : left = [] := List.eq_nil_of_length_eq_zero (by omega)
    subst e0
    rw [List.append_nil] at nd rg
    refine ⟨C, acc.map V.int, rfl, .inl ⟨.inl (.inl hc), newTk (c := sc K st l) fun q H2 hq sm tp => s _ (p acc ⟨by omega, nd, rg⟩) (.ref q) H2 ⟨fun a o ka ha' => sm _ _ (fr a o (ka st l rfl) (fun z => ?_) (fun z => ?_) (e.rH.1 a o ka ha')), fun _ => jH.same sm⟩ ⟨flatT acc, .tup tp (BoAll.ofInts acc)⟩⟩⟩
    · rw [z, e.fr L LO] at ha'; cases ha'
    · have := e.rH.1 a o ka ha'
      rw [z, hC] at this; cases this
end
theorem eqvT (ns ms : List Int) : PyData.eqv (.tuple (ns.map .int)) (.tuple (ms.map .int)) = decide (ns = ms) := by
  simp only [PyData.eqv]
  exact PySem.W.ked_eqvAll ns ms
theorem shapedT (ns : List Int) : SeqAt.shaped (.tuple (ns.map .int)) = true := by
  simp [SeqAt.shaped, PyData.canLay0, PyData.canLayAll0, PyData.depth, PyData.depthAll, PySem.W.ke_canLayAll0, PySem.W.ke_depthAll]
section
variable {c : Ct} {Γ : List (Option Rs)} {ta tb : TE} {ka kb : Kd}
end
end Lm


/-! allocations: how they are made, what goes over -/
namespace Lm
open PySem PySem.Spec PyProof.Rows L2
theorem alc0 {v : Int} (h : 0 ≤ v) : Alc ((upI 0 v.toNat).map fun _ => 0) v (0 : Nat) := by
  refine ⟨by simp [upI]; omega, ?_, fun n hn => ?_⟩
  · generalize upI 0 v.toNat = l
    induction l with
    | nil => rfl
    | cons a l ih => rw [List.map_cons, List.sum_cons, ih]; rfl
  · obtain ⟨_, _, rfl⟩ := List.mem_map.mp hn
    exact Int.le_refl _
theorem sum_set : ∀ {ns : List Int} {m : Nat} {x : Int}, m < ns.length → (ns.set m x).sum = ns.sum - ns.getD m 0 + x
  | [], _, _, h => by simp at h
  | n :: ns, 0, x, _ => by
    show x + ns.sum = (n + ns.sum) - n + x
    omega
  | n :: ns, m + 1, x, h => by
    have := sum_set (ns := ns) (m := m) (x := x) (by simpa using h)
    show n + (ns.set m x).sum = (n + ns.sum) - ns.getD m 0 + x
    omega
theorem Alc.one {ns : List Int} {v : Int} {b m : Nat} (h : Alc ns v b) (hm : m < ns.length) : Alc (ns.set m (ns.getD m 0 + 1)) v ((b + 1 : Nat) : Int) := by
  refine ⟨by rw [List.length_set]; exact h.len, ?_, fun n hn => ?_⟩
  · have := h.sum
    rw [sum_set hm]
    omega
  · rcases List.mem_or_eq_of_mem_set hn with q | q
    · exact h.nn n q
    · have : ns.getD m 0 ∈ ns := by
        rw [List.getD_eq_getElem?_getD, List.getElem?_eq_getElem hm]
        exact List.getElem_mem hm
      have := h.nn _ this
      omega
theorem ord_upI {m : Int} (h : 0 ≤ m) : IsOrd (upI 0 m.toNat) m := by
  refine ⟨by simp [upI]; omega, nodup_upI _, fun n hn => ?_⟩
  have := mem_upI.mp hn
  omega
/-! ### sums over two lists at once -/
def zs (f : Int → Int → Int) (ns ms : List Int) : Int := ((List.range ns.length).map fun j => f (ns.getD j 0) (ms.getD j 0)).sum
theorem zs_cons {f : Int → Int → Int} {n m : Int} {ns ms : List Int} : zs f (n :: ns) (m :: ms) = f n m + zs f ns ms := by
  unfold zs
  rw [List.length_cons, List.range_succ_eq_map, List.map_cons, List.sum_cons, List.map_map]
  rfl
theorem trI_zs {ns ms : List Int} (h : ns.length = ms.length) : trI ns ms = zs t0 ns ms := trI_range h
theorem zs_sub : ∀ {ns ms : List Int}, ns.length = ms.length → zs t0 ns ms - zs t0 ms ns = ns.sum - ms.sum
  | [], [], _ => rfl
  | n :: ns, m :: ms, h => by
    have := zs_sub (ns := ns) (ms := ms) (by simpa using h)
    rw [zs_cons, zs_cons, List.sum_cons, List.sum_cons]
    have : t0 n m - t0 m n = n - m := by unfold t0; split <;> split <;> omega
    omega
  | [], _ :: _, h => by simp at h
  | _ :: _, [], h => by simp at h
theorem t0_nn (a b : Int) : 0 ≤ t0 a b := by unfold t0; split <;> omega
theorem zs_nn : ∀ {ns ms : List Int}, ns.length = ms.length → 0 ≤ zs t0 ns ms
  | [], [], _ => Int.le_refl _
  | n :: ns, m :: ms, h => by
    have := zs_nn (ns := ns) (ms := ms) (by simpa using h)
    have := t0_nn n m
    rw [zs_cons]
    omega
  | [], _ :: _, h => by simp at h
  | _ :: _, [], h => by simp at h
theorem zs_self : ∀ {ns : List Int}, zs t0 ns ns = 0
  | [] => rfl
  | n :: ns => by
    rw [zs_cons, zs_self (ns := ns)]
    unfold t0
    split <;> omega
theorem zs_zero : ∀ {ns ms : List Int}, ns.length = ms.length → zs t0 ns ms = 0 → zs t0 ms ns = 0 → ns = ms
  | [], [], _, _, _ => rfl
  | n :: ns, m :: ms, h, h1, h2 => by
    have hl : ns.length = ms.length := by simpa using h
    rw [zs_cons] at h1 h2
    have a1 := zs_nn hl
    have a2 := zs_nn hl.symm
    have b1 := t0_nn n m
    have b2 := t0_nn m n
    have e := zs_zero hl (by omega) (by omega)
    have c1 : t0 n m = 0 := by omega
    have c2 : t0 m n = 0 := by omega
    have : n = m := by
      unfold t0 at c1 c2
      split at c1 <;> split at c2 <;> omega
    rw [e, this]
  | [], _ :: _, h, _, _ => by simp at h
  | _ :: _, [], h, _, _ => by simp at h
variable {ns ms ps : List Int} {v b : Int}
theorem Alc.lens (h : Alc ns v b) (g : Alc ms v b) : ns.length = ms.length := by have := h.len; have := g.len; omega
theorem Alc.tr_comm (h : Alc ns v b) (g : Alc ms v b) : trI ms ns = trI ns ms := by
  have l := h.lens g
  have := zs_sub l
  rw [trI_zs l, trI_zs l.symm]
  have := h.sum
  have := g.sum
  omega
theorem Alc.tr_self : trI ns ns = 0 := by rw [trI_zs rfl, zs_self]
theorem Alc.tr_zero (h : Alc ns v b) (g : Alc ms v b) : decide (trI ns ms = 0) = decide (ns = ms) := by
  have l := h.lens g
  rw [decide_eq_decide]
  constructor
  · intro e
    have e2 := h.tr_comm g
    rw [trI_zs l] at e
    rw [trI_zs l, trI_zs l.symm, e] at e2
    exact zs_zero l e e2
  · rintro rfl
    exact Alc.tr_self
theorem trI_up (h : ns.length = ms.length) : trI ns ms = ((upI 0 ns.length).map fun i => t0 (ns.getD i.toNat 0) (ms.getD i.toNat 0)).sum := by
  rw [trI_zs h, upI0, List.map_map]
  rfl
/-- a list that is filled place by place -/
structure Due (ns os due : List Int) (v : Int) (n : Nat) : Prop where
  len : (due.length : Int) = v
  got : ∀ j, j < n → due.getD (os.getD j 0).toNat 0 = ns.getD j 0
theorem gd_lt {l : List Int} {j : Nat} (h : j < l.length) : l.getD j 0 = l[j] := by
  rw [List.getD_eq_getElem?_getD, List.getElem?_eq_getElem h]
  rfl
theorem gd_mem {l : List Int} {j : Nat} (h : j < l.length) : l.getD j 0 ∈ l := by rw [gd_lt h]; exact List.getElem_mem h
variable {os due : List Int} {n : Nat}
theorem Due.step (d : Due ns os due v n) (ho : IsOrd os v) (hn : n < os.length) : Due ns os (due.set (os.getD n 0).toNat (ns.getD n 0)) v (n + 1) := by
  refine ⟨by rw [List.length_set]; exact d.len, fun j hj => ?_⟩
  have hl := d.len
  have r1 := ho.rng _ (gd_mem hn)
  have h1 : (os.getD n 0).toNat < due.length := by omega
  by_cases q : j = n
  · subst q
    rw [List.getD_eq_getElem?_getD, List.getElem?_set_self h1]
    rfl
  · have hj' : j < n := by omega
    have hjl : j < os.length := by omega
    have r2 := ho.rng _ (gd_mem hjl)
    have ne : (os.getD n 0).toNat ≠ (os.getD j 0).toNat := fun e => by
      have e2 : os.getD j 0 = os.getD n 0 := by omega
      rw [gd_lt hn, gd_lt hjl] at e2
      exact q (nodup_inj ho.nd hjl hn e2)
    rw [List.getD_eq_getElem?_getD, List.getElem?_set_ne ne, ← List.getD_eq_getElem?_getD]
    exact d.got j hj'
theorem Due.done (d : Due ns os due v os.length) (ho : IsOrd os v) : due = placedI ns os := by
  have hl := d.len
  have hol := ho.len
  apply List.ext_getElem
  · simp [placedI, upI]; omega
  · intro i h1 h2
    obtain ⟨hj, h3, _⟩ := ho.idx (i := (i : Int)) (by omega) (by omega)
    have := d.got _ hj
    have e1 : os.getD (os.idxOf (i : Int)) 0 = i := by rw [List.getD_eq_getElem?_getD, h3]; rfl
    rw [e1] at this
    have e2 : ((i : Int)).toNat = i := by omega
    rw [e2, gd_lt h1] at this
    rw [this]
    unfold placedI
    simp [upI]
theorem upI_at {n m : Nat} {a : Im} (h : ((upI 0 n).map fun i => Im.d (.int i))[m]? = some a) : m < n ∧ a = .d (.int (m : Int)) := by
  unfold upI at h
  rw [List.map_map, List.getElem?_map] at h
  cases q : (List.range n)[m]? with
  | none => rw [q] at h; cases h
  | some j =>
    rw [q] at h
    have hm : m < n := by have := (List.getElem?_eq_some_iff.mp q).1; simpa using this
    have hj : j = m := by rw [List.getElem?_range hm] at q; exact (Option.some.inj q).symm
    subst hj
    refine ⟨hm, (Option.some.inj h).symm.trans ?_⟩
    show Im.d (.int (0 + (j : Int))) = _
    rw [Int.zero_add]
theorem ixN_at {n m : Nat} {i : Int} (hi : i = (m : Int)) (h : m < n) : ixN n i = some m := by
  rw [hi]
  exact Evl.ixN_nat h
theorem at_ints {ns : List Int} {j : Nat} (h : j < ns.length) : atI (ns.map PyData.int) (j : Int) = some (.int (ns.getD j 0)) := atI_nat (by simp [h])
/-- xs[i] = an int, xs a list of ints -/
theorem s_setII {c : Ct} {Γ : List (Option Rs)} {te ta : TE} {k ka : Kd} {P : Out → Prop} {n m : Nat} {x i : Int} {ns : List Int} (hx : Γ[n]? = some (some (.o (.list (ns.map .int))))) (h : Ev c te Γ k (.int x)) (hi : Ev c ta Γ ka (.int i)) (hj : i = (m : Int)) (hm : m < ns.length) (p : P (.nx (Γ.set n (some (.o (.list ((ns.set m x).map .int))))))) : Sd c (tAsg te (gSub (tVar n) ta rSetL)) Γ P :=
  s_setI hx (flatAll_ints _) h rfl hi (ixN_at hj (by simpa using hm)) (by rw [List.map_set] at p; exact p)
end Lm


/-! zip whose tuples are kept; enumerate(zip(a, b)) -/
namespace Lm
open PySem PySem.Spec PyProof.Rows L2
/-- a zip, with what it says of its last tuple -/
abbrev IsZipX (h : Heap) (z TI TO : Addr) (x : Value) (b : Bool) : Prop := h.get? z = some { cls := .type "zip", data := .fields #[x, .bool b, .bool false, .ref TI, .ref TO] }
section
variable {prog : Program} {w : World} {A : Around} {E : Value → Shared → Prop} {s : Shared} {z TI TO i1 i2 : Addr} {fp1 fp2 : List Addr} {n1 n2 i : Nat} {P1 P2 : Nat → Value → Prop} {St1 St2 : Nat → Heap → Prop} {a1 a2 : Value} {b : Bool} {x : Value}
theorem zipX_free {Q : Bool → Shared → Prop} (hz : IsZipX s.heap z TI TO x b) (hx : x = .none ∨ ∃ T : Addr, x = rawInt T) (h1 : Q true s) (h2 : ∀ h', IsZipX h' z TI TO x true → Heap.SameBut z s.heap h' → Q false { s with heap := h' }) :
    wpAny (model prog w) A (Builtin.SmallTypes.ownedTupleIsFree (.ref z)) Q E s := by
  unfold Builtin.SmallTypes.ownedTupleIsFree
  refine wpAny_bind (wpAny_field hz rfl (x := x) rfl ?_)
  rcases hx with rfl | ⟨T, rfl⟩
  · exact wpAny_pure h1
  · show wpAny _ _ (loadIfAlive T >>= _) _ _ _
    cases hT : s.heap.get? T with
    | none =>
      have alive : ∀ {Q : Option Obj → Shared → Prop}, Q none s → wpAny (model prog w) A (loadIfAlive T) Q E s := fun {Q} q => by
        have q' : Q (s.heap.get? T) s := by rw [hT]; exact q
        exact fun _ _ _ => q'
      refine wpAny_bind (alive ?_)
      exact wpAny_pure h1
    | some o =>
      refine wpAny_bind (PySem.W.kdx_alive hT ?_)
      simp only [Option.isNone_some, Bool.false_eq_true, if_false]
      refine wpAny_bind (wpAny_field hz rfl (x := .bool b) rfl ?_)
      cases b with
      | true => exact wpAny_pure (h2 _ hz (Heap.SameBut.refl ..))
      | false => exact wpAny_bind (wpAny_setField_rec hz (by simp) fun h1 hz1 hs1 => wpAny_pure (h2 h1 hz1 hs1))
/-- a turn of zip, whatever became of the last tuple -/
theorem zipX_item {Q : Value → Shared → Prop} (S : ZipSep2 z TI TO i1 i2 fp1 fp2) (D1 : Draws prog w A i1 fp1 n1 P1 St1) (D2 : Draws prog w A i2 fp2 n2 P2 St2)
    (hz : IsZipX s.heap z TI TO x b) (hx : x = .none ∨ ∃ T : Addr, x = rawInt T) (hTI : IsTupOf2 s.heap TI (.ref i1) (.ref i2)) (hTO : IsTupOf2 s.heap TO a1 a2) (st1 : St1 i s.heap) (st2 : St2 i s.heap) (hlt1 : i < n1) (hlt2 : i < n2)
    (hQ : ∀ x1 x2 h' tk x' b', P1 i x1 → P2 i x2 → IsZipX h' z TI TO x' b' → (x' = .none ∨ ∃ T : Addr, x' = rawInt T) → (∃ a1 a2, IsTupOf2 h' TO a1 a2) → St1 (i + 1) h' → St2 (i + 1) h' → IsTupOf2 h' s.heap.objs.size x1 x2 → h'.objs.size = s.heap.objs.size + 1 →
      (∀ c o, c ≠ z → c ≠ TO → c ≠ i1 → c ≠ i2 → s.heap.get? c = some o → h'.get? c = some o) → Q (.ref s.heap.objs.size) { s with heap := h', toks := tk }) :
    wpAny (model prog w) A (Builtin.«zip.__next__» ⟨[.ref z], []⟩) (fun fin s' => ∃ v, fin = .done (.ret v) ∧ Q v s') E s := by
  obtain ⟨hp, g, d, tk0, os⟩ := s
  show wpAny _ _ (field (.ref z) 2 >>= _) _ _ _
  refine wpAny_bind (wpAny_field hz rfl (x := .bool false) rfl ?_)
  show wpAny _ _ (field (.ref z) 3 >>= _) _ _ _
  refine wpAny_bind (wpAny_field hz rfl (x := .ref TI) rfl ?_)
  refine wpAny_bind (wpAny_seqItems hTI rfl ?_)
  show wpAny _ _ (Builtin.SmallTypes.ownedTupleIsFree (.ref z) >>= _) _ _ _
  refine wpAny_bind (zipX_free hz hx ?_ fun g0 hz0 hs0 => ?_)
  · simp only [if_true]
    refine wpAny_bind (wpAny_rule (wpAny_bind (wpAny_field hz rfl (x := .ref TO) rfl ?_)))
    refine wpAny_bind (wpAny_setField_rec hz (by simp) fun g0 hz0 hs0 => ?_)
    replace hz0 : IsZipX g0 z TI TO .ellipsis b := hz0
    replace hs0 : Heap.SameBut z hp g0 := hs0
    refine wpAny_bind ?_
    simp only [List.zipIdx_cons, List.zipIdx_nil, List.forIn_cons, List.forIn_nil]
    refine wpAny_bind (wpAny_bind (wpAny_onRaise ?_))
    show wpAny _ _ (Builtin.SmallTypes.nextOf (.ref i1) >>= _) _ _ ⟨g0, g, d, tk0, os⟩
    refine wpAny_bind (D1.item i _ _ _ hlt1 (D1.over st1 hs0 S.zf1) fun x1 p1 tk1 hx1 sn1 hp1 => wpAny_pure ?_)
    replace hp1 : Heap.SameBut i1 g0 p1 := hp1
    have hU1 : IsTupOf2 p1 TO a1 a2 := hp1.extBut _ _ S.Ti1 (hs0.extBut _ _ S.TOz hTO)
    refine wpAny_bind (wpAny_seqItems (s := ⟨p1, g, d, tk1, os⟩) hU1 rfl ?_)
    refine wpAny_bind (updateSeq_IsTupOf2 (s := ⟨p1, g, d, tk1, os⟩) hU1 fun g1 hT1 hs1 => ?_)
    replace hT1 : IsTupOf2 g1 TO x1 a2 := hT1
    replace hs1 : Heap.SameBut TO p1 g1 := hs1
    refine wpAny_bind (wpAny_letGo (wpAny_pure ?_))
    refine wpAny_bind (wpAny_bind (wpAny_onRaise ?_))
    show wpAny _ _ (Builtin.SmallTypes.nextOf (.ref i2) >>= _) _ _ ⟨g1, g, d, tk1, os⟩
    refine wpAny_bind (D2.item i _ _ _ hlt2 (D2.over (D2.over (D2.over st2 hs0 S.zf2) hp1 S.sep1_2) hs1 S.Tf2) fun x2 p2 tk2 hx2 sn2 hp2 => wpAny_pure ?_)
    replace hp2 : Heap.SameBut i2 g1 p2 := hp2
    have hU2 : IsTupOf2 p2 TO x1 a2 := hp2.extBut _ _ S.Ti2 hT1
    refine wpAny_bind (wpAny_seqItems (s := ⟨p2, g, d, tk2, os⟩) hU2 rfl ?_)
    refine wpAny_bind (updateSeq_IsTupOf2 (s := ⟨p2, g, d, tk2, os⟩) hU2 fun g2 hT2 hs2 => ?_)
    replace hT2 : IsTupOf2 g2 TO x1 x2 := hT2
    replace hs2 : Heap.SameBut TO p2 g2 := hs2
    refine wpAny_bind (wpAny_letGo (wpAny_pure (wpAny_pure ?_)))
    refine wpAny_bind (wpAny_seqItems (s := ⟨g2, g, d, tk2, os⟩) hT2 rfl (wpAny_bind (wpAny_newTuple ?_)))
    have hsz : g2.objs.size = hp.objs.size := by rw [hs2.1, hp2.1, hs1.1, hp1.1, hs0.1]
    have hzz : IsZipX g2 z TI TO .ellipsis b := (hs2.extBut _ _ S.TOz.symm (hp2.extBut _ _ S.zi2 (hs1.extBut _ _ S.TOz.symm (hp1.extBut _ _ S.zi1 hz0))))
    have hkk : ∀ c o, c ≠ z → c ≠ TO → c ≠ i1 → c ≠ i2 → hp.get? c = some o → g2.get? c = some o := fun c o cz cT c1 c2 e =>
      hs2.extBut _ _ cT (hp2.extBut _ _ c2 (hs1.extBut _ _ cT (hp1.extBut _ _ c1 (hs0.extBut _ _ cz e))))
    have hj1 : St1 (i + 1) g2 := D1.over (D1.over (D1.over sn1 hs1 S.Tf1) hp2 S.sep2_1) hs2 S.Tf1
    have hj2 : St2 (i + 1) g2 := D2.over sn2 hs2 S.Tf2
    have hzlt : z < g2.objs.size := Heap.lt_size hzz
    show wpAny _ _ (Builtin.SmallTypes.ownedTupleHandOut (.ref z) (.ref g2.objs.size) >>= _) _ _ ⟨g2.push { cls := .type "tuple", data := .seq #[x1, x2] }, g, d, tk2, os⟩
    refine wpAny_bind ?_
    unfold Builtin.SmallTypes.ownedTupleHandOut
    have hz6 : IsZipX (g2.push { cls := .type "tuple", data := .seq #[x1, x2] }) z TI TO .ellipsis b := Heap.get?_push_of_some _ hzz
    refine wpAny_bind (wpAny_setField_rec hz6 (by simp) fun h7 hz7 hs7 => ?_)
    replace hz7 : IsZipX h7 z TI TO (rawInt g2.objs.size) b := hz7
    refine wpAny_setField_rec hz7 (by simp) fun h8 hz8 hs8 => ?_
    replace hz8 : IsZipX h8 z TI TO (rawInt g2.objs.size) false := hz8
    replace hs7 : Heap.SameBut z (g2.push { cls := .type "tuple", data := .seq #[x1, x2] }) h7 := hs7
    replace hs8 : Heap.SameBut z h7 h8 := hs8
    have up : ∀ c o, c ≠ z → g2.get? c = some o → h8.get? c = some o := fun c o c1 e => hs8.extBut _ _ c1 (hs7.extBut _ _ c1 (Heap.get?_push_of_some _ e))
    have hT8 : IsTupOf2 h8 g2.objs.size x1 x2 := hs8.extBut _ _ (Nat.ne_of_gt hzlt) (hs7.extBut _ _ (Nat.ne_of_gt hzlt) (Heap.get?_push_size _ rfl))
    have hz9 : h8.objs.size = g2.objs.size + 1 := by rw [hs8.1, hs7.1, Heap.size_push]
    rw [hsz] at hz8 hT8 hz9
    refine wpAny_pure ⟨_, rfl, ?_⟩
    show Q (.ref g2.objs.size) ⟨h8, g, d, tk2, os⟩
    rw [hsz]
    exact hQ x1 x2 h8 tk2 _ _ hx1 hx2 hz8 (.inr ⟨_, rfl⟩) ⟨_, _, up _ _ S.TOz hT2⟩ (D1.frame _ _ _ hj1 fun b hb o e => up b o (fun q => S.zf1 (q ▸ hb)) e) (D2.frame _ _ _ hj2 fun b hb o e => up b o (fun q => S.zf2 (q ▸ hb)) e) hT8 hz9 fun c o cz cT c1 c2 e => up c o cz (hkk c o cz cT c1 c2 e)
  · replace hs0 : Heap.SameBut z hp g0 := hs0
    simp only [Bool.false_eq_true, if_false]
    refine wpAny_bind ?_
    rw [← Array.forIn_toList]
    simp only [List.forIn_cons, List.forIn_nil]
    refine wpAny_bind (wpAny_bind (wpAny_holding ?_))
    show wpAny _ _ (Builtin.SmallTypes.nextOf (.ref i1) >>= _) _ _ ⟨g0, g, d, tk0, os⟩
    refine wpAny_bind (D1.item i _ _ _ hlt1 (D1.over st1 hs0 S.zf1) fun x1 p1 tk1 hx1 sn1 hp1 => wpAny_pure ?_)
    replace hp1 : Heap.SameBut i1 g0 p1 := hp1
    refine wpAny_pure ?_
    refine wpAny_bind (wpAny_bind (wpAny_holding ?_))
    show wpAny _ _ (Builtin.SmallTypes.nextOf (.ref i2) >>= _) _ _ ⟨p1, g, d, tk1, os⟩
    refine wpAny_bind (D2.item i _ _ _ hlt2 (D2.over (D2.over st2 hs0 S.zf2) hp1 S.sep1_2) fun x2 p2 tk2 hx2 sn2 hp2 => wpAny_pure ?_)
    replace hp2 : Heap.SameBut i2 p1 p2 := hp2
    refine wpAny_pure (wpAny_pure ?_)
    show wpAny _ _ (newTuple [x1, x2] >>= _) _ _ ⟨p2, g, d, tk2, os⟩
    refine wpAny_bind (wpAny_newTuple ?_)
    have hsz : p2.objs.size = hp.objs.size := by rw [hp2.1, hp1.1, hs0.1]
    have hzz : IsZipX p2 z TI TO x true := hp2.extBut _ _ S.zi2 (hp1.extBut _ _ S.zi1 hz0)
    have hj1 : St1 (i + 1) p2 := D1.over sn1 hp2 S.sep2_1
    have hTO2 : IsTupOf2 p2 TO a1 a2 := hp2.extBut _ _ S.Ti2 (hp1.extBut _ _ S.Ti1 (hs0.extBut _ _ S.TOz hTO))
    refine wpAny_pure ⟨_, rfl, ?_⟩
    show Q (.ref p2.objs.size) _
    rw [hsz]
    refine hQ x1 x2 (p2.push { cls := .type "tuple", data := .seq #[x1, x2] }) tk2 _ _ hx1 hx2 (Heap.get?_push_of_some _ hzz) hx ⟨_, _, Heap.get?_push_of_some _ hTO2⟩ (D1.frame _ _ _ hj1 fun b hb o e => Heap.get?_push_of_some _ e) (D2.frame _ _ _ sn2 fun b hb o e => Heap.get?_push_of_some _ e) ?_ (by rw [Heap.size_push, hsz]) fun c o cz cT c1 c2 e => Heap.get?_push_of_some _ (hp2.extBut _ _ c2 (hp1.extBut _ _ c1 (hs0.extBut _ _ cz e)))
    rw [← hsz]
    exact Heap.get?_push_size _ rfl
/-- zip at its end: the first iterator has ended -/
theorem zipX_end {Q : Fin → Shared → Prop} (S : ZipSep2 z TI TO i1 i2 fp1 fp2) (D1 : Draws prog w A i1 fp1 n1 P1 St1)
    (hz : IsZipX s.heap z TI TO x b) (hx : x = .none ∨ ∃ T : Addr, x = rawInt T) (hTI : IsTupOf2 s.heap TI (.ref i1) (.ref i2)) (st1 : St1 n1 s.heap)
    (hE : ∀ h' e, (∀ c o, c ≠ z → c ≠ i1 → s.heap.get? c = some o → h'.get? c = some o) → (∃ o, h'.get? e = some o ∧ o.cls = .type "StopIteration") → E (.ref e) { s with heap := h' }) :
    wpAny (model prog w) A (Builtin.«zip.__next__» ⟨[.ref z], []⟩) Q E s := by
  obtain ⟨hp, g, d, tk0, os⟩ := s
  show wpAny _ _ (field (.ref z) 2 >>= _) _ _ _
  refine wpAny_bind (wpAny_field hz rfl (x := .bool false) rfl ?_)
  show wpAny _ _ (field (.ref z) 3 >>= _) _ _ _
  refine wpAny_bind (wpAny_field hz rfl (x := .ref TI) rfl ?_)
  refine wpAny_bind (wpAny_seqItems hTI rfl ?_)
  show wpAny _ _ (Builtin.SmallTypes.ownedTupleIsFree (.ref z) >>= _) _ _ _
  refine wpAny_bind (zipX_free hz hx ?_ fun g0 hz0 hs0 => ?_)
  · simp only [if_true]
    refine wpAny_bind (wpAny_rule (wpAny_bind (wpAny_field hz rfl (x := .ref TO) rfl ?_)))
    refine wpAny_bind (wpAny_setField_rec hz (by simp) fun g0 hz0 hs0 => ?_)
    replace hz0 : IsZipX g0 z TI TO .ellipsis b := hz0
    replace hs0 : Heap.SameBut z hp g0 := hs0
    refine wpAny_bind ?_
    simp only [List.zipIdx_cons, List.zipIdx_nil, List.forIn_cons, List.forIn_nil]
    refine wpAny_bind (wpAny_bind (wpAny_onRaise ?_))
    show wpAny _ _ (Builtin.SmallTypes.nextOf (.ref i1) >>= _) _ _ ⟨g0, g, d, tk0, os⟩
    refine wpAny_bind (D1.done ⟨g0, g, d, tk0, os⟩ _ _ (D1.over st1 hs0 S.zf1) fun q e hq he => ?_)
    replace hq : Heap.ExtBut i1 g0 q := hq
    obtain ⟨oe, hoe, hce⟩ := he
    replace hoe : q.get? e = some oe := hoe
    have hzq : IsZipX q z TI TO .ellipsis b := hq _ _ S.zi1 hz0
    have hez : e ≠ z := fun y => by subst y; rw [hzq] at hoe; cases hoe; simp at hce
    refine wpAny_setField_rec (s := ⟨q, g, d, tk0, os⟩) hzq (by simp) fun q' _ hq' => ?_
    replace hq' : Heap.SameBut z q q' := hq'
    exact hE q' e (fun c o cz c1 y => hq'.extBut _ _ cz (hq _ _ c1 (hs0.extBut _ _ cz y))) ⟨oe, hq'.extBut _ _ hez hoe, hce⟩
  · replace hs0 : Heap.SameBut z hp g0 := hs0
    simp only [Bool.false_eq_true, if_false]
    refine wpAny_bind ?_
    rw [← Array.forIn_toList]
    simp only [List.forIn_cons, List.forIn_nil]
    refine wpAny_bind (wpAny_bind (wpAny_holding ?_))
    show wpAny _ _ (Builtin.SmallTypes.nextOf (.ref i1) >>= _) _ _ ⟨g0, g, d, tk0, os⟩
    refine wpAny_bind (D1.done ⟨g0, g, d, tk0, os⟩ _ _ (D1.over st1 hs0 S.zf1) fun q e hq he => ?_)
    replace hq : Heap.ExtBut i1 g0 q := hq
    exact hE q e (fun c o cz c1 y => hq _ _ c1 (hs0.extBut _ _ cz y)) he
end
section
variable {prog : Program} {w : World} {A : Around} {E : Value → Shared → Prop} {s : Shared}
/-- a turn of enumerate, the inner iterator's turn being given -/
theorem enumN_item {e it : Addr} {i : Nat} {old : Value} {Q : Value → Shared → Prop} (he : IsEnum s.heap e it i old)
    (inner : wpAny (model prog w) A (Builtin.SmallTypes.nextOf (.ref it)) (fun x s1 => IsEnum s1.heap e it i old ∧
      ∀ h' tk, IsEnumOut h' e it ((i : Int) + 1) x s1.heap.objs.size → h'.get? s1.heap.objs.size = some { cls := .type "tuple", data := .seq #[.int i tk, x] } →
        (∀ b o, b ≠ e → s1.heap.get? b = some o → h'.get? b = some o) → Q (.ref s1.heap.objs.size) { s1 with heap := h', toks := s1.toks + 1 }) E s) :
    wpAny (model prog w) A (Builtin.«enumerate.__next__» ⟨[.ref e], []⟩) (fun fin s' => ∃ v, fin = .done (.ret v) ∧ Q v s') E s := by
  show wpAny _ _ (field (.ref e) 2 >>= _) _ _ _
  refine wpAny_bind (wpAny_field he rfl (x := .ref it) rfl ?_)
  refine wpAny_bind (wpAny_mono inner (fun x s1 hh => ?_) fun _ _ y => y)
  obtain ⟨he1, hQ⟩ := hh
  obtain ⟨h1, g, d, tk, os⟩ := s1
  show wpAny _ _ (field (.ref e) 3 >>= _) _ _ ⟨h1, g, d, tk, os⟩
  refine wpAny_bind (wpAny_field he1 rfl (x := rawInt i) rfl ?_)
  show wpAny _ _ (field (.ref e) 4 >>= _) _ _ ⟨h1, g, d, tk, os⟩
  refine wpAny_bind (wpAny_field he1 rfl (x := .none) rfl ?_)
  show wpAny _ _ (mkInt i >>= _) _ _ ⟨h1, g, d, tk, os⟩
  refine wpAny_bind (wpAny_mkInt ?_)
  show wpAny _ _ (setField (.ref e) 3 (rawInt ((i : Int) + 1)) >>= _) _ _ ⟨h1, g, d, tk + 1, os⟩
  refine wpAny_bind (wpAny_setField_rec he1 (by simp) fun h2 he2 hs2 => ?_)
  replace hs2 : Heap.SameBut e h1 h2 := hs2
  replace he2 : IsEnum h2 e it ((i : Int) + 1) old := he2
  show wpAny _ _ (setField (.ref e) 4 .none >>= _) _ _ ⟨h2, g, d, tk + 1, os⟩
  refine wpAny_bind (wpAny_setField_rec he2 (by simp) fun h3 he3 hs3 => ?_)
  replace hs3 : Heap.SameBut e h2 h3 := hs3
  replace he3 : IsEnum h3 e it ((i : Int) + 1) old := he3
  show wpAny _ _ (newTuple [.int i tk, x] >>= _) _ _ ⟨h3, g, d, tk + 1, os⟩
  refine wpAny_bind (wpAny_newTuple ?_)
  have hsz : h3.objs.size = h1.objs.size := by rw [hs3.1, hs2.1]
  have hel : e < h1.objs.size := Heap.lt_size he1
  have he4 : IsEnum (h3.push { cls := .type "tuple", data := .seq #[.int i tk, x] }) e it ((i : Int) + 1) old := Heap.get?_push_of_some _ he3
  have ht4 : (h3.push { cls := .type "tuple", data := .seq #[.int i tk, x] }).get? h3.objs.size = some { cls := .type "tuple", data := .seq #[.int i tk, x] } := Heap.get?_push_size _ rfl
  have hk4 : ∀ b o, b ≠ e → h1.get? b = some o → (h3.push { cls := .type "tuple", data := .seq #[.int i tk, x] }).get? b = some o := fun b o hbe hb =>
    Heap.get?_push_of_some _ (hs3.extBut b o hbe (hs2.extBut b o hbe hb))
  generalize h3.push { cls := .type "tuple", data := .seq #[.int i tk, x] } = h4 at he4 ht4 hk4
  show wpAny _ _ (Builtin.SmallTypes.ownedTupleIsFree (.ref e) >>= _) _ _ ⟨h4, g, d, tk + 1, os⟩
  rw [hsz] at ht4 ⊢
  refine wpAny_bind ?_
  unfold Builtin.SmallTypes.ownedTupleIsFree
  refine wpAny_bind (wpAny_field he4 rfl (x := .none) rfl (wpAny_pure ?_))
  simp only [if_true]
  refine wpAny_bind (wpAny_rule (wpAny_bind (wpAny_field he4 rfl (x := old) rfl ?_)))
  refine wpAny_bind (wpAny_setField_rec he4 (by simp) fun h5 he5 hs5 => ?_)
  replace hs5 : Heap.SameBut e h4 h5 := hs5
  replace he5 : IsEnum h5 e it ((i : Int) + 1) x := he5
  show wpAny _ _ (Builtin.SmallTypes.ownedTupleHandOut (.ref e) (.ref h1.objs.size) >>= _) _ _ ⟨h5, g, d, tk + 1, os⟩
  refine wpAny_bind ?_
  unfold Builtin.SmallTypes.ownedTupleHandOut
  refine wpAny_bind (wpAny_setField_rec he5 (by simp) fun h6 he6 hs6 => ?_)
  replace hs6 : Heap.SameBut e h5 h6 := hs6
  replace he6 : IsEnumOut h6 e it ((i : Int) + 1) x h1.objs.size := he6
  refine wpAny_setField_rec he6 (by simp) fun h7 he7 hs7 => ?_
  replace hs7 : Heap.SameBut e h6 h7 := hs7
  replace he7 : IsEnumOut h7 e it ((i : Int) + 1) x h1.objs.size := he7
  refine wpAny_bind (wpAny_letGo (wpAny_pure ⟨_, rfl, hQ h7 tk he7 ?_ ?_⟩))
  · exact hs7.extBut _ _ (Nat.ne_of_gt hel) (hs6.extBut _ _ (Nat.ne_of_gt hel) (hs5.extBut _ _ (Nat.ne_of_gt hel) ht4))
  · exact fun b o hbe hb => hs7.extBut b o hbe (hs6.extBut b o hbe (hs5.extBut b o hbe (hk4 b o hbe hb)))
theorem nextOf_zip {z TI TO : Addr} {x : Value} {b : Bool} {Q : Value → Shared → Prop} (hz : IsZipX s.heap z TI TO x b)
    (h : wpAny (model prog w) A.in1 (Builtin.«zip.__next__» ⟨[.ref z], []⟩) (fun fin s' => ∃ v, fin = .done (.ret v) ∧ Q v s') E s) : wpAny (model prog w) A (Builtin.SmallTypes.nextOf (.ref z)) Q E s := by
  have hT : s.TypeIs (.ref z) "zip" := ⟨_, hz, rfl⟩
  unfold Builtin.SmallTypes.nextOf
  refine wpAny_bind (wpAny_callSpecial?_slot (name := Str.ofString "__next__") hT F.slot_zip_next
    (wpAny_call_entry F.slot_zip_next hT F.entry_zip_next ?_ (F.args_zip_next_1 _)))
  refine wpAny_mono h (fun fin s' ⟨v, e, q⟩ => ?_) fun _ _ y => y
  subst e
  exact ⟨v, rfl, wpAny_pure q⟩
theorem next_enum {e it : Addr} {i : Int} {old : Value} {Q : Option Value → Shared → Prop} (he : IsEnum s.heap e it i old)
    (h : ∀ E' : Value → Shared → Prop, wpAny (model prog w) A.in1 (Builtin.«enumerate.__next__» ⟨[.ref e], []⟩) (fun fin s' => ∃ v, fin = .done (.ret v) ∧ Q (some v) s') E' s) : wpAny (model prog w) A (pyNext (.ref e)) Q E s := by
  have hT : s.TypeIs (.ref e) "enumerate" := ⟨_, he, rfl⟩
  unfold pyNext
  refine wpAny_bind (wpAny_attempt (wpAny_callSpecial?_slot (name := Str.ofString "__next__") hT F.slot_enumerate_next
    (wpAny_call_entry F.slot_enumerate_next hT F.entry_enumerate_next ?_ (F.args_enumerate_next_1 _))))
  refine wpAny_mono (h _) (fun fin s' ⟨v, e, q⟩ => ?_) fun _ _ y => y
  subst e
  exact ⟨v, rfl, wpAny_pure q⟩
theorem next_enum_zip_end {e z TI TO i1 i2 : Addr} {i : Int} {old x : Value} {b : Bool} {fp1 fp2 : List Addr} {n1 : Nat} {P1 : Nat → Value → Prop} {St1 : Nat → Heap → Prop} {Q : Option Value → Shared → Prop} (he : IsEnum s.heap e z i old)
    (S : ZipSep2 z TI TO i1 i2 fp1 fp2) (D1 : ∀ A' : Around, A'.handled = none → Draws prog w A' i1 fp1 n1 P1 St1) (hh : A.handled = none) (hz : IsZipX s.heap z TI TO x b) (hx : x = .none ∨ ∃ T : Addr, x = rawInt T) (hTI : IsTupOf2 s.heap TI (.ref i1) (.ref i2)) (st1 : St1 n1 s.heap)
    (hQ : ∀ h', (∀ c o, c ≠ z → c ≠ i1 → s.heap.get? c = some o → h'.get? c = some o) → Q none { s with heap := h' }) : wpAny (model prog w) A (pyNext (.ref e)) Q E s := by
  have hT : s.TypeIs (.ref e) "enumerate" := ⟨_, he, rfl⟩
  have hTz : s.TypeIs (.ref z) "zip" := ⟨_, hz, rfl⟩
  unfold pyNext
  refine wpAny_bind (wpAny_attempt (wpAny_callSpecial?_slot (name := Str.ofString "__next__") hT F.slot_enumerate_next
    (wpAny_call_entry F.slot_enumerate_next hT F.entry_enumerate_next ?_ (F.args_enumerate_next_1 _))))
  show wpAny _ _ (field (.ref e) 2 >>= _) _ _ _
  refine wpAny_bind (wpAny_field he rfl (x := .ref z) rfl ?_)
  unfold Builtin.SmallTypes.nextOf
  refine wpAny_bind (wpAny_bind (wpAny_callSpecial?_slot (name := Str.ofString "__next__") hTz F.slot_zip_next
    (wpAny_call_entry F.slot_zip_next hTz F.entry_zip_next ?_ (F.args_zip_next_1 _))))
  refine zipX_end S (D1 _ hh) hz hx hTI st1 fun h' x' he' hx' => ?_
  obtain ⟨o, ho, hc⟩ := hx'
  refine wpAny_bind (wpAny_isInstance (T := "StopIteration") (b := true) ⟨o, ho, hc⟩ isSubtype_stop ?_)
  exact wpAny_pure (hQ _ he')
end
/-- enumerate(zip(a, b)), a and b tuples: the items in new pairs, each in a new pair with its place -/
def IteZ (K : PySem.W.Frag) (a b : Addr) : It where
  go := fun i H => ∃ (xs ys : List V) (x y : V), SqT K H a xs ∧ SqT K H b ys ∧ xs[i]? = some x ∧ ys[i]? = some y
  yld := fun i H v H' => ∃ (T2 T3 : Addr) (x y : V), v = .ref T3 ∧ H T2 = none ∧ upd H T2 (.tup [x, y]) T3 = none ∧ H' = upd (upd H T2 (.tup [x, y])) T3 (.tup [.int (i : Nat), .ref T2]) ∧ (∀ xs, SqT K H a xs → xs[i]? = some x) ∧ ∀ ys, SqT K H b ys → ys[i]? = some y
  stop := fun i H => ∃ xs : List V, SqT K H a xs ∧ xs.length = i
theorem turnEnumZ {P : Program} {w : World} {K : PySem.W.Frag} {elts : List Expr} {kk : Nat} {tpos : Pos} {a b e z TI TO i1 i2 : Addr} (S : ZipSep2 z TI TO i1 i2 [i1, a] [i2, b]) (ha : a ≠ i1) (hb : b ≠ i2) (ez : e ≠ z) (eI : e ≠ TI) (eO : e ≠ TO) (e1 : e ≠ i1) (e2 : e ≠ i2) :
    Turn P w K (.Tuple elts kk tpos) (IteZ K a b) [e, z, TI, TO, i1, i2] e fun i h => (∃ old, IsEnum h e z ((i : Nat) : Int) old) ∧ (∃ x bb, IsZipX h z TI TO x bb ∧ (x = .none ∨ ∃ T : Addr, x = rawInt T)) ∧ IsTupOf2 h TI (.ref i1) (.ref i2) ∧ (∃ a1 a2, IsTupOf2 h TO a1 a2) ∧ h.IsTupleIter i1 a i ∧ h.IsTupleIter i2 b i where
  mem := List.mem_cons_self
  obj := by
    rintro i h ⟨⟨old, he⟩, ⟨x, bb, hz, _⟩, hTI, ⟨a1, a2, hTO⟩, ⟨o1, g1, _, d1⟩, ⟨o2, g2, _, d2⟩⟩ c hc
    have e' : c = e ∨ c = z ∨ c = TI ∨ c = TO ∨ c = i1 ∨ c = i2 := by simpa using hc
    rcases e' with q | q | q | q | q | q
    · rw [q]; exact ⟨_, he, fun v q => nomatch q⟩
    · rw [q]; exact ⟨_, hz, fun v q => nomatch q⟩
    · rw [q]; exact ⟨_, hTI, fun v q => nomatch q⟩
    · rw [q]; exact ⟨_, hTO, fun v q => nomatch q⟩
    · rw [q]; exact ⟨o1, g1, fun v q => by rw [d1] at q; cases q⟩
    · rw [q]; exact ⟨o2, g2, fun v q => by rw [d2] at q; cases q⟩
  keep := by
    rintro i h h' ⟨⟨old, he⟩, ⟨x, bb, hz, hx⟩, hTI, ⟨a1, a2, hTO⟩, h1, h2⟩ k
    exact ⟨⟨old, k e (by simp) _ he⟩, ⟨x, bb, k z (by simp) _ hz, hx⟩, k TI (by simp) _ hTI, ⟨a1, a2, k TO (by simp) _ hTO⟩, h1.at fun o q => k i1 (by simp) o q, h2.at fun o q => k i2 (by simp) o q⟩
  item := by
    intro X hP hw hK hc i pins s σ H E I hf ⟨⟨old, he⟩, ⟨x0, bb, hz, hx0⟩, hTI, ⟨a1, a2, hTO⟩, h1, h2⟩ ⟨xs, ys, x, y, hqx, hqy, hx, hy⟩
    subst hP hw hK
    obtain ⟨its, rv, p, _⟩ := I.tuple hqx
    obtain ⟨its2, rv2, p2, _⟩ := I.tuple hqy
    obtain ⟨u, hu, ru⟩ := rv.get hx
    obtain ⟨u2, hu2, ru2⟩ := rv2.get hy
    have lt1 : i < its.toArray.size := by rw [List.size_toArray]; exact (List.getElem?_eq_some_iff.mp hu).1
    have lt2 : i < its2.toArray.size := by rw [List.size_toArray]; exact (List.getElem?_eq_some_iff.mp hu2).1
    have hh : X.A.in1.in1.handled = none := I.ok.hd hc
    have hel := Heap.lt_size he
    refine next_enum he fun E' => enumN_item he (nextOf_zip hz (zipX_item S (Draws.tuple hh i1 a ha its.toArray) (Draws.tuple hh i2 b hb its2.toArray) hz hx0 hTI hTO ⟨h1, p⟩ ⟨h2, p2⟩ lt1 lt2 fun v1 v2 g1 tk x' b' hv1 hv2 hz' hx' hTO' s1' s2' hT hsz hk => ⟨?_, fun h' tk2 ho hT3 hk2 => ⟨_, rfl, wpAny_letOwnedTupleGo_enum ho fun h'' he'' sb => ?_⟩⟩))
    · exact hk _ _ ez eO e1 e2 he
    · have q1 : v1 = u := by
        have : its[i]? = some v1 := by simpa using hv1
        rw [hu] at this
        exact (Option.some.inj this).symm
      have q2 : v2 = u2 := by
        have : its2[i]? = some v2 := by simpa using hv2
        rw [hu2] at this
        exact (Option.some.inj this).symm
      subst q1 q2
      have hf1 : ∀ c ∈ [z, TI, TO, i1, i2], FpOk X pins H c := fun c hc => hf c (List.mem_cons_of_mem _ hc)
      have frT : H s.heap.objs.size = none := I.hok.fresh (Nat.le_refl _)
      have hlt : ∀ c ∈ [e, z, TI, TO, i1, i2], c < s.heap.objs.size := fun c hc => by
        have e' : c = e ∨ c = z ∨ c = TI ∨ c = TO ∨ c = i1 ∨ c = i2 := by simpa using hc
        rcases e' with q | q | q | q | q | q
        · rw [q]; exact hel
        · rw [q]; exact Heap.lt_size hz
        · rw [q]; exact Heap.lt_size hTI
        · rw [q]; exact Heap.lt_size hTO
        · rw [q]; obtain ⟨_, w1, _⟩ := h1; exact Heap.lt_size w1
        · rw [q]; obtain ⟨_, w1, _⟩ := h2; exact Heap.lt_size w1
      have I1 : Inv X pins σ (upd H s.heap.objs.size (.tup [x, y])) { s with heap := g1, toks := tk } :=
        I.turnedNew (t' := tk) (ch := [z, TI, TO, i1, i2]) (fun c o hb q => hk c o (fun q' => hb (by simp [q'])) (fun q' => hb (by simp [q'])) (fun q' => hb (by simp [q'])) (fun q' => hb (by simp [q'])) q) hf1 (Nat.le_refl _)
          ⟨by show 2 ≤ sizeLine; decide, [v1, v2], .cons ru (.cons ru2 .nil), ⟨_, hT, rfl, _, rfl⟩⟩
      have heg : e < g1.objs.size := by rw [hsz]; exact Nat.lt_succ_of_lt hel
      have fe : FpOk X pins (upd H s.heap.objs.size (.tup [x, y])) e := by
        obtain ⟨f0, f1⟩ := hf e List.mem_cons_self
        exact ⟨by rw [upd_ne (Nat.ne_of_lt hel)]; exact f0, f1⟩
      have hT3' : h''.get? g1.objs.size = some { cls := .type "tuple", data := .seq #[.int i tk2, .ref s.heap.objs.size] } := (sb.2 _ (Nat.ne_of_gt heg)).trans hT3
      have I2 : Inv X pins σ (upd (upd H s.heap.objs.size (.tup [x, y])) g1.objs.size (.tup [.int (i : Nat), .ref s.heap.objs.size])) { s with heap := h'', toks := tk + 1 } :=
        I1.turnedNew (t' := tk + 1) (ch := [e]) (fun c o hb q => (sb.2 c fun q' => hb (by simp [q'])).trans (hk2 c o (fun q' => hb (by simp [q'])) q)) (fun c hc => by cases List.mem_singleton.mp hc; exact fe) (Nat.le_refl _)
          ⟨by show 2 ≤ sizeLine; decide, [.int i tk2, .ref s.heap.objs.size], .cons ⟨_, rfl⟩ (.cons rfl .nil), ⟨_, hT3', rfl, _, rfl⟩⟩
      have up2 : ∀ c o, c ≠ e → g1.get? c = some o → h''.get? c = some o := fun c o ce q => (sb.2 c ce).trans (hk2 c o ce q)
      refine ⟨.ref g1.objs.size, _, I2, rfl, ⟨_, _, x, y, rfl, frT, I1.hok.fresh (Nat.le_refl _), rfl, fun l hl => by rw [I.tuple_inj hl hqx]; exact hx, fun l hl => by rw [I.tuple_inj hl hqy]; exact hy⟩, ⟨⟨.ref s.heap.objs.size, ?_⟩, ⟨x', b', up2 _ _ ez.symm hz', hx'⟩, ?_, ?_, s1'.1.at fun o q => up2 _ o e1.symm q, s2'.1.at fun o q => up2 _ o e2.symm q⟩, fun c hc => ?_⟩
      · have w1 : ((i + 1 : Nat) : Int) = (i : Int) + 1 := by omega
        rw [w1]; exact he''
      · exact up2 _ _ eI.symm (hk _ _ S.TIz S.TITO S.TIi1 S.TIi2 hTI)
      · obtain ⟨c1, c2, q⟩ := hTO'
        exact ⟨c1, c2, up2 _ _ eO.symm q⟩
      · have lc := hlt c hc
        have lg : c ≠ g1.objs.size := by rw [hsz]; exact Nat.ne_of_lt (Nat.lt_succ_of_lt lc)
        rw [upd_ne lg, upd_ne (Nat.ne_of_lt lc)]
        exact (hf c hc).1
  done := by
    intro X hP hw hK hc i pins s σ H E I hf ⟨⟨old, he⟩, ⟨x0, bb, hz, hx0⟩, hTI, ⟨a1, a2, hTO⟩, h1, h2⟩ ⟨xs, hqx, hx⟩
    subst hP hw hK
    obtain ⟨its, rv, p, _⟩ := I.tuple hqx
    have hl : its.toArray.size = i := by rw [List.size_toArray, ← rv.length]; exact hx
    refine next_enum_zip_end (n1 := its.toArray.size) he S (fun A' hh' => Draws.tuple hh' i1 a ha its.toArray) (I.ok.hd hc) hz hx0 hTI ⟨by rw [hl]; exact h1, p⟩ fun h' hk => ⟨rfl, I.turnedL (t' := s.toks) (ch := [e, z, TI, TO, i1, i2]) (fun c o hb q => hk c o (fun q' => hb (by simp [q'])) (fun q' => hb (by simp [q'])) q) hf⟩
  self := fun A i s Q E ⟨⟨_, he⟩, _⟩ h => wpAny_pyIter_enum he h
theorem meetsEnumZ {z TI TO : Addr} {f0 : Value} :
    Meets (Builtin.«enumerate.__new__» ⟨[.type "enumerate", .ref z], []⟩) fun _ R s => IsZip s.heap z TI TO f0 ∧
      R (.ok (.ret (.ref s.heap.objs.size))) { s with heap := s.heap.push { cls := .type "enumerate", data := .fields #[.none, .bool false, .ref z, rawInt 0, .none, .none] } } :=
  .of_wp fun prog w A R s h => by
    obtain ⟨hp, g, d, tk, os⟩ := s
    obtain ⟨hl, h⟩ := h
    have q1 : ∀ {A' : Around} {E Q : Value → Shared → Prop}, Q (.ref z) ⟨hp, g, d, tk, os⟩ → wpAny (model prog w) A' (pyIter (.ref z)) Q E ⟨hp, g, d, tk, os⟩ := fun q => wpAny_pyIter_zip hl q
    have hsub := sub_enumerate
    wp_walk using q1
    refine wpAny_stack_any fun st => wpAny_pure ?_
    split
    · rename_i c _ _ _ _ _
      cases (c == Value.type "enumerate") <;> (wp_walk using q1; exact ⟨_, rfl, h⟩)
    · wp_walk using q1
      exact ⟨_, rfl, h⟩
theorem callEnumZ {prog : Program} {w : World} {A : Around} {E : Value → Shared → Prop} {s : Shared} {z TI TO : Addr} {f0 : Value} {Q : Value → Shared → Prop} (hz : IsZip s.heap z TI TO f0)
    (h : ∀ h', IsEnum h' s.heap.objs.size z 0 .none → (∀ b o, s.heap.get? b = some o → h'.get? b = some o) → Q (.ref s.heap.objs.size) { s with heap := h' }) :
    wpAny (model prog w) A (call (.type "enumerate") [.ref z]) Q E s := by
  refine callType_new F.called_enumerate (by decide) (F.typeCall_enumerate_1 _) (F.newCall_enumerate_1 _) (fun obj => F.args_object_init_2 obj _) F.entry_enumerate_new meetsEnumZ ⟨hz, ?_⟩
  have he : IsEnum (s.heap.push { cls := .type "enumerate", data := .fields #[.none, .bool false, .ref z, rawInt 0, .none, .none] }) s.heap.objs.size z 0 .none := Heap.get?_push_size _ rfl
  exact ⟨⟨_, he, rfl⟩, h _ he fun b o x => Heap.get?_push_of_some _ x⟩
def iEnumZ (K : PySem.W.Frag) (ta : TA) : TI := fun σ H R => ta σ H fun vs H1 => ∃ a b xs ys, vs = [.ref a, .ref b] ∧ SqT K H1 a xs ∧ SqT K H1 b ys ∧ R (IteZ K a b) H1
theorem pi_enumZ {X : Cx} {e e2 : Expr} {ta : TA} {p pos p2 pos2 tpos : Pos} {elts : List Expr} {kk : Nat} (hg : Gl X "enumerate") (hm : X.mg "enumerate" = none) (hg2 : Gl X "zip") (hm2 : X.mg "zip" = none) (ha : PA X [e, e2] ta)
    (hs : starEach [e, e2] X.env = (false, eval e X.env) :: starEach [e2] X.env := by rfl) (hpl : (backTo pos2 (starEach [e2] X.env)).any (·.1) = false := by rfl) :
    PI X (.Tuple elts kk tpos) (.Call (.Name "enumerate" p) [.Call (.Name "zip" p2) [e, e2] [] pos2] [] pos) (iEnumZ X.K ta) := by
  refine ⟨fun pins s σ H R I h => ?_⟩
  refine Call_ (ld_blt I hg hm boot_enumerate (PyProof.Rows.callWith_type1 (PyProof.Rows.args_cons ?_ rfl) rfl rfl))
  refine Call_ (ld_blt I hg2 hm2 PyProof.Rows.boot_zip (PyProof.Rows.callWith_type1 (thn (ha.run pos2 pins s σ H _ I h) fun us s1 ⟨vs, H1, I1, r1, q1⟩ => ?_) hs hpl))
  obtain ⟨a, b, xs, ys, ex, hqx, hqy, q⟩ := q1
  subst ex
  cases r1 with
  | cons r rr =>
    cases rr with
    | cons r' rr =>
      cases rr
      cases r
      cases r'
      obtain ⟨its, rv, p1, _⟩ := I1.tuple hqx
      obtain ⟨its2, rv2, p3, _⟩ := I1.tuple hqy
      have la : a < s1.heap.objs.size := let ⟨_, w, _⟩ := p1; Heap.lt_size w
      have lb : b < s1.heap.objs.size := let ⟨_, w, _⟩ := p3; Heap.lt_size w
      refine RZ.call_zipT (show s1.heap.IsTuple a its.toArray from p1) (show s1.heap.IsTuple b its2.toArray from p3) fun h' hz hTI hTO h1 h2 hsz hk => PyProof.Rows.args_nil ?_
      refine callEnumZ (s := { s1 with heap := h' }) hz fun h'' he hk2 => wpAny_pyIter_enum he ?_
      have e5 : h'.objs.size = s1.heap.objs.size + 5 := hsz
      have I2 : Inv _ pins σ H1 { s1 with heap := h'' } := I1.kept (t' := s1.toks) fun c o q => hk2 c o (hk c o q)
      have fresh : ∀ c ∈ [h'.objs.size, s1.heap.objs.size + 4, s1.heap.objs.size + 2, s1.heap.objs.size + 3, s1.heap.objs.size, s1.heap.objs.size + 1], FpOk _ pins H1 c := fun c hc => by
        have e' : c = h'.objs.size ∨ c = s1.heap.objs.size + 4 ∨ c = s1.heap.objs.size + 2 ∨ c = s1.heap.objs.size + 3 ∨ c = s1.heap.objs.size ∨ c = s1.heap.objs.size + 1 := by simpa using hc
        have hle : s1.heap.objs.size ≤ c := by
          rcases e' with z | z | z | z | z | z
          · rw [z, e5]; exact Nat.le_add_right _ _
          · rw [z]; exact Nat.le_add_right _ _
          · rw [z]; exact Nat.le_add_right _ _
          · rw [z]; exact Nat.le_add_right _ _
          · rw [z]; exact Nat.le_refl _
          · rw [z]; exact Nat.le_add_right _ _
        exact I1.fpOk hle (I1.hok.fresh hle)
      have ne : ∀ k : Nat, k < 5 → h'.objs.size ≠ s1.heap.objs.size + k := fun k hk' q => by
        have : s1.heap.objs.size + 5 = s1.heap.objs.size + k := e5.symm.trans q
        omega
      refine ⟨h'.objs.size, [h'.objs.size, s1.heap.objs.size + 4, s1.heap.objs.size + 2, s1.heap.objs.size + 3, s1.heap.objs.size, s1.heap.objs.size + 1], _, _, H1, rfl, I2,
        turnEnumZ (zip_sep2 (N := s1.heap.objs.size) (fp1 := [a]) (fp2 := [b]) (fun c hc => by cases List.mem_singleton.mp hc; exact la) (fun c hc => by cases List.mem_singleton.mp hc; exact lb)) (Nat.ne_of_lt la) (Nat.ne_of_lt (Nat.lt_succ_of_lt lb)) (ne 4 (by decide)) (ne 2 (by decide)) (ne 3 (by decide)) (ne 0 (by decide)) (ne 1 (by decide)),
        ⟨⟨_, he⟩, ⟨_, _, hk2 _ _ hz, .inl rfl⟩, hk2 _ _ hTI, ⟨_, _, hk2 _ _ hTO⟩, h1.at fun o q => hk2 _ o q, h2.at fun o q => hk2 _ o q⟩, fresh, q⟩
theorem walk_enumZ {K : PySem.W.Frag} {a b : Addr} {xs ys : List V} (hl : xs.length = ys.length) : Walk (IteZ K a b) xs.length (fun H => SqT K H a xs ∧ SqT K H b ys)
    fun i H v H' => ∃ (T2 T3 : Addr) (x y : V), v = .ref T3 ∧ H T2 = none ∧ upd H T2 (.tup [x, y]) T3 = none ∧ H' = upd (upd H T2 (.tup [x, y])) T3 (.tup [.int (i : Nat), .ref T2]) ∧ xs[i]? = some x ∧ ys[i]? = some y where
  goes := fun i _ hi w => ⟨xs, ys, xs[i], ys[i]'(by omega), w.1, w.2, List.getElem?_eq_getElem hi, List.getElem?_eq_getElem (by omega)⟩
  stops := fun _ w => ⟨xs, w.1, rfl⟩
  yields := fun i H v H' _ w ⟨T2, T3, x, y, h1, h2, h3, h4, h5, h6⟩ => ⟨T2, T3, x, y, h1, h2, h3, h4, h5 xs w.1, h6 ys w.2⟩
section
variable {c : Ct} {Γ : List (Option Rs)} {tr : TA}
def ezI (p : (Int × Int) × Nat) : Im := .t [.d (.int ((p.2 : Nat) : Int)), .t [.d (.int p.1.1), .d (.int p.1.2)]]
/-- enumerate(zip(ns, ms)) -/
theorem i_enumZ {ns ms : List Int} (hl : ns.length = ms.length) (h : EvA c tr Γ true [.tuple (ns.map .int), .tuple (ms.map .int)]) : EvI c (iEnumZ c.K tr) Γ true ((ns.zip ms).zipIdx.map ezI) := fun H0 O H σ e R q =>
  h H0 O H σ e _ fun vs H1 r s => by
    obtain ⟨x, y, rfl, b1, b2⟩ := (BoAll.vm s).two
    obtain ⟨p, xs, rfl, sl, al⟩ := b1.tup'
    obtain ⟨p2, ys, rfl, sl2, al2⟩ := b2.tup'
    have := al.ints
    subst this
    have := al2.ints
    subst this
    refine ⟨p, p2, _, _, rfl, (sqT_same mns_same sl).sq, (sqT_same mns_same sl2).sq, q _ H1 r ⟨(e.on r).j, ?_⟩⟩
    have el : ((ns.zip ms).zipIdx.map ezI).length = (ns.map V.int).length := by simp; omega
    rw [el]
    refine (walk_enumZ (by simpa using hl)).mono (fun H h => ⟨(h.tup (e.on r).j sl).sq, (h.tup (e.on r).j sl2).sq⟩) fun i H v H' hi g w => ?_
    obtain ⟨T2, T3, x, y, rfl, hT2, hT3, rfl, hx, hy⟩ := w
    have hi' : i < ns.length := by simpa using hi
    have hi2 : i < ms.length := by omega
    have ex : x = .int ns[i] := by simpa [hi'] using hx.symm
    have ey : y = .int ms[i] := by simpa [hi2] using hy.symm
    subst ex ey
    have sm1 : Same H (upd H T2 (.tup [.int ns[i], .int ms[i]])) := fun b o z => by rw [upd_ne (ne_of_none z hT2)]; exact z
    have sm2 : Same (upd H T2 (.tup [.int ns[i], .int ms[i]])) (upd (upd H T2 (.tup [.int ns[i], .int ms[i]])) T3 (.tup [.int (i : Nat), .ref T2])) := fun b o z => by rw [upd_ne (ne_of_none z hT3)]; exact z
    refine ⟨fun b o z => sm2 _ _ (sm1 _ _ z), ezI ((ns[i], ms[i]), i), ?_, .tup (.inl (.inl upd_same)) (.cons (.leaf (.inl ⟨rfl, .int _⟩)) (.cons (.tup (.inl (.inl (sm2 _ _ upd_same))) (.cons (.leaf (.inl ⟨rfl, .int _⟩)) (.cons (.leaf (.inl ⟨rfl, .int _⟩)) .nil))) .nil))⟩
    have ez : (ns.zip ms)[i]? = some (ns[i], ms[i]) := by rw [List.getElem?_zip_eq_some]; exact ⟨List.getElem?_eq_getElem hi', List.getElem?_eq_getElem hi2⟩
    rw [List.getElem?_map, List.getElem?_zipIdx, ez]
    simp
end
section
variable {X : Cx} {K : PySem.W.Frag} (hK : X.K = K)
include hK
theorem k_enumZ {e e2 : Expr} {ta : TA} {p pos p2 pos2 tpos : Pos} {elts : List Expr} {kk : Nat} (hg : Gl X "enumerate") (hm : X.mg "enumerate" = none) (hg2 : Gl X "zip") (hm2 : X.mg "zip" = none) (ha : PA X [e, e2] ta)
    (hs : starEach [e, e2] X.env = (false, eval e X.env) :: starEach [e2] X.env := by rfl) (hpl : (backTo pos2 (starEach [e2] X.env)).any (·.1) = false := by rfl) :
    PI X (.Tuple elts kk tpos) (.Call (.Name "enumerate" p) [.Call (.Name "zip" p2) [e, e2] [] pos2] [] pos) (iEnumZ K ta) := hK ▸ pi_enumZ hg hm hg2 hm2 ha hs hpl
end
end Lm


/-! pairs of assignments, moves, renaming and rearranging -/
namespace Lm
open PySem PySem.Spec PyProof.Rows L2
def isAsgB (x : PyData) (v b : Int) : Bool := areInts x 0 (v - 1) && decide ((lenT x : Int) = b)
theorem Asg.isAsg {ns : List Int} {v b : Int} (h : Asg ns v) (hb : (ns.length : Int) = b) : isAsgB (.tuple (ns.map .int)) v b = true := by
  unfold isAsgB
  rw [areInts_of fun n hn => ⟨(h.rng n hn).1, by have := (h.rng n hn).2; omega⟩, lenT_ints, hb]
  simp
def sp_is_assignment (K : PySem.W.Frag) : Sp := spD K fun ds k d => ∃ x v b, ds = [x, .int v, .int b] ∧ SmallT x ∧ k = .v ∧ d = .bool (isAsgB x v b)
def sp_check_pair (K : PySem.W.Frag) : Sp := spD K fun ds k d => ∃ (ns ms : List Int), ds = [.tuple (ns.map .int), .tuple (ms.map .int)] ∧ Asg ns 5 ∧ Asg ms 5 ∧ ns.length = ms.length ∧ k = .v ∧ d = .none
abbrev mvT (p : (Int × Int) × Nat) : PyData := .tuple [.int (p.2 : Nat), .int p.1.1, .int p.1.2]
def movesD (ns ms : List Int) : List PyData := ((ns.zip ms).zipIdx.filter fun p => !decide (p.1.1 = p.1.2)).map mvT
def sp_moves (K : PySem.W.Frag) : Sp := spD K fun ds k d => ∃ (ns ms : List Int), ds = [.tuple (ns.map .int), .tuple (ms.map .int)] ∧ Asg ns 5 ∧ Asg ms 5 ∧ ns.length = ms.length ∧ k = .o ∧ d = .list (movesD ns ms)
def ne1 (a b : Int) : Int := if a = b then 0 else 1
def sp_churn (K : PySem.W.Frag) : Sp := spD K fun ds k d => ∃ (ns ms : List Int), ds = [.tuple (ns.map .int), .tuple (ms.map .int)] ∧ Asg ns 5 ∧ Asg ms 5 ∧ ns.length = ms.length ∧ k = .v ∧ d = .int (zs ne1 ns ms)
theorem moves_zs : ∀ (ns ms : List Int) (n : Nat), ns.length = ms.length → (((((ns.zip ms).zipIdx n).filter fun p => !decide (p.1.1 = p.1.2)).length : Nat) : Int) = zs ne1 ns ms
  | [], [], _, _ => rfl
  | a :: ns, b :: ms, n, h => by
    have ih := moves_zs ns ms (n + 1) (by simpa using h)
    rw [zs_cons, ← ih, List.zip_cons_cons, List.zipIdx_cons, List.filter_cons]
    by_cases q : a = b
    · simp [q, ne1]
    · simp [q, ne1]
      omega
  | [], _ :: _, _, h => by simp at h
  | _ :: _, [], _, h => by simp at h
theorem movesD_len {ns ms : List Int} (h : ns.length = ms.length) : ((movesD ns ms).length : Int) = zs ne1 ns ms := by
  unfold movesD
  rw [List.length_map]
  exact moves_zs ns ms 0 h
def renI (ns os : List Int) : List Int := ns.map fun i => os.getD i.toNat 0
def sp_renamed (K : PySem.W.Frag) : Sp := spD K fun ds k d => ∃ (ns os : List Int), ds = [.tuple (ns.map .int), .tuple (os.map .int)] ∧ Asg ns 5 ∧ IsOrd os 5 ∧ k = .v ∧ d = .tuple ((renI ns os).map .int)
def sp_rearranged (K : PySem.W.Frag) : Sp := spD K fun ds k d => ∃ (ns os : List Int), ds = [.tuple (ns.map .int), .tuple (os.map .int)] ∧ Asg ns 5 ∧ IsOrd os ns.length ∧ k = .v ∧ d = .tuple ((placedI ns os).map .int)
def backI (os : List Int) : List Int := (upI 0 os.length).map fun i => (os.idxOf i : Int)
variable {ns ms os : List Int} {v m b : Int}
theorem backI_len : (backI os).length = os.length := by simp [backI, upI]
theorem IsOrd.back (o : IsOrd os m) : IsOrd (backI os) m := by
  have hl := o.len
  refine ⟨by rw [backI_len]; exact hl, ?_, fun n hn => ?_⟩
  · unfold backI
    rw [List.nodup_iff_pairwise_ne, List.pairwise_map]
    refine List.Pairwise.imp_of_mem ?_ (List.nodup_iff_pairwise_ne.mp (nodup_upI os.length))
    intro a c ha hc hne e
    have a1 := mem_upI.mp ha
    have c1 := mem_upI.mp hc
    obtain ⟨_, ga, _⟩ := o.idx (i := a) a1.1 (by omega)
    obtain ⟨_, gc, _⟩ := o.idx (i := c) c1.1 (by omega)
    have e' : os.idxOf a = os.idxOf c := by omega
    rw [e', gc] at ga
    exact hne (Option.some.inj ga).symm
  · obtain ⟨i, hi, rfl⟩ := List.mem_map.mp hn
    have a1 := mem_upI.mp hi
    obtain ⟨hj, _, _⟩ := o.idx (i := i) a1.1 (by omega)
    omega
theorem countsI_len : (countsI ns v).length = v.toNat := by simp [countsI, upI]
theorem countsI_get {i : Nat} (h : (i : Int) < v) : (countsI ns v).getD i 0 = (ns.count (i : Int) : Int) := by
  unfold countsI
  rw [List.getD_eq_getElem?_getD]
  have : i < v.toNat := by omega
  simp [upI, this]
theorem Asg.alc (h : Asg ns v) (hv : 0 ≤ v) : Alc (countsI ns v) v ns.length := by
  refine ⟨by rw [countsI_len]; omega, ?_, fun n hn => ?_⟩
  · exact count_sum v.toNat ns fun n hn => by have := h.rng n hn; omega
  · obtain ⟨i, _, rfl⟩ := List.mem_map.mp hn
    omega
theorem e_neg {c : Ct} {Γ : List (Option Rs)} {te : TE} {k : Kd} {i : Int} (h : Ev c te Γ k (.int i)) : Ev c (tUn (rU fun i => .int (-i)) te) Γ .v (.int (-i)) := fun H0 O H σ e Q q =>
  h H0 O H σ e _ fun v H1 r s => ⟨i, (Res.bo e s).int', q _ H1 r (.int _)⟩
/-- a list of data that is filled place by place with ints -/
structure DueD (ns os : List Int) (due : List PyData) (v : Int) (n : Nat) : Prop where
  len : (due.length : Int) = v
  flat : ∀ d ∈ due, flatD d = true
  got : ∀ j, j < n → due[(os.getD j 0).toNat]? = some (.int (ns.getD j 0))
theorem DueD.fl {due : List PyData} {n : Nat} (d : DueD ns os due v n) : flatAll due = true := flatAll_mem d.flat
theorem DueD.step {due : List PyData} {n : Nat} (d : DueD ns os due v n) (ho : IsOrd os v) (hn : n < os.length) : DueD ns os (due.set (os.getD n 0).toNat (.int (ns.getD n 0))) v (n + 1) := by
  have hl := d.len
  have r1 := ho.rng _ (gd_mem hn)
  have h1 : (os.getD n 0).toNat < due.length := by omega
  refine ⟨by rw [List.length_set]; exact d.len, fun x hx => ?_, fun j hj => ?_⟩
  · rcases List.mem_or_eq_of_mem_set hx with q | q
    · exact d.flat x q
    · rw [q]; rfl
  by_cases q : j = n
  · subst q
    rw [List.getElem?_set_self h1]
  · have hj' : j < n := by omega
    have hjl : j < os.length := by omega
    have r2 := ho.rng _ (gd_mem hjl)
    have ne : (os.getD n 0).toNat ≠ (os.getD j 0).toNat := fun e => by
      have e2 : os.getD j 0 = os.getD n 0 := by omega
      rw [gd_lt hn, gd_lt hjl] at e2
      exact q (nodup_inj ho.nd hjl hn e2)
    rw [List.getElem?_set_ne ne]
    exact d.got j hj'
theorem DueD.done {due : List PyData} (d : DueD ns os due v os.length) (ho : IsOrd os v) : due = (placedI ns os).map .int := by
  have hl := d.len
  have hol := ho.len
  apply List.ext_getElem
  · simp [placedI, upI]; omega
  · intro i h1 h2
    obtain ⟨hj, h3, _⟩ := ho.idx (i := (i : Int)) (by omega) (by omega)
    have g := d.got _ hj
    have e1 : os.getD (os.idxOf (i : Int)) 0 = i := by rw [List.getD_eq_getElem?_getD, h3]; rfl
    rw [e1] at g
    have e2 : ((i : Int)).toNat = i := by omega
    rw [e2, List.getElem?_eq_getElem h1] at g
    rw [Option.some.inj g]
    unfold placedI
    simp [upI]
theorem at_lastI {α : Type} (l : List α) (x : α) : atI (l ++ [x]) (-1) = some x := by
  unfold atI ixN
  have h1 : ¬ (0 : Int) ≤ -1 := by omega
  have hl : ((l ++ [x]).length : Int) = l.length + 1 := by simp
  rw [if_neg h1, hl, if_pos (by omega)]
  have h2 : (-1 + ((l.length : Int) + 1)).toNat = l.length := by omega
  show (l ++ [x])[(-1 + ((l.length : Int) + 1)).toNat]? = some x
  rw [h2]
  simp
end Lm


/-! moves that are not needed -/
namespace Lm
open PySem PySem.Spec PyProof.Rows L2
/-! ### out and in -/
variable {ns ms : List Int} {v : Int}
/-! ### lists with drawn items, drawn places -/
section
variable {c : Ct} {Γ : List (Option Rs)} {ta tb : TE} {k ka kb : Kd} {x : PyData}
theorem n_ixL {Pa P : PyData → Prop} {Q : Int → Prop} (ha : EvN c ta Γ ka Pa) (hb : EvN c tb Γ kb (SomeI Q)) (hr : ∀ x i, Pa x → Q i → ∃ ds d, x = .list ds ∧ atI ds i = some d ∧ flatD d = true ∧ P d) : EvN c (tOp (rIx c.K) ta tb) Γ .v P := fun H0 O H σ e Q' q =>
  ha H0 O H σ e _ fun v x H1 px r1 s1 => hb H0 O H1 σ (e.on r1) _ fun u y H2 ⟨i, hi, qi⟩ r2 s2 => by
    obtain ⟨ds, d, rfl, he, hf, pd⟩ := hr x i px qi
    subst hi
    obtain ⟨p, xs, rfl, _, s, al⟩ := (Res.bo e (Res.on e r1 r2 s1)).lst'
    obtain ⟨x, hx, bx⟩ := atI_bo al he
    exact .inl ⟨p, xs, i, x, rfl, (Res.bo (e.on r1) s2).int', s, hx, q x d H2 pd (r1.tr r2) (Bo.flatM e (r1.tr r2) hf bx)⟩
end
end Lm


/-! sorted of a tuple of ints; zip of three with one name as target -/
namespace Lm
open PySem PySem.Spec PyProof.Rows L2
section
variable {prog : Program} {w : World} {A : Around} {E : Value → Shared → Prop} {s : Shared}
theorem collectT {l : Addr} {vs : List Value} {Q : List Value → Shared → Prop} (hl : s.heap.IsTuple l vs.toArray)
    (h : Q vs { s with heap := (s.heap.push (seqObj "list" #[] 0)).update s.heap.objs.size (Obj.mapSeq (· ++ vs.toArray)) }) (hsz : vs.length ≤ sizeLine) :
    wpAny (model prog w) A (collect (.ref l)) Q E s := by
  obtain ⟨o, ho, hc, n, hd⟩ := id hl
  unfold collect
  refine wpAny_bind (wpAny_runValue (codeAny_builtin entry_proto_collect' ?_))
  show wpAny _ _ (do again (.builtin "list.__iadd__" ⟨[← newList [], .ref l], []⟩)) _ _ s
  refine wpAny_bind (wpAny_newList (wpAny_pure ⟨Code.quiet_builtin _ (by decide +kernel), codeAny_builtin entry_list_iadd' ?_⟩))
  show wpAny _ _ (Builtin.List.listExtendWith (.ref s.heap.objs.size) (.ref l) (.ref s.heap.objs.size)) _ _ { s with heap := s.heap.push (seqObj "list" #[] 0) }
  unfold Builtin.List.listExtendWith
  have ho' : (s.heap.push (seqObj "list" #[] 0)).get? l = some o := Heap.get?_push_of_some _ ho
  have hn : (s.heap.push (seqObj "list" #[] 0)).get? s.heap.objs.size = some (seqObj "list" #[] 0) := Heap.get?_push_size _ rfl
  refine wpAny_bind (wpAny_typeOf (T := "tuple") ⟨o, ho', hc⟩ ?_)
  have ht : (Value.type "tuple" == Value.type "tuple") = true := by rfl
  rw [if_pos (by rw [ht]; simp)]
  refine wpAny_bind (listItems_at ho' hd (wpAny_bind (listItems_at (xs := #[]) (n := 0) hn rfl ?_)))
  rw [if_neg (by simp)]
  refine wpAny_bind (listUpdate_at (xs := #[]) (n := 0) hn rfl ?_ (Nat.zero_le _) (by show (#[] ++ vs.toArray).size ≤ sizeLine + 1; simp only [Array.size_append, List.size_toArray, List.length_nil]; omega))
  refine wpAny_pure ?_
  show wpAny (model prog w) A (do
      let o ← load s.heap.objs.size
      match o.data with
      | .seq xs _ => pure xs.toList
      | _ => unsupported "internal:collect") Q E { s with heap := (s.heap.push (seqObj "list" #[] 0)).update s.heap.objs.size (Obj.mapSeq (· ++ vs.toArray)) }
  refine wpAny_bind (wpAny_load (get?_update_seq hn _) ?_)
  show wpAny _ _ (pure ((#[] : Array Value) ++ vs.toArray).toList) Q E _
  rw [show ((#[] : Array Value) ++ vs.toArray).toList = vs by simp]
  exact wpAny_pure h
theorem sortedT {l : Addr} {vs : List Value} {ns : List Int} {Q : Value → Shared → Prop} (hl : s.heap.IsTuple l vs.toArray) (hI : IntsAre vs ns) (h64 : vs.length < 64)
    (h : ∀ (out : Array Value) (ns' : List Int), IntsAre out.toList ns' → ns'.Perm ns → ns'.Pairwise (· ≤ ·) → Q (.ref (s.heap.objs.size + 1)) { s with heap := sortedAll s.heap vs out }) :
    wpAny (model prog w) A (call (.builtin "sorted") [.ref l]) Q E s := by
  refine Calls.call_function_entry kind_sorted plain_sorted entry_sorted (args_sorted1 _) ?_
  unfold Builtin.«sorted»
  refine wpAny_bind (m := checkCount "sorted" 1 1 _) (wpAny_pure (wpAny_bind (collectT hl ?_ (by rw [sizeLine_eq]; omega))))
  refine wpAny_bind (wpAny_newList ?_)
  have hsz : ((s.heap.push (seqObj "list" #[] 0)).update s.heap.objs.size (Obj.mapSeq (· ++ vs.toArray))).objs.size = s.heap.objs.size + 1 := by
    rw [Heap.size_update, size_push']
  have hoL : (((s.heap.push (seqObj "list" #[] 0)).update s.heap.objs.size (Obj.mapSeq (· ++ vs.toArray))).push (seqObj "list" vs.toArray 0)).get? (s.heap.objs.size + 1) = some (seqObj "list" vs.toArray 0) := by
    rw [← hsz]; exact Heap.get?_push_size _ rfl
  show wpAny _ _ _ _ _ { s with heap := ((s.heap.push (seqObj "list" #[] 0)).update s.heap.objs.size (Obj.mapSeq (· ++ vs.toArray))).push (seqObj "list" vs.toArray 0) }
  rw [hsz]
  refine wpAny_bind (wpAny_holding (wpAny_call_entry PyProof.Rows.slot_list_sort ⟨_, hoL, rfl⟩ PyProof.Rows.entry_list_sort (list_sort_tree hoL hI h64 fun out ns' a1 a2 a3 => ⟨_, rfl, ?_⟩) (PyProof.Rows.args_list_sort _)))
  exact wpAny_pure ⟨_, rfl, h out ns' a1 a2 a3⟩
end
def rSortedT (K : PySem.W.Frag) : List V → Hp → VK → Prop := fun vs H Q => ∃ (a : Addr) (ns : List Int), vs = [V.ref a] ∧ SqT K H a (ns.map V.int) ∧ ns.length < 64 ∧
  ∀ (ns' : List Int) (p : Addr), ns'.Perm ns → ns'.Pairwise (· ≤ ·) → H p = none → Q (.ref p) (upd H p (.lst (ns'.map V.int)))
section
variable {X : Cx}
theorem cr_sortedT : CallR X (.builtin "sorted") (rSortedT X.K) := by
  intro pins s σ H vs us Q I r h
  obtain ⟨a, ns, rfl, hs, h64, q⟩ := h
  obtain ⟨its, rv, hl, _⟩ := I.tuple hs
  rw [Vals.ref1 r]
  have hi := ints_of_vals rv
  refine sortedT (show s.heap.IsTuple a its.toArray from hl) hi (by rw [hi.length]; exact h64) fun out ns' h1 h2 h3 => ?_
  obtain ⟨ep, he'⟩ := PyProof.Rows.sortedAll_at s.heap its out
  have hlen : (ns'.map V.int).length ≤ sizeLine := by rw [List.length_map, h2.length_eq]; exact small64 h64
  exact ⟨.ref _, upd H (s.heap.objs.size + 1) (.lst (ns'.map V.int)), I.laid (t' := s.toks) (fun _ _ => PyProof.Rows.sortedAll_old) (Nat.le_succ _) ⟨hlen, out.toList, ep, vals_of_ints h1, he'⟩, rfl, q ns' _ h2 h3 (I.hok.fresh (Nat.le_succ _))⟩
def rSortedA (K : PySem.W.Frag) : List V → Hp → VK → Prop := fun vs H Q => rSorted K vs H Q ∨ rSortedT K vs H Q
theorem k_sorted {K : PySem.W.Frag} (hK : X.K = K) : CallR X (.builtin "sorted") (rSortedA K) := hK ▸ cr_sorted.or cr_sortedT
end
section
variable {c : Ct} {Γ : List (Option Rs)} {te : TE} {k : Kd}
/-- sorted(t): a new list -/
theorem n_sortedT {ns : List Int} (h : Ev c te Γ k (.tuple (ns.map .int))) (hl : ns.length < 64) : EvN c (tCB (rSortedA c.K) (tCons te tNil)) Γ .o (fun d => ∃ ns' : List Int, d = .list (ns'.map .int) ∧ ns'.Perm ns ∧ ns'.Pairwise (· ≤ ·)) := fun H0 O H σ e Q q =>
  h H0 O H σ e _ fun v H1 r s => by
    obtain ⟨p, xs, rfl, sl, al⟩ := (Res.bo e s).tup'
    have := al.ints
    subst this
    refine .inr ⟨p, ns, rfl, sl.sq, hl, fun ns' p' h1 h2 hp => ?_⟩
    have sm : Same H1 (upd H1 p' (.lst (ns'.map V.int))) := fun b u z => by rw [upd_ne (ne_of_none z hp)]; exact z
    exact q _ _ _ ⟨ns', rfl, h1, h2⟩ (r.tr (Rr.same sm)) ⟨[p'], .lst upd_same (FoAll.leaves (flatAll_ints _) (BoAll.ofInts _)), by simp, fun a ha => by
      cases List.mem_singleton.mp ha
      exact r.back e.jH hp⟩
end
/-! ### zip of three -/
section
variable {prog : Program} {w : World} {A : Around} {E : Value → Shared → Prop} {s : Shared} {z TI TO i1 i2 i3 : Addr} {fp1 fp2 fp3 : List Addr} {n1 n2 n3 i : Nat} {P1 P2 P3 : Nat → Value → Prop} {St1 St2 St3 : Nat → Heap → Prop} {a1 a2 a3 : Value} {b : Bool} {x : Value}
theorem zipX3_item {Q : Value → Shared → Prop} (S : ZipSep3 z TI TO i1 i2 i3 fp1 fp2 fp3) (D1 : Draws prog w A i1 fp1 n1 P1 St1) (D2 : Draws prog w A i2 fp2 n2 P2 St2) (D3 : Draws prog w A i3 fp3 n3 P3 St3)
    (hz : IsZipX s.heap z TI TO x b) (hx : x = .none ∨ ∃ T : Addr, x = rawInt T) (hTI : IsTupOf3 s.heap TI (.ref i1) (.ref i2) (.ref i3)) (hTO : IsTupOf3 s.heap TO a1 a2 a3) (st1 : St1 i s.heap) (st2 : St2 i s.heap) (st3 : St3 i s.heap) (hlt1 : i < n1) (hlt2 : i < n2) (hlt3 : i < n3)
    (hQ : ∀ x1 x2 x3 h' tk x' b', P1 i x1 → P2 i x2 → P3 i x3 → IsZipX h' z TI TO x' b' → (x' = .none ∨ ∃ T : Addr, x' = rawInt T) → (∃ a1 a2 a3, IsTupOf3 h' TO a1 a2 a3) → St1 (i + 1) h' → St2 (i + 1) h' → St3 (i + 1) h' → IsTupOf3 h' s.heap.objs.size x1 x2 x3 → h'.objs.size = s.heap.objs.size + 1 →
      (∀ c o, c ≠ z → c ≠ TO → c ≠ i1 → c ≠ i2 → c ≠ i3 → s.heap.get? c = some o → h'.get? c = some o) → Q (.ref s.heap.objs.size) { s with heap := h', toks := tk }) :
    wpAny (model prog w) A (Builtin.«zip.__next__» ⟨[.ref z], []⟩) (fun fin s' => ∃ v, fin = .done (.ret v) ∧ Q v s') E s := by
  obtain ⟨hp, g, d, tk0, os⟩ := s
  show wpAny _ _ (field (.ref z) 2 >>= _) _ _ _
  refine wpAny_bind (wpAny_field hz rfl (x := .bool false) rfl ?_)
  show wpAny _ _ (field (.ref z) 3 >>= _) _ _ _
  refine wpAny_bind (wpAny_field hz rfl (x := .ref TI) rfl (wpAny_bind (wpAny_seqItems hTI rfl ?_)))
  show wpAny _ _ (Builtin.SmallTypes.ownedTupleIsFree (.ref z) >>= _) _ _ _
  refine wpAny_bind (zipX_free hz hx ?_ fun g0 hz0 hs0 => ?_)
  · simp only [if_true]
    refine wpAny_bind (wpAny_rule (wpAny_bind (wpAny_field hz rfl (x := .ref TO) rfl ?_)))
    refine wpAny_bind (wpAny_setField_rec hz (by simp) fun g0 hz0 hs0 => ?_)
    replace hz0 : IsZipX g0 z TI TO .ellipsis b := hz0
    replace hs0 : Heap.SameBut z hp g0 := hs0
    refine wpAny_bind ?_
    simp only [List.zipIdx_cons, List.zipIdx_nil, List.forIn_cons, List.forIn_nil]
    refine wpAny_bind (wpAny_bind (wpAny_onRaise ?_))
    show wpAny _ _ (Builtin.SmallTypes.nextOf (.ref i1) >>= _) _ _ ⟨g0, g, d, tk0, os⟩
    refine wpAny_bind (D1.item i _ _ _ hlt1 (D1.over st1 hs0 S.zf1) fun x1 p1 tk1 hx1 sn1 hp1 => wpAny_pure ?_)
    replace hp1 : Heap.SameBut i1 g0 p1 := hp1
    have hU1 : IsTupOf3 p1 TO a1 a2 a3 := hp1.extBut _ _ S.Ti1 (hs0.extBut _ _ S.TOz hTO)
    refine wpAny_bind (wpAny_seqItems (s := ⟨p1, g, d, tk1, os⟩) hU1 rfl (wpAny_bind (updateSeq_IsTupOf3 (s := ⟨p1, g, d, tk1, os⟩) hU1 fun g1 hT1 hs1 => ?_)))
    replace hT1 : IsTupOf3 g1 TO x1 a2 a3 := hT1
    replace hs1 : Heap.SameBut TO p1 g1 := hs1
    refine wpAny_bind (wpAny_letGo (wpAny_pure ?_))
    refine wpAny_bind (wpAny_bind (wpAny_onRaise ?_))
    show wpAny _ _ (Builtin.SmallTypes.nextOf (.ref i2) >>= _) _ _ ⟨g1, g, d, tk1, os⟩
    refine wpAny_bind (D2.item i _ _ _ hlt2 (D2.over (D2.over (D2.over st2 hs0 S.zf2) hp1 S.sep1_2) hs1 S.Tf2) fun x2 p2 tk2 hx2 sn2 hp2 => wpAny_pure ?_)
    replace hp2 : Heap.SameBut i2 g1 p2 := hp2
    have hU2 : IsTupOf3 p2 TO x1 a2 a3 := hp2.extBut _ _ S.Ti2 hT1
    refine wpAny_bind (wpAny_seqItems (s := ⟨p2, g, d, tk2, os⟩) hU2 rfl (wpAny_bind (updateSeq_IsTupOf3 (s := ⟨p2, g, d, tk2, os⟩) hU2 fun g2 hT2 hs2 => ?_)))
    replace hT2 : IsTupOf3 g2 TO x1 x2 a3 := hT2
    replace hs2 : Heap.SameBut TO p2 g2 := hs2
    refine wpAny_bind (wpAny_letGo (wpAny_pure ?_))
    refine wpAny_bind (wpAny_bind (wpAny_onRaise ?_))
    show wpAny _ _ (Builtin.SmallTypes.nextOf (.ref i3) >>= _) _ _ ⟨g2, g, d, tk2, os⟩
    refine wpAny_bind (D3.item i _ _ _ hlt3 (D3.over (D3.over (D3.over (D3.over (D3.over st3 hs0 S.zf3) hp1 S.sep1_3) hs1 S.Tf3) hp2 S.sep2_3) hs2 S.Tf3) fun x3 p3 tk3 hx3 sn3 hp3 => wpAny_pure ?_)
    replace hp3 : Heap.SameBut i3 g2 p3 := hp3
    have hU3 : IsTupOf3 p3 TO x1 x2 a3 := hp3.extBut _ _ S.Ti3 hT2
    refine wpAny_bind (wpAny_seqItems (s := ⟨p3, g, d, tk3, os⟩) hU3 rfl (wpAny_bind (updateSeq_IsTupOf3 (s := ⟨p3, g, d, tk3, os⟩) hU3 fun g3 hT3 hs3 => ?_)))
    replace hT3 : IsTupOf3 g3 TO x1 x2 x3 := hT3
    replace hs3 : Heap.SameBut TO p3 g3 := hs3
    refine wpAny_bind (wpAny_letGo (wpAny_pure (wpAny_pure ?_)))
    refine wpAny_bind (wpAny_seqItems (s := ⟨g3, g, d, tk3, os⟩) hT3 rfl (wpAny_bind (wpAny_newTuple ?_)))
    have hsz : g3.objs.size = hp.objs.size := by rw [hs3.1, hp3.1, hs2.1, hp2.1, hs1.1, hp1.1, hs0.1]
    have hzz : IsZipX g3 z TI TO .ellipsis b := hs3.extBut _ _ S.TOz.symm (hp3.extBut _ _ S.zi3 (hs2.extBut _ _ S.TOz.symm (hp2.extBut _ _ S.zi2 (hs1.extBut _ _ S.TOz.symm (hp1.extBut _ _ S.zi1 hz0)))))
    have hkk : ∀ c o, c ≠ z → c ≠ TO → c ≠ i1 → c ≠ i2 → c ≠ i3 → hp.get? c = some o → g3.get? c = some o := fun c o cz cT c1 c2 c3 e => hs3.extBut _ _ cT (hp3.extBut _ _ c3 (hs2.extBut _ _ cT (hp2.extBut _ _ c2 (hs1.extBut _ _ cT (hp1.extBut _ _ c1 (hs0.extBut _ _ cz e))))))
    have hj1 : St1 (i + 1) g3 := (D1.over (D1.over (D1.over (D1.over (D1.over sn1 hs1 S.Tf1) hp2 S.sep2_1) hs2 S.Tf1) hp3 S.sep3_1) hs3 S.Tf1)
    have hj2 : St2 (i + 1) g3 := (D2.over (D2.over (D2.over sn2 hs2 S.Tf2) hp3 S.sep3_2) hs3 S.Tf2)
    have hj3 : St3 (i + 1) g3 := (D3.over sn3 hs3 S.Tf3)
    have hzlt : z < g3.objs.size := Heap.lt_size hzz
    show wpAny _ _ (Builtin.SmallTypes.ownedTupleHandOut (.ref z) (.ref g3.objs.size) >>= _) _ _ ⟨g3.push { cls := .type "tuple", data := .seq #[x1, x2, x3] }, g, d, tk3, os⟩
    refine wpAny_bind ?_
    unfold Builtin.SmallTypes.ownedTupleHandOut
    have hz6 : IsZipX (g3.push { cls := .type "tuple", data := .seq #[x1, x2, x3] }) z TI TO .ellipsis b := Heap.get?_push_of_some _ hzz
    refine wpAny_bind (wpAny_setField_rec hz6 (by simp) fun h7 hz7 hs7 => ?_)
    replace hz7 : IsZipX h7 z TI TO (rawInt g3.objs.size) b := hz7
    refine wpAny_setField_rec hz7 (by simp) fun h8 hz8 hs8 => ?_
    replace hz8 : IsZipX h8 z TI TO (rawInt g3.objs.size) false := hz8
    replace hs7 : Heap.SameBut z (g3.push { cls := .type "tuple", data := .seq #[x1, x2, x3] }) h7 := hs7
    replace hs8 : Heap.SameBut z h7 h8 := hs8
    have up : ∀ c o, c ≠ z → g3.get? c = some o → h8.get? c = some o := fun c o c1 e => hs8.extBut _ _ c1 (hs7.extBut _ _ c1 (Heap.get?_push_of_some _ e))
    have hT8 : IsTupOf3 h8 g3.objs.size x1 x2 x3 := hs8.extBut _ _ (Nat.ne_of_gt hzlt) (hs7.extBut _ _ (Nat.ne_of_gt hzlt) (Heap.get?_push_size _ rfl))
    have hz9 : h8.objs.size = g3.objs.size + 1 := by rw [hs8.1, hs7.1, Heap.size_push]
    rw [hsz] at hz8 hT8 hz9
    refine wpAny_pure ⟨_, rfl, ?_⟩
    show Q (.ref g3.objs.size) ⟨h8, g, d, tk3, os⟩
    rw [hsz]
    exact hQ x1 x2 x3 h8 tk3 _ _ hx1 hx2 hx3 hz8 (.inr ⟨_, rfl⟩) ⟨_, _, _, up _ _ S.TOz hT3⟩ (D1.frame _ _ _ hj1 fun b hb o e => up b o (fun q => S.zf1 (q ▸ hb)) e) (D2.frame _ _ _ hj2 fun b hb o e => up b o (fun q => S.zf2 (q ▸ hb)) e) (D3.frame _ _ _ hj3 fun b hb o e => up b o (fun q => S.zf3 (q ▸ hb)) e) hT8 hz9 fun c o cz cT c1 c2 c3 e => up c o cz (hkk c o cz cT c1 c2 c3 e)
  · replace hs0 : Heap.SameBut z hp g0 := hs0
    simp only [Bool.false_eq_true, if_false]
    refine wpAny_bind ?_
    rw [← Array.forIn_toList]
    simp only [List.forIn_cons, List.forIn_nil]
    refine wpAny_bind (wpAny_bind (wpAny_holding ?_))
    show wpAny _ _ (Builtin.SmallTypes.nextOf (.ref i1) >>= _) _ _ ⟨g0, g, d, tk0, os⟩
    refine wpAny_bind (D1.item i _ _ _ hlt1 (D1.over st1 hs0 S.zf1) fun x1 p1 tk1 hx1 sn1 hp1 => wpAny_pure ?_)
    replace hp1 : Heap.SameBut i1 g0 p1 := hp1
    refine wpAny_pure ?_
    refine wpAny_bind (wpAny_bind (wpAny_holding ?_))
    show wpAny _ _ (Builtin.SmallTypes.nextOf (.ref i2) >>= _) _ _ ⟨p1, g, d, tk1, os⟩
    refine wpAny_bind (D2.item i _ _ _ hlt2 (D2.over (D2.over st2 hs0 S.zf2) hp1 S.sep1_2) fun x2 p2 tk2 hx2 sn2 hp2 => wpAny_pure ?_)
    replace hp2 : Heap.SameBut i2 p1 p2 := hp2
    refine wpAny_pure ?_
    refine wpAny_bind (wpAny_bind (wpAny_holding ?_))
    show wpAny _ _ (Builtin.SmallTypes.nextOf (.ref i3) >>= _) _ _ ⟨p2, g, d, tk2, os⟩
    refine wpAny_bind (D3.item i _ _ _ hlt3 (D3.over (D3.over (D3.over st3 hs0 S.zf3) hp1 S.sep1_3) hp2 S.sep2_3) fun x3 p3 tk3 hx3 sn3 hp3 => wpAny_pure ?_)
    replace hp3 : Heap.SameBut i3 p2 p3 := hp3
    refine wpAny_pure (wpAny_pure ?_)
    show wpAny _ _ (newTuple [x1, x2, x3] >>= _) _ _ ⟨p3, g, d, tk3, os⟩
    refine wpAny_bind (wpAny_newTuple ?_)
    have hsz : p3.objs.size = hp.objs.size := by rw [hp3.1, hp2.1, hp1.1, hs0.1]
    have hzz : IsZipX p3 z TI TO x true := hp3.extBut _ _ S.zi3 (hp2.extBut _ _ S.zi2 (hp1.extBut _ _ S.zi1 hz0))
    have hj1 : St1 (i + 1) p3 := D1.over (D1.over sn1 hp2 S.sep2_1) hp3 S.sep3_1
    have hj2 : St2 (i + 1) p3 := D2.over sn2 hp3 S.sep3_2
    have hTO2 : IsTupOf3 p3 TO a1 a2 a3 := hp3.extBut _ _ S.Ti3 (hp2.extBut _ _ S.Ti2 (hp1.extBut _ _ S.Ti1 (hs0.extBut _ _ S.TOz hTO)))
    refine wpAny_pure ⟨_, rfl, ?_⟩
    show Q (.ref p3.objs.size) _
    rw [hsz]
    refine hQ x1 x2 x3 (p3.push { cls := .type "tuple", data := .seq #[x1, x2, x3] }) tk3 _ _ hx1 hx2 hx3 (Heap.get?_push_of_some _ hzz) hx ⟨_, _, _, Heap.get?_push_of_some _ hTO2⟩ (D1.frame _ _ _ hj1 fun b hb o e => Heap.get?_push_of_some _ e) (D2.frame _ _ _ hj2 fun b hb o e => Heap.get?_push_of_some _ e) (D3.frame _ _ _ sn3 fun b hb o e => Heap.get?_push_of_some _ e) ?_ (by rw [Heap.size_push, hsz]) fun c o cz cT c1 c2 c3 e => Heap.get?_push_of_some _ (hp3.extBut _ _ c3 (hp2.extBut _ _ c2 (hp1.extBut _ _ c1 (hs0.extBut _ _ cz e))))
    rw [← hsz]
    exact Heap.get?_push_size _ rfl
theorem zipX3_end {Q : Fin → Shared → Prop} (S : ZipSep3 z TI TO i1 i2 i3 fp1 fp2 fp3) (D1 : Draws prog w A i1 fp1 n1 P1 St1)
    (hz : IsZipX s.heap z TI TO x b) (hx : x = .none ∨ ∃ T : Addr, x = rawInt T) (hTI : IsTupOf3 s.heap TI (.ref i1) (.ref i2) (.ref i3)) (st1 : St1 n1 s.heap)
    (hE : ∀ h' e, (∀ c o, c ≠ z → c ≠ i1 → s.heap.get? c = some o → h'.get? c = some o) → (∃ o, h'.get? e = some o ∧ o.cls = .type "StopIteration") → E (.ref e) { s with heap := h' }) :
    wpAny (model prog w) A (Builtin.«zip.__next__» ⟨[.ref z], []⟩) Q E s := by
  obtain ⟨hp, g, d, tk0, os⟩ := s
  show wpAny _ _ (field (.ref z) 2 >>= _) _ _ _
  refine wpAny_bind (wpAny_field hz rfl (x := .bool false) rfl ?_)
  show wpAny _ _ (field (.ref z) 3 >>= _) _ _ _
  refine wpAny_bind (wpAny_field hz rfl (x := .ref TI) rfl ?_)
  refine wpAny_bind (wpAny_seqItems hTI rfl ?_)
  show wpAny _ _ (Builtin.SmallTypes.ownedTupleIsFree (.ref z) >>= _) _ _ _
  refine wpAny_bind (zipX_free hz hx ?_ fun g0 hz0 hs0 => ?_)
  · simp only [if_true]
    refine wpAny_bind (wpAny_rule (wpAny_bind (wpAny_field hz rfl (x := .ref TO) rfl ?_)))
    refine wpAny_bind (wpAny_setField_rec hz (by simp) fun g0 hz0 hs0 => ?_)
    replace hz0 : IsZipX g0 z TI TO .ellipsis b := hz0
    replace hs0 : Heap.SameBut z hp g0 := hs0
    refine wpAny_bind ?_
    simp only [List.zipIdx_cons, List.zipIdx_nil, List.forIn_cons, List.forIn_nil]
    refine wpAny_bind (wpAny_bind (wpAny_onRaise ?_))
    show wpAny _ _ (Builtin.SmallTypes.nextOf (.ref i1) >>= _) _ _ ⟨g0, g, d, tk0, os⟩
    refine wpAny_bind (D1.done ⟨g0, g, d, tk0, os⟩ _ _ (D1.over st1 hs0 S.zf1) fun q e hq he => ?_)
    replace hq : Heap.ExtBut i1 g0 q := hq
    obtain ⟨oe, hoe, hce⟩ := he
    replace hoe : q.get? e = some oe := hoe
    have hzq : IsZipX q z TI TO .ellipsis b := hq _ _ S.zi1 hz0
    have hez : e ≠ z := fun y => by subst y; rw [hzq] at hoe; cases hoe; simp at hce
    refine wpAny_setField_rec (s := ⟨q, g, d, tk0, os⟩) hzq (by simp) fun q' _ hq' => ?_
    replace hq' : Heap.SameBut z q q' := hq'
    exact hE q' e (fun c o cz c1 y => hq'.extBut _ _ cz (hq _ _ c1 (hs0.extBut _ _ cz y))) ⟨oe, hq'.extBut _ _ hez hoe, hce⟩
  · replace hs0 : Heap.SameBut z hp g0 := hs0
    simp only [Bool.false_eq_true, if_false]
    refine wpAny_bind ?_
    rw [← Array.forIn_toList]
    simp only [List.forIn_cons, List.forIn_nil]
    refine wpAny_bind (wpAny_bind (wpAny_holding ?_))
    show wpAny _ _ (Builtin.SmallTypes.nextOf (.ref i1) >>= _) _ _ ⟨g0, g, d, tk0, os⟩
    refine wpAny_bind (D1.done ⟨g0, g, d, tk0, os⟩ _ _ (D1.over st1 hs0 S.zf1) fun q e hq he => ?_)
    replace hq : Heap.ExtBut i1 g0 q := hq
    exact hE q e (fun c o cz c1 y => hq _ _ c1 (hs0.extBut _ _ cz y)) he
end
section
variable {prog : Program} {w : World} {A : Around} {E : Value → Shared → Prop} {s : Shared}
theorem next_zip {z TI TO : Addr} {x : Value} {b : Bool} {Q : Option Value → Shared → Prop} (hz : IsZipX s.heap z TI TO x b)
    (h : ∀ E' : Value → Shared → Prop, wpAny (model prog w) A.in1 (Builtin.«zip.__next__» ⟨[.ref z], []⟩) (fun fin s' => ∃ v, fin = .done (.ret v) ∧ Q (some v) s') E' s) : wpAny (model prog w) A (pyNext (.ref z)) Q E s := by
  have hT : s.TypeIs (.ref z) "zip" := ⟨_, hz, rfl⟩
  unfold pyNext
  refine wpAny_bind (wpAny_attempt (wpAny_callSpecial?_slot (name := Str.ofString "__next__") hT F.slot_zip_next
    (wpAny_call_entry F.slot_zip_next hT F.entry_zip_next ?_ (F.args_zip_next_1 _))))
  refine wpAny_mono (h _) (fun fin s' ⟨v, e, q⟩ => ?_) fun _ _ y => y
  subst e
  exact ⟨v, rfl, wpAny_pure q⟩
theorem next_zip3_end {z TI TO i1 i2 i3 : Addr} {x : Value} {b : Bool} {fp1 fp2 fp3 : List Addr} {n1 : Nat} {P1 : Nat → Value → Prop} {St1 : Nat → Heap → Prop} {Q : Option Value → Shared → Prop}
    (S : ZipSep3 z TI TO i1 i2 i3 fp1 fp2 fp3) (D1 : ∀ A' : Around, A'.handled = none → Draws prog w A' i1 fp1 n1 P1 St1) (hh : A.handled = none) (hz : IsZipX s.heap z TI TO x b) (hx : x = .none ∨ ∃ T : Addr, x = rawInt T) (hTI : IsTupOf3 s.heap TI (.ref i1) (.ref i2) (.ref i3)) (st1 : St1 n1 s.heap)
    (hQ : ∀ h', (∀ c o, c ≠ z → c ≠ i1 → s.heap.get? c = some o → h'.get? c = some o) → Q none { s with heap := h' }) : wpAny (model prog w) A (pyNext (.ref z)) Q E s := by
  have hT : s.TypeIs (.ref z) "zip" := ⟨_, hz, rfl⟩
  unfold pyNext
  refine wpAny_bind (wpAny_attempt (wpAny_callSpecial?_slot (name := Str.ofString "__next__") hT F.slot_zip_next
    (wpAny_call_entry F.slot_zip_next hT F.entry_zip_next ?_ (F.args_zip_next_1 _))))
  refine zipX3_end S (D1 _ hh) hz hx hTI st1 fun h' x' he' hx' => ?_
  obtain ⟨o, ho, hc⟩ := hx'
  refine wpAny_bind (wpAny_isInstance (T := "StopIteration") (b := true) ⟨o, ho, hc⟩ isSubtype_stop ?_)
  exact wpAny_pure (hQ _ he')
end
end Lm


/-! for t in zip(a, b, c), a, b, c tuples: the rule and what it reads as -/
namespace Lm
open PySem PySem.Spec PyProof.Rows L2
def IteZ3 (K : PySem.W.Frag) (a b c : Addr) : It where
  go := fun i H => ∃ (xs ys us : List V) (x y u : V), SqT K H a xs ∧ SqT K H b ys ∧ SqT K H c us ∧ xs[i]? = some x ∧ ys[i]? = some y ∧ us[i]? = some u
  yld := fun i H v H' => ∃ (T : Addr) (o : Obj) (x y u : V), v = .ref T ∧ o.dict = none ∧ H T = none ∧ H' = upd H T (.frz o (.tup [x, y, u])) ∧ (∀ xs, SqT K H a xs → xs[i]? = some x) ∧ (∀ ys, SqT K H b ys → ys[i]? = some y) ∧ ∀ us, SqT K H c us → us[i]? = some u
  stop := fun i H => ∃ xs : List V, SqT K H a xs ∧ xs.length = i
theorem turnZ3 {P : Program} {w : World} {K : PySem.W.Frag} {nm : Str} {tpos : Pos} {a b c z TI TO i1 i2 i3 : Addr} (S : ZipSep3 z TI TO i1 i2 i3 [i1, a] [i2, b] [i3, c]) (ha : a ≠ i1) (hb : b ≠ i2) (hc3 : c ≠ i3) :
    Turn P w K (.Name nm tpos) (IteZ3 K a b c) [z, TI, TO, i1, i2, i3] z fun i h => (∃ x bb, IsZipX h z TI TO x bb ∧ (x = .none ∨ ∃ T : Addr, x = rawInt T)) ∧ IsTupOf3 h TI (.ref i1) (.ref i2) (.ref i3) ∧ (∃ a1 a2 a3, IsTupOf3 h TO a1 a2 a3) ∧ h.IsTupleIter i1 a i ∧ h.IsTupleIter i2 b i ∧ h.IsTupleIter i3 c i where
  mem := List.mem_cons_self
  obj := by
    rintro i h ⟨⟨x, bb, hz, _⟩, hTI, ⟨a1, a2, a3, hTO⟩, ⟨o1, g1, _, d1⟩, ⟨o2, g2, _, d2⟩, ⟨o3, g3, _, d3⟩⟩ c hc
    have e' : c = z ∨ c = TI ∨ c = TO ∨ c = i1 ∨ c = i2 ∨ c = i3 := by simpa using hc
    rcases e' with q | q | q | q | q | q
    · rw [q]; exact ⟨_, hz, fun v q => nomatch q⟩
    · rw [q]; exact ⟨_, hTI, fun v q => nomatch q⟩
    · rw [q]; exact ⟨_, hTO, fun v q => nomatch q⟩
    · rw [q]; exact ⟨o1, g1, fun v q => by rw [d1] at q; cases q⟩
    · rw [q]; exact ⟨o2, g2, fun v q => by rw [d2] at q; cases q⟩
    · rw [q]; exact ⟨o3, g3, fun v q => by rw [d3] at q; cases q⟩
  keep := by
    rintro i h h' ⟨⟨x, bb, hz, hx⟩, hTI, ⟨a1, a2, a3, hTO⟩, h1, h2, h3⟩ k
    exact ⟨⟨x, bb, k z (by simp) _ hz, hx⟩, k TI (by simp) _ hTI, ⟨a1, a2, a3, k TO (by simp) _ hTO⟩, h1.at fun o q => k i1 (by simp) o q, h2.at fun o q => k i2 (by simp) o q, h3.at fun o q => k i3 (by simp) o q⟩
  item := by
    intro X hP hw hK hc i pins s σ H E I hf ⟨⟨x0, bb, hz, hx0⟩, hTI, ⟨a1, a2, a3, hTO⟩, h1, h2, h3⟩ ⟨xs, ys, us, x, y, u0, hqx, hqy, hqu, hx, hy, hu0⟩
    subst hP hw hK
    obtain ⟨its, rv, p, _⟩ := I.tuple hqx
    obtain ⟨its2, rv2, p2, _⟩ := I.tuple hqy
    obtain ⟨its3, rv3, p3, _⟩ := I.tuple hqu
    obtain ⟨u, hu, ru⟩ := rv.get hx
    obtain ⟨u2, hu2, ru2⟩ := rv2.get hy
    obtain ⟨u3, hu3, ru3⟩ := rv3.get hu0
    have lt1 : i < its.toArray.size := by rw [List.size_toArray]; exact (List.getElem?_eq_some_iff.mp hu).1
    have lt2 : i < its2.toArray.size := by rw [List.size_toArray]; exact (List.getElem?_eq_some_iff.mp hu2).1
    have lt3 : i < its3.toArray.size := by rw [List.size_toArray]; exact (List.getElem?_eq_some_iff.mp hu3).1
    have hh : X.A.in1.handled = none := I.ok.hd hc
    refine next_zip hz fun E' => zipX3_item S (Draws.tuple hh i1 a ha its.toArray) (Draws.tuple hh i2 b hb its2.toArray) (Draws.tuple hh i3 c hc3 its3.toArray) hz hx0 hTI hTO ⟨h1, p⟩ ⟨h2, p2⟩ ⟨h3, p3⟩ lt1 lt2 lt3 fun v1 v2 v3 g1 tk x' b' hv1 hv2 hv3 hz' hx' hTO' s1' s2' s3' hT hsz hk => ⟨_, rfl, ?_⟩
    have q1 : v1 = u := by
      have : its[i]? = some v1 := by simpa using hv1
      rw [hu] at this
      exact (Option.some.inj this).symm
    have q2 : v2 = u2 := by
      have : its2[i]? = some v2 := by simpa using hv2
      rw [hu2] at this
      exact (Option.some.inj this).symm
    have q3 : v3 = u3 := by
      have : its3[i]? = some v3 := by simpa using hv3
      rw [hu3] at this
      exact (Option.some.inj this).symm
    subst q1 q2 q3
    have hlt : ∀ c ∈ [z, TI, TO, i1, i2, i3], c < s.heap.objs.size := fun c hc => by
      have e' : c = z ∨ c = TI ∨ c = TO ∨ c = i1 ∨ c = i2 ∨ c = i3 := by simpa using hc
      rcases e' with q | q | q | q | q | q
      · rw [q]; exact Heap.lt_size hz
      · rw [q]; exact Heap.lt_size hTI
      · rw [q]; exact Heap.lt_size hTO
      · rw [q]; obtain ⟨_, w1, _⟩ := h1; exact Heap.lt_size w1
      · rw [q]; obtain ⟨_, w1, _⟩ := h2; exact Heap.lt_size w1
      · rw [q]; obtain ⟨_, w1, _⟩ := h3; exact Heap.lt_size w1
    have I1 : Inv X pins σ (upd H s.heap.objs.size (.frz { cls := .type "tuple", data := .seq #[v1, v2, v3] } (.tup [x, y, u0]))) { s with heap := g1, toks := tk } :=
      I.turnedNew (t' := tk) (ch := [z, TI, TO, i1, i2, i3]) (fun c o hb q => hk c o (fun q' => hb (by simp [q'])) (fun q' => hb (by simp [q'])) (fun q' => hb (by simp [q'])) (fun q' => hb (by simp [q'])) (fun q' => hb (by simp [q'])) q) hf (Nat.le_refl _)
        ⟨hT, by show 3 ≤ sizeLine; decide, [v1, v2, v3], .cons ru (.cons ru2 (.cons ru3 .nil)), ⟨_, hT, rfl, _, rfl⟩⟩
    refine wpAny_pure ⟨.ref s.heap.objs.size, _, I1, rfl, ⟨_, _, x, y, u0, rfl, rfl, I.hok.fresh (Nat.le_refl _), rfl, fun l hl => by rw [I.tuple_inj hl hqx]; exact hx, fun l hl => by rw [I.tuple_inj hl hqy]; exact hy, fun l hl => by rw [I.tuple_inj hl hqu]; exact hu0⟩, ⟨⟨x', b', hz', hx'⟩, hk _ _ S.TIz S.TITO S.TIi1 S.TIi2 S.TIi3 hTI, hTO', s1'.1, s2'.1, s3'.1⟩, fun c hc => ?_⟩
    rw [upd_ne (Nat.ne_of_lt (hlt c hc))]
    exact (hf c hc).1
  done := by
    intro X hP hw hK hc i pins s σ H E I hf ⟨⟨x0, bb, hz, hx0⟩, hTI, ⟨a1, a2, a3, hTO⟩, h1, h2, h3⟩ ⟨xs, hqx, hx⟩
    subst hP hw hK
    obtain ⟨its, rv, p, _⟩ := I.tuple hqx
    have hl : its.toArray.size = i := by rw [List.size_toArray, ← rv.length]; exact hx
    refine next_zip3_end (n1 := its.toArray.size) S (fun A' hh' => Draws.tuple hh' i1 a ha its.toArray) (I.ok.hd hc) hz hx0 hTI ⟨by rw [hl]; exact h1, p⟩ fun h' hk => ⟨rfl, I.turnedL (t' := s.toks) (ch := [z, TI, TO, i1, i2, i3]) (fun c o hb q => hk c o (fun q' => hb (by simp [q'])) (fun q' => hb (by simp [q'])) q) hf⟩
  self := fun A i s Q E ⟨⟨x, bb, hz, _⟩, _⟩ h => by
    have hT : s.TypeIs (.ref z) "zip" := ⟨_, hz, rfl⟩
    refine wpAny_pyIter_slot hT F.slot_zip_iter (wpAny_call_entry F.slot_zip_iter hT F.entry_zip_iter ?_ (F.args_zip_iter_1 _))
    show wpAny _ _ (ret (.ref z)) _ _ s
    exact wpAny_pure ⟨_, rfl, "zip", _, hT, F.slot_zip_next.lookup, h⟩
def iZip3 (K : PySem.W.Frag) (ta : TA) : TI := fun σ H R => ta σ H fun vs H1 => ∃ a b c xs ys us, vs = [.ref a, .ref b, .ref c] ∧ SqT K H1 a xs ∧ SqT K H1 b ys ∧ SqT K H1 c us ∧ R (IteZ3 K a b c) H1
theorem pi_zip3 {X : Cx} {e e2 e3 : Expr} {ta : TA} {p pos tpos : Pos} {nm : Str} (hg : Gl X "zip") (hm : X.mg "zip" = none) (ha : PA X [e, e2, e3] ta)
    (hs : starEach [e, e2, e3] X.env = (false, eval e X.env) :: starEach [e2, e3] X.env := by rfl) (hpl : (backTo pos (starEach [e2, e3] X.env)).any (·.1) = false := by rfl) :
    PI X (.Name nm tpos) (.Call (.Name "zip" p) [e, e2, e3] [] pos) (iZip3 X.K ta) := by
  refine ⟨fun pins s σ H R I h => ?_⟩
  refine Call_ (ld_blt I hg hm PyProof.Rows.boot_zip (PyProof.Rows.callWith_type1 (thn (ha.run pos pins s σ H _ I h) fun us s1 ⟨vs, H1, I1, r1, q1⟩ => ?_) hs hpl))
  obtain ⟨a, b, c, xs, ys, us, ex, hqx, hqy, hqu, q⟩ := q1
  subst ex
  cases r1 with
  | cons r rr =>
    cases rr with
    | cons r' rr =>
      cases rr with
      | cons r'' rr =>
        cases rr
        cases r
        cases r'
        cases r''
        obtain ⟨its, rv, p1, _⟩ := I1.tuple hqx
        obtain ⟨its2, rv2, p2, _⟩ := I1.tuple hqy
        obtain ⟨its3, rv3, p3, _⟩ := I1.tuple hqu
        have la : a < s1.heap.objs.size := let ⟨_, w, _⟩ := p1; Heap.lt_size w
        have lb : b < s1.heap.objs.size := let ⟨_, w, _⟩ := p2; Heap.lt_size w
        have lc : c < s1.heap.objs.size := let ⟨_, w, _⟩ := p3; Heap.lt_size w
        refine zip_begins3 (begins_tuple a its.toArray) (begins_tuple b its2.toArray) (begins_tuple c its3.toArray) p1 p2 p3 fun h' hz hTI hTO g1 g2 g3 hsz hk => wpAny_pyIter_zip hz ?_
        have I2 : Inv _ pins σ H1 { s1 with heap := h' } := I1.kept (t' := s1.toks) hk
        have fresh : ∀ d ∈ [s1.heap.objs.size + 5, s1.heap.objs.size + 3, s1.heap.objs.size + 4, s1.heap.objs.size, s1.heap.objs.size + 1, s1.heap.objs.size + 2], FpOk _ pins H1 d := fun d hd => by
          have e' : d = s1.heap.objs.size + 5 ∨ d = s1.heap.objs.size + 3 ∨ d = s1.heap.objs.size + 4 ∨ d = s1.heap.objs.size ∨ d = s1.heap.objs.size + 1 ∨ d = s1.heap.objs.size + 2 := by simpa using hd
          have hle : s1.heap.objs.size ≤ d := by
            rcases e' with z | z | z | z | z | z
            · rw [z]; exact Nat.le_add_right _ _
            · rw [z]; exact Nat.le_add_right _ _
            · rw [z]; exact Nat.le_add_right _ _
            · rw [z]; exact Nat.le_refl _
            · rw [z]; exact Nat.le_add_right _ _
            · rw [z]; exact Nat.le_add_right _ _
          exact I1.fpOk hle (I1.hok.fresh hle)
        exact ⟨s1.heap.objs.size + 5, [s1.heap.objs.size + 5, s1.heap.objs.size + 3, s1.heap.objs.size + 4, s1.heap.objs.size, s1.heap.objs.size + 1, s1.heap.objs.size + 2], _, _, H1, rfl, I2,
          turnZ3 (zip_sep3 (N := s1.heap.objs.size) (fp1 := [a]) (fp2 := [b]) (fp3 := [c]) (fun d hd => by cases List.mem_singleton.mp hd; exact la) (fun d hd => by cases List.mem_singleton.mp hd; exact lb) (fun d hd => by cases List.mem_singleton.mp hd; exact lc)) (Nat.ne_of_lt la) (Nat.ne_of_lt (Nat.lt_succ_of_lt lb)) (Nat.ne_of_lt (Nat.lt_succ_of_lt (Nat.lt_succ_of_lt lc))),
          ⟨⟨_, _, hz, .inl rfl⟩, hTI, ⟨_, _, _, hTO⟩, ⟨_, g1, rfl, rfl⟩, ⟨_, g2, rfl, rfl⟩, ⟨_, g3, rfl, rfl⟩⟩, fresh, q⟩
theorem walk_zip3 {K : PySem.W.Frag} {a b c : Addr} {xs ys us : List V} (hl : xs.length = ys.length) (hl2 : xs.length = us.length) : Walk (IteZ3 K a b c) xs.length (fun H => SqT K H a xs ∧ SqT K H b ys ∧ SqT K H c us)
    fun i H v H' => ∃ (T : Addr) (o : Obj) (x y u : V), v = .ref T ∧ o.dict = none ∧ H T = none ∧ H' = upd H T (.frz o (.tup [x, y, u])) ∧ xs[i]? = some x ∧ ys[i]? = some y ∧ us[i]? = some u where
  goes := fun i _ hi w => ⟨xs, ys, us, xs[i], ys[i]'(by omega), us[i]'(by omega), w.1, w.2.1, w.2.2, List.getElem?_eq_getElem hi, List.getElem?_eq_getElem (by omega), List.getElem?_eq_getElem (by omega)⟩
  stops := fun _ w => ⟨xs, w.1, rfl⟩
  yields := fun i H v H' _ w ⟨T, o, x, y, u, h1, h2, h3, h4, h5, h6, h7⟩ => ⟨T, o, x, y, u, h1, h2, h3, h4, h5 xs w.1, h6 ys w.2.1, h7 us w.2.2⟩
section
variable {c : Ct} {Γ : List (Option Rs)} {tr : TA}
/-- the three items at a place -/
def row3 (as bs cs : List Int) (i : Nat) : List Int := [as.getD i 0, bs.getD i 0, cs.getD i 0]
theorem i_zip3 {as bs cs : List Int} (hl : as.length = bs.length) (hl2 : as.length = cs.length) (h : EvA c tr Γ true [.tuple (as.map .int), .tuple (bs.map .int), .tuple (cs.map .int)]) : EvI c (iZip3 c.K tr) Γ true ((List.range as.length).map fun i => .d (.tuple ((row3 as bs cs i).map .int))) := fun H0 O H σ e R q =>
  h H0 O H σ e _ fun vs H1 r s => by
    have s' := BoAll.vm s
    cases s' with
    | cons b1 s' =>
      obtain ⟨y, z, rfl, b2, b3⟩ := s'.two
      obtain ⟨p, xs, rfl, sl, al⟩ := b1.tup'
      obtain ⟨p2, ys, rfl, sl2, al2⟩ := b2.tup'
      obtain ⟨p3, us, rfl, sl3, al3⟩ := b3.tup'
      have := al.ints
      subst this
      have := al2.ints
      subst this
      have := al3.ints
      subst this
      refine ⟨p, p2, p3, _, _, _, rfl, (sqT_same mns_same sl).sq, (sqT_same mns_same sl2).sq, (sqT_same mns_same sl3).sq, q _ H1 r ⟨(e.on r).j, ?_⟩⟩
      have el : ((List.range as.length).map fun i => Im.d (.tuple ((row3 as bs cs i).map .int))).length = (as.map V.int).length := by simp
      rw [el]
      refine (walk_zip3 (by simpa using hl) (by simpa using hl2)).mono (fun H h => ⟨(h.tup (e.on r).j sl).sq, (h.tup (e.on r).j sl2).sq, (h.tup (e.on r).j sl3).sq⟩) fun i H v H' hi g w => ?_
      obtain ⟨T, o, x, y, u, rfl, ho, hT, rfl, hx, hy, hu⟩ := w
      have hi' : i < as.length := by simpa using hi
      have hi2 : i < bs.length := by omega
      have hi3 : i < cs.length := by omega
      have ex : x = .int (as.getD i 0) := by rw [gd_lt hi']; simpa [hi'] using hx.symm
      have ey : y = .int (bs.getD i 0) := by rw [gd_lt hi2]; simpa [hi2] using hy.symm
      have eu : u = .int (cs.getD i 0) := by rw [gd_lt hi3]; simpa [hi3] using hu.symm
      subst ex ey eu
      have sm : Same H (upd H T (.frz o (.tup [.int (as.getD i 0), .int (bs.getD i 0), .int (cs.getD i 0)]))) := fun b o z => by rw [upd_ne (ne_of_none z hT)]; exact z
      refine ⟨sm, .d (.tuple ((row3 as bs cs i).map .int)), ?_, .leaf (.inl ⟨flatT _, .tup (.inl ⟨o, ho, upd_same⟩) (.cons (.int _) (.cons (.int _) (.cons (.int _) .nil)))⟩)⟩
      simp [hi']
end
section
variable {X : Cx} {K : PySem.W.Frag} (hK : X.K = K)
include hK
theorem k_zip3 {e e2 e3 : Expr} {ta : TA} {p pos tpos : Pos} {nm : Str} (hg : Gl X "zip") (hm : X.mg "zip" = none) (ha : PA X [e, e2, e3] ta)
    (hs : starEach [e, e2, e3] X.env = (false, eval e X.env) :: starEach [e2, e3] X.env := by rfl) (hpl : (backTo pos (starEach [e2, e3] X.env)).any (·.1) = false := by rfl) :
    PI X (.Name nm tpos) (.Call (.Name "zip" p) [e, e2, e3] [] pos) (iZip3 K ta) := hK ▸ pi_zip3 hg hm ha hs hpl
end
end Lm


/-! medians -/
namespace Lm
open PySem PySem.Spec PyProof.Rows L2
def mid3 (a b c : Int) : Int := if a ≤ b then (if b ≤ c then b else if a ≤ c then c else a) else (if a ≤ c then a else if b ≤ c then c else b)
theorem mid_sorted {a b c : Int} {ns : List Int} (h : ns.Perm [a, b, c]) (s : ns.Pairwise (· ≤ ·)) : ∃ x z, ns = [x, mid3 a b c, z] := by
  have hl := h.length_eq
  obtain ⟨x, y, z, rfl⟩ : ∃ x y z, ns = [x, y, z] := match ns, hl with | [x, y, z], _ => ⟨x, y, z, rfl⟩
  have e := perm_sum h
  have hx : x = a ∨ x = b ∨ x = c := by simpa using h.mem_iff.mp (show x ∈ [x, y, z] by simp)
  have hy : y = a ∨ y = b ∨ y = c := by simpa using h.mem_iff.mp (show y ∈ [x, y, z] by simp)
  have hz : z = a ∨ z = b ∨ z = c := by simpa using h.mem_iff.mp (show z ∈ [x, y, z] by simp)
  simp at s
  simp at e
  refine ⟨x, z, ?_⟩
  have : y = mid3 a b c := by
    unfold mid3
    rcases hx with rfl | rfl | rfl <;> rcases hy with rfl | rfl | rfl <;> rcases hz with rfl | rfl | rfl <;> (repeat' split) <;> omega
  rw [this]
def medI (as bs cs : List Int) : List Int := (List.range as.length).map fun i => mid3 (as.getD i 0) (bs.getD i 0) (cs.getD i 0)
def sp_medians (K : PySem.W.Frag) : Sp := spD K fun ds k d => ∃ (as bs cs : List Int) (v b : Int), ds = [.tuple (as.map .int), .tuple (bs.map .int), .tuple (cs.map .int)] ∧ Alc as v b ∧ Alc bs v b ∧ Alc cs v b ∧ 1 ≤ v ∧ v ≤ 5 ∧ b ≤ 20 ∧ k = .v ∧ d = .tuple ((medI as bs cs).map .int)
variable {as bs cs : List Int}
end Lm


/-! the least churn is what goes over -/
namespace Lm
open PySem PySem.Spec PyProof.Rows L2
variable {f g h ns ms : List Int} {v : Int}
theorem churn_tri : ∀ {as bs cs : List Int}, as.length = bs.length → bs.length = cs.length → zs ne1 as cs ≤ zs ne1 as bs + zs ne1 bs cs
  | [], [], [], _, _ => by decide
  | a :: as, b :: bs, c :: cs, h, g => by
    have := churn_tri (as := as) (bs := bs) (cs := cs) (by simpa using h) (by simpa using g)
    rw [zs_cons, zs_cons, zs_cons]
    have : ne1 a c ≤ ne1 a b + ne1 b c := by unfold ne1; (repeat' split) <;> omega
    omega
  | [], _ :: _, _, h, _ => by simp at h
  | _ :: _, [], _, h, _ => by simp at h
  | [], [], _ :: _, _, h => by simp at h
  | _ :: _, _ :: _, [], _, h => by simp at h
theorem churn_self : ∀ {as : List Int}, zs ne1 as as = 0
  | [] => rfl
  | a :: as => by rw [zs_cons, churn_self (as := as)]; simp [ne1]
theorem churn_set : ∀ {as : List Int} {k : Nat} {x : Int}, zs ne1 as (as.set k x) ≤ 1
  | [], _, _ => by show (0 : Int) ≤ 1; decide
  | a :: as, 0, x => by
    show zs ne1 (a :: as) (x :: as) ≤ 1
    rw [zs_cons, churn_self]
    unfold ne1
    split <;> omega
  | a :: as, k + 1, x => by
    show zs ne1 (a :: as) (a :: as.set k x) ≤ 1
    rw [zs_cons]
    have := churn_set (as := as) (k := k) (x := x)
    simp [ne1]
    exact this
theorem count_set : ∀ {as : List Int} {k : Nat} {x i : Int}, k < as.length → ((as.set k x).count i : Int) = as.count i - (if as.getD k 0 = i then 1 else 0) + (if x = i then 1 else 0)
  | [], _, _, _, h => by simp at h
  | a :: as, 0, x, i, _ => by
    show (((x :: as).count i : Nat) : Int) = ((a :: as).count i : Nat) - (if a = i then 1 else 0) + (if x = i then 1 else 0)
    rw [List.count_cons, List.count_cons]
    by_cases h1 : a = i <;> by_cases h2 : x = i <;> simp [h1, h2]
  | a :: as, k + 1, x, i, h => by
    have := count_set (as := as) (k := k) (x := x) (i := i) (by simpa using h)
    show (((a :: as.set k x).count i : Nat) : Int) = ((a :: as).count i : Nat) - (if as.getD k 0 = i then 1 else 0) + (if x = i then 1 else 0)
    rw [List.count_cons, List.count_cons]
    omega
/-- an item above, if not all are the same and the sums are -/
theorem some_gt : ∀ {as bs : List Int}, as.length = bs.length → zs t0 as bs ≠ 0 → ∃ i, i < as.length ∧ bs.getD i 0 < as.getD i 0
  | [], [], _, h => absurd rfl h
  | a :: as, b :: bs, hl, h => by
    by_cases q : b < a
    · exact ⟨0, by simp, q⟩
    · rw [zs_cons] at h
      have e : t0 a b = 0 := by unfold t0; split <;> omega
      obtain ⟨i, hi, e2⟩ := some_gt (as := as) (bs := bs) (by simpa using hl) (by omega)
      exact ⟨i + 1, by simpa using hi, e2⟩
  | [], _ :: _, h, _ => by simp at h
  | _ :: _, [], h, _ => by simp at h
theorem sum_two (a b : Int → Int) (i j : Int) (hij : i ≠ j) : ∀ {l : List Int}, l.Nodup → (∀ x ∈ l, x ≠ i → x ≠ j → a x = b x) → i ∈ l → j ∈ l → (l.map a).sum = (l.map b).sum + (a i - b i) + (a j - b j) := by
  have none : ∀ {l : List Int}, (∀ x ∈ l, a x = b x) → (l.map a).sum = (l.map b).sum := fun {l} h => by rw [List.map_congr_left h]
  have one : ∀ {l : List Int} (i : Int), l.Nodup → (∀ x ∈ l, x ≠ i → a x = b x) → i ∈ l → (l.map a).sum = (l.map b).sum + (a i - b i) := by
    intro l i
    induction l with
    | nil => intro _ _ h; simp at h
    | cons x l ih =>
      intro nd h hi
      obtain ⟨hx, nd2⟩ := List.nodup_cons.mp nd
      simp only [List.map_cons, List.sum_cons]
      rcases List.mem_cons.mp hi with q | q
      · subst q
        have := none (l := l) fun y hy => h y (by simp [hy]) fun z => hx (z ▸ hy)
        omega
      · have hne : x ≠ i := fun z => hx (z ▸ q)
        have := ih nd2 (fun y hy => h y (by simp [hy])) q
        have := h x (by simp) hne
        omega
  intro l
  induction l with
  | nil => intro _ _ h; simp at h
  | cons x l ih =>
    intro nd h hi hj
    obtain ⟨hx, nd2⟩ := List.nodup_cons.mp nd
    simp only [List.map_cons, List.sum_cons]
    rcases List.mem_cons.mp hi with q | q
    · subst q
      have hjl : j ∈ l := by
        rcases List.mem_cons.mp hj with w | w
        · exact absurd w.symm hij
        · exact w
      have := one j nd2 (fun y hy hne => h y (by simp [hy]) (fun z => hx (by rw [← z]; exact hy)) hne) hjl
      omega
    · rcases List.mem_cons.mp hj with w | w
      · subst w
        have := one i nd2 (fun y hy hne => h y (by simp [hy]) hne (fun z => hx (by rw [← z]; exact hy))) q
        omega
      · have := ih nd2 (fun y hy => h y (by simp [hy])) q w
        have := h x (by simp) (fun z => hx (z ▸ q)) (fun z => hx (z ▸ w))
        omega
/-- an assignment with the wanted counts, as near as what goes over -/
theorem nearest (hv : 0 ≤ v) : ∀ (n : Nat) (f as : List Int), Asg f v → Alc as v f.length → trI (countsI f v) as = n → ∃ g, Asg g v ∧ g.length = f.length ∧ countsI g v = as ∧ zs ne1 f g ≤ n
  | 0, f, as, hf, ha, h => by
    have e := (hf.alc hv).tr_zero ha
    rw [h] at e
    exact ⟨f, hf, rfl, of_decide_eq_true (e.symm.trans (by simp)), by rw [churn_self]; omega⟩
  | n + 1, f, as, hf, ha, h => by
    have hc := hf.alc hv
    have cl : (countsI f v).length = v.toNat := countsI_len
    have la : as.length = v.toNat := by have := ha.len; omega
    have l1 : (countsI f v).length = as.length := by omega
    have h2 := hc.tr_comm ha
    rw [trI_zs l1] at h
    rw [trI_zs l1.symm, trI_zs l1, h] at h2
    obtain ⟨i, hi, gi⟩ := some_gt l1 (by omega)
    obtain ⟨j, hj, gj⟩ := some_gt l1.symm (by omega)
    rw [cl] at hi
    rw [la] at hj
    have ci := countsI_get (ns := f) (v := v) (i := i) (by omega)
    have cj := countsI_get (ns := f) (v := v) (i := j) (by omega)
    have ne : (i : Int) ≠ j := fun z => by
      have : i = j := by omega
      subst this
      omega
    rw [ci] at gi
    rw [cj] at gj
    have a0 : 0 ≤ as.getD i 0 := ha.nn _ (gd_mem (by omega))
    have hm : (i : Int) ∈ f := List.count_pos_iff.mp (by omega)
    obtain ⟨k, hk, ek⟩ := List.getElem_of_mem hm
    have ek2 : f.getD k 0 = i := by rw [gd_lt hk, ek]
    have hg : Asg (f.set k j) v := ⟨by rw [List.length_set]; exact hf.len, fun n hn => by
      rcases List.mem_or_eq_of_mem_set hn with q | q
      · exact hf.rng n q
      · rw [q]; omega⟩
    have ha' : Alc as v (f.set k (j : Int)).length := by rw [List.length_set]; exact ha
    have cnt : ∀ x : Int, ((f.set k (j : Int)).count x : Int) = f.count x - (if (i : Int) = x then 1 else 0) + (if (j : Int) = x then 1 else 0) := fun x => by
      rw [count_set hk, ek2]
    have T : trI (countsI (f.set k (j : Int)) v) as = n := by
      have up : ∀ w : List Int, trI (countsI w v) as = ((upI 0 v.toNat).map fun x => t0 (w.count x) (as.getD x.toNat 0)).sum := fun w => by
        rw [trI_up (by rw [countsI_len]; omega), countsI_len]
        congr 1
        apply List.map_congr_left
        intro x hx
        have r := mem_upI.mp hx
        have := countsI_get (ns := w) (v := v) (i := x.toNat) (by omega)
        have e : ((x.toNat : Nat) : Int) = x := by omega
        rw [this, e]
      have e1 := up (f.set k (j : Int))
      have e2 := up f
      rw [trI_zs l1, h] at e2
      have e3 := sum_two (fun x => t0 ((f.set k (j : Int)).count x) (as.getD x.toNat 0)) (fun x => t0 (f.count x) (as.getD x.toNat 0)) i j ne (nodup_upI v.toNat) (fun x _ hxi hxj => by
        have := cnt x
        rw [if_neg (fun z => hxi z.symm), if_neg (fun z => hxj z.symm)] at this
        show t0 _ _ = t0 _ _
        rw [this]
        congr 1) (mem_upI.mpr ⟨by omega, by omega⟩) (mem_upI.mpr ⟨by omega, by omega⟩)
      have ni := cnt i
      have nj := cnt j
      rw [if_pos rfl, if_neg (fun z => ne z.symm)] at ni
      rw [if_neg ne, if_pos rfl] at nj
      have xi : ((i : Int)).toNat = i := by omega
      have xj : ((j : Int)).toNat = j := by omega
      simp only [xi, xj] at e3
      have t1 : t0 ((f.set k (j : Int)).count (i : Int)) (as.getD i 0) - t0 (f.count (i : Int)) (as.getD i 0) = -1 := by unfold t0; (repeat' split) <;> omega
      have t2 : t0 ((f.set k (j : Int)).count (j : Int)) (as.getD j 0) - t0 (f.count (j : Int)) (as.getD j 0) = 0 := by unfold t0; (repeat' split) <;> omega
      omega
    obtain ⟨g, hg1, hg2, hg3, hg4⟩ := nearest hv n (f.set k j) as hg ha' T
    have ls : (f.set k (j : Int)).length = f.length := List.length_set ..
    refine ⟨g, hg1, hg2.trans ls, hg3, ?_⟩
    have := churn_tri (as := f) (bs := f.set k (j : Int)) (cs := g) ls.symm hg2.symm
    have := churn_set (as := f) (k := k) (x := (j : Int))
    omega
/-- all assignments of n buckets to v variants -/
def allL (v : Int) : Nat → List (List Int)
  | 0 => [[]]
  | n + 1 => (allL v n).flatMap fun r => (upI 0 v.toNat).map fun x => r ++ [x]
theorem mem_allL (hv : 0 ≤ v) : ∀ (n : Nat) (r : List Int), r ∈ allL v n ↔ r.length = n ∧ ∀ x ∈ r, 0 ≤ x ∧ x < v
  | 0, r => by
    constructor
    · intro h
      have : r = [] := by simpa [allL] using h
      subst this
      exact ⟨rfl, fun _ h => nomatch h⟩
    · rintro ⟨h, _⟩
      rw [List.eq_nil_of_length_eq_zero h]
      simp [allL]
  | n + 1, r => by
    unfold allL
    rw [List.mem_flatMap]
    constructor
    · rintro ⟨q, hq, h⟩
      obtain ⟨x, hx, rfl⟩ := List.mem_map.mp h
      obtain ⟨h1, h2⟩ := (mem_allL hv n q).mp hq
      refine ⟨by simp [h1], fun y hy => ?_⟩
      rcases List.mem_append.mp hy with w | w
      · exact h2 y w
      · rw [List.mem_singleton.mp w]
        have := mem_upI.mp hx
        omega
    · rintro ⟨h1, h2⟩
      have hne : r ≠ [] := fun z => by rw [z] at h1; simp at h1
      refine ⟨r.dropLast, (mem_allL hv n _).mpr ⟨by rw [List.length_dropLast]; omega, fun x hx => h2 x (List.dropLast_subset r hx)⟩, List.mem_map.mpr ⟨r.getLast hne, mem_upI.mpr ?_, List.dropLast_concat_getLast hne⟩⟩
      have := h2 _ (List.getLast_mem hne)
      omega
end Lm


/-! a list handed from one name to another, list.extend, tuples put together, all assignments -/
namespace Lm
open PySem PySem.Spec PyProof.Rows L2
section
variable {c : Ct} {H H' H0 H1 H2 H3 : Hp} {O : List Addr} {σ : L2.St} {Γ Γ' Γ1 : List (Option Rs)}
variable {te ta tb : TE} {k ka kb : Kd} {d : PyData} {i j : Int} {ds es : List PyData} {u : TS} {P : Out → Prop} {n m : Nat}
/-- t + u -/
theorem e_catT (ha : Ev c ta Γ .v (.tuple ds)) (hb : Ev c tb Γ .v (.tuple es)) (hl : ds.length + es.length ≤ 1000000) : Ev c (tOp (rAddA c.K) ta tb) Γ .v (.tuple (ds ++ es)) := fun H0 O H σ e Q q =>
  ha H0 O H σ e _ fun v H1 r1 s1 => hb H0 O H1 σ (e.on r1) _ fun u H2 r2 s2 => by
    have bv : Bo c (mns H2 O) v (.tuple ds) := Res.on e r1 r2 s1
    have bu : Bo c (mns H2 O) u (.tuple es) := s2
    obtain ⟨p, xs, rfl, s, al⟩ := Bo.tup' bv
    obtain ⟨p2, ys, rfl, s', al'⟩ := Bo.tup' bu
    refine .inr (.inl ⟨p, p2, xs, ys, rfl, rfl, (sqT_same mns_same s).sq, (sqT_same mns_same s').sq, by rw [al.len, al'.len]; exact sizeOk hl, fun hx => ?_, fun hx hy => ?_, fun _ _ => newTk (c := c) fun q' H3 hp sm tp => ?_⟩)
    · subst hx
      cases al
      exact q _ H2 (r1.tr r2) bu
    · subst hy
      cases al'
      exact q _ H2 (r1.tr r2) (by show Bo c (mns H2 O) _ _; rw [List.append_nil]; exact bv)
    · have r3 : Rr c H2 H3 := Rr.same sm
      have e2 := (e.on r1).on r2
      exact q _ H3 ((r1.tr r2).tr r3) (.tup (tpN_mns e2 r3 tp) ((al.app al').mono e2.j (r3.mns e2.j e2.okO)))
end
abbrev tupD (r : List Int) : PyData := .tuple (r.map .int)
end Lm


/-! own lists within an own list: rows[i][j] = .. -/
namespace Lm
open PySem PySem.Spec PyProof.Rows L2
variable {c : Ct} {H H' H0 H1 H2 H3 : Hp} {O : List Addr} {σ : L2.St} {Γ Γ' Γ1 : List (Option Rs)}
theorem FoAll.nth : ∀ {xs : List V} {ds : List PyData} {f : List Addr} {i : Nat} {d : PyData}, FoAll c H xs ds f → ds[i]? = some d →
    ∃ x g pre post, xs[i]? = some x ∧ Fo c H x d g ∧ f = pre ++ (g ++ post) ∧ ∀ (H' : Hp) (x' : V) (d' : PyData) (g' : List Addr), (∀ a xs, TpN c.K H a xs → TpN c.K H' a xs) → (∀ a ∈ pre ++ post, ∀ o, H a = some o → H' a = some o) → Fo c H' x' d' g' →
      FoAll c H' (xs.set i x') (ds.set i d') (pre ++ (g' ++ post))
  | _, _, _, _, _, .nil, h => by simp at h
  | _, _, _, 0, d, .cons (v := v) (f := f) (fs := fs) a b, h => by
    have e : _ = d := Option.some.inj h
    subst e
    exact ⟨v, f, [], fs, rfl, a, rfl, fun H' x' d' g' hT hk fo => FoAll.cons (f := g') (fs := fs) fo (b.up hT fun y hy => hk y (by simpa using hy))⟩
  | _, _, _, i + 1, d, .cons (v := v) (f := f) (fs := fs) a b, h => by
    obtain ⟨x, g, pre, post, h1, h2, h3, h4⟩ := FoAll.nth (i := i) b (by simpa using h)
    refine ⟨x, g, f ++ pre, post, by simpa using h1, h2, by rw [h3, List.append_assoc], fun H' x' d' g' hT hk fo => ?_⟩
    have r := h4 H' x' d' g' hT (fun y hy o z => hk y (by simp at hy ⊢; rcases hy with w | w <;> simp [w]) o z) fo
    rw [List.append_assoc]
    exact .cons (a.up hT fun y hy => hk y (by simp [hy])) r
end Lm


/-! choices and factorials -/
namespace Lm
open PySem PySem.Spec PyProof.Rows L2
def cho : Nat → Nat → Nat
  | _, 0 => 1
  | 0, _ + 1 => 0
  | n + 1, k + 1 => cho n k + cho n (k + 1)
end Lm


/-! products of choices -/
namespace Lm
open PySem PySem.Spec PyProof.Rows L2
def prodN : List Nat → Nat
  | [] => 1
  | a :: l => a * prodN l
/-- p things shared out, one choice after another -/
def mul2 (p : Nat) : List Nat → Nat
  | [] => 1
  | e :: es => cho p e * mul2 (p - e) es
end Lm


/-! states, their ways -/
namespace Lm
open PySem PySem.Spec PyProof.Rows L2
section
variable {X : Cx}
end
section
variable {c : Ct} {Γ : List (Option Rs)} {te ta tb : TE} {k ka kb : Kd} {u : TS} {P : Out → Prop} {n : Nat} {i j : Int}
end
def waysN (ns ls es : List Int) : Nat := prodN ((ns.zip ls).map fun p => cho p.1.toNat p.2.toNat) * mul2 es.sum.toNat (es.map Int.toNat)
/-- a state whose ways can be counted -/
structure StOk (ns ls es : List Int) : Prop where
  len : ns.length = ls.length
  l1 : ns.length ≤ 1000
  l2 : es.length ≤ 1000
  le : ∀ p ∈ ns.zip ls, 0 ≤ p.2 ∧ p.2 ≤ p.1 ∧ p.1 ≤ 20
  nn : ∀ e ∈ es, 0 ≤ e
  sum : es.sum ≤ 20
end Lm


/-! slices of tuples; min and max of lists; sorted of lists; int of a truth; sums over three lists: what is in the middle -/
namespace Lm
open PySem PySem.Spec PyProof.Rows L2
section
variable {X : Cx} {K : PySem.W.Frag} (hK : X.K = K)
include hK
theorem k_min (hc : X.calm = true) : CallR X (.builtin "min") (rMin K) := hK ▸ cr_min hc
theorem k_max (hc : X.calm = true) : CallR X (.builtin "max") (rMax K) := hK ▸ cr_max hc
end
variable {c : Ct} {H H' H0 H1 H2 H3 : Hp} {O : List Addr} {Γ Γ' Γ1 : List (Option Rs)}
variable {te ta tb tx : TE} {tl th : TO} {k ka kb : Kd} {d x y z : PyData} {i j : Int} {a b : Bool} {ds es : List PyData}
def Eo (c : Ct) (t : TO) (Γ : List (Option Rs)) (o : Option Int) : Prop :=
  ∀ H0 O H σ, Env c H0 O H σ Γ → ∀ Q : Option Int → Hp → Prop, (∀ H2, Rr c H H2 → Q o H2) → t σ H Q
theorem o_none : Eo c tNoPart Γ none := fun H0 O H σ e Q q => q H Rr.rf
theorem o_some (h : Ev c te Γ k (.int i)) : Eo c (tPart te) Γ (some i) := fun H0 O H σ e Q q => h H0 O H σ e _ fun v H2 r s => ⟨i, (Res.bo e s).int', q H2 r⟩
def cutD {α : Type} (ds : List α) (lo hi : Option Int) : List α := (ds.drop (HT.sIx ds.length 0 lo)).take (HT.sIx ds.length ds.length hi - HT.sIx ds.length 0 lo)
theorem BoAll.cut {vs : List V} {lo hi : Option Int} (h : BoAll c H vs ds) : BoAll c H (cutV vs lo hi) (cutD ds lo hi) := by
  unfold cutV cutD
  rw [h.len]
  exact (h.drop _).take _
theorem e_sl {lo hi : Option Int} (h : Ev c te Γ .v (.tuple ds)) (h1 : Eo c tl Γ lo) (h2 : Eo c th Γ hi) : Ev c (tSl (rSlN c.K) te tl th) Γ .v (.tuple (cutD ds lo hi)) := fun H0 O H σ e Q q =>
  h H0 O H σ e _ fun v H1 r1 s1 => h1 H0 O H1 σ (e.on r1) _ fun H2 r2 => h2 H0 O H2 σ ((e.on r1).on r2) _ fun H3 r3 => by
    have r : Rr c H H3 := (r1.tr r2).tr r3
    obtain ⟨p, xs, rfl, s, al⟩ := Bo.tup' (Res.on e r1 (r2.tr r3) s1)
    refine ⟨p, xs, rfl, (sqT_same mns_same s).sq, fun w => ?_, fun _ => newTk (c := c) fun p' H4 hp sm tp => ?_⟩
    · refine q (.ref p) H3 r ?_
      have e1 : cutD ds lo hi = ds := by
        unfold cutD
        rw [← al.len, w.1, w.2, al.len]
        simp
      rw [e1]
      exact .tup s al
    · have r4 : Rr c H H4 := r.tr (Rr.same sm)
      exact q _ H4 r4 (.tup (tpN_mns e r4 tp) (al.cut.mono (e.on r).j ((Rr.same sm : Rr c H3 H4).mns (e.on r).j e.okO)))
theorem cutD_lo {α : Type} {ds : List α} {t : Nat} (h : t ≤ ds.length) : cutD ds (some (t : Int)) none = ds.drop t := by
  unfold cutD
  rw [HT.sIx_nat, HT.sIx_none, Nat.min_eq_left h]
  apply List.take_of_length_le
  simp
theorem cutD_hi {α : Type} {ds : List α} {t : Nat} (h : t ≤ ds.length) : cutD ds none (some (t : Int)) = ds.take t := by
  unfold cutD
  rw [HT.sIx_nat, HT.sIx_none, Nat.min_eq_left h]
  simp
/-! min and max of a list -/
def mnL : List Int → Int
  | [] => 0
  | [n] => n
  | n :: m :: ns => if mnL (m :: ns) < n then mnL (m :: ns) else n
theorem mnL_mem : ∀ {ns : List Int}, 0 < ns.length → mnL ns ∈ ns
  | [n], _ => by simp [mnL]
  | n :: m :: ns, _ => by
    have := mnL_mem (ns := m :: ns) (by simp)
    unfold mnL
    split
    · exact List.mem_cons_of_mem _ this
    · simp
theorem mnL_le : ∀ {ns : List Int}, ∀ y ∈ ns, mnL ns ≤ y
  | [], _, h => nomatch h
  | [n], y, h => by rw [List.mem_singleton.mp h]; exact Int.le_refl _
  | n :: m :: ns, y, h => by
    unfold mnL
    rcases List.mem_cons.mp h with q | q
    · subst q; split <;> omega
    · have := mnL_le (ns := m :: ns) y q
      split <;> omega
def mxL : List Int → Int
  | [] => 0
  | [n] => n
  | n :: m :: ns => if mxL (m :: ns) > n then mxL (m :: ns) else n
theorem mxL_mem : ∀ {ns : List Int}, 0 < ns.length → mxL ns ∈ ns
  | [n], _ => by simp [mxL]
  | n :: m :: ns, _ => by
    have := mxL_mem (ns := m :: ns) (by simp)
    unfold mxL
    split
    · exact List.mem_cons_of_mem _ this
    · simp
theorem mxL_le : ∀ {ns : List Int}, ∀ y ∈ ns, y ≤ mxL ns
  | [], _, h => nomatch h
  | [n], y, h => by rw [List.mem_singleton.mp h]; exact Int.le_refl _
  | n :: m :: ns, y, h => by
    unfold mxL
    rcases List.mem_cons.mp h with q | q
    · subst q; split <;> omega
    · have := mxL_le (ns := m :: ns) y q
      split <;> omega
theorem e_minL {ns : List Int} (h : Ev c te Γ k (.list (ns.map .int))) (hl : 0 < ns.length) : Ev c (tCB (rMin c.K) (tCons te tNil)) Γ .v (.int (mnL ns)) := fun H0 O H σ e Q q =>
  h H0 O H σ e _ fun v H1 r s => by
    obtain ⟨p, xs, rfl, _, sl, al⟩ := (Res.bo e s).lst'
    have := al.ints
    subst this
    refine ⟨p, ns, rfl, sl, hl, fun m h1 h2 => ?_⟩
    have e1 : m = mnL ns := by
      have := h2 _ (mnL_mem hl)
      have := mnL_le m h1
      omega
    rw [e1]
    exact q _ H1 r (.int _)
theorem e_maxL {ns : List Int} (h : Ev c te Γ k (.list (ns.map .int))) (hl : 0 < ns.length) : Ev c (tCB (rMax c.K) (tCons te tNil)) Γ .v (.int (mxL ns)) := fun H0 O H σ e Q q =>
  h H0 O H σ e _ fun v H1 r s => by
    obtain ⟨p, xs, rfl, _, sl, al⟩ := (Res.bo e s).lst'
    have := al.ints
    subst this
    refine ⟨p, ns, rfl, sl, hl, fun m h1 h2 => ?_⟩
    have e1 : m = mxL ns := by
      have := h2 _ (mxL_mem hl)
      have := mxL_le m h1
      omega
    rw [e1]
    exact q _ H1 r (.int _)
/-! sums over three lists -/
variable {F : Int → Int → Int → Int} {as bs cs as' bs' cs' : List Int}
variable {f g h : List Int} {v m : Int}
end Lm


/-! states, what can come next, and the ways on: the least changes -/
namespace Lm
open PySem PySem.Spec PyProof.Rows L2
abbrev gI (l : List Int) (i : Int) : Int := l.getD i.toNat 0
def lssI (p : Int) (l : List Int) : List Int := l.set p.toNat (gI l p - 1)
structure S3 where
  c : List Int
  l : List Int
  e : List Int
def optI (S : S3) (o : Int) : List Int :=
  if gI S.l o = 0 then [o] else (upI 0 S.e.length).filter fun i => decide (0 < gI S.e i) || (decide (i = o) && decide (gI S.l o < gI S.c o))
def aftI (S : S3) (o n : Int) : S3 := if n = o then ⟨lssI o S.c, S.l, S.e⟩ else ⟨lssI o S.c, lssI o S.l, lssI n S.e⟩
/-- a state that stands before the buckets f -/
structure St (v : Int) (S : S3) (f : List Int) : Prop where
  cl : (S.c.length : Int) = v
  ll : (S.l.length : Int) = v
  el : (S.e.length : Int) = v
  cs : ∀ i, 0 ≤ i ∧ i < v → gI S.c i = f.count i
  ls : ∀ i, 0 ≤ i ∧ i < v → 0 ≤ gI S.l i ∧ gI S.l i ≤ f.count i
  es : ∀ i, 0 ≤ i ∧ i < v → 0 ≤ gI S.e i ∧ (gI S.l i = 0 ∨ gI S.e i = 0)
  sum : S.l.sum = S.e.sum
  rng : ∀ n ∈ f, 0 ≤ n ∧ n < v
variable {v o n : Int} {S : S3} {f g : List Int}
theorem St.enn (h : St v S f) : ∀ n ∈ S.e, 0 ≤ n := fun n hn => by
  obtain ⟨k, hk, rfl⟩ := List.getElem_of_mem hn
  have := (h.es (k : Int) (by have := h.el; omega)).1
  unfold gI at this
  rw [Int.toNat_natCast, gd_lt hk] at this
  exact this
/-- a list comes before another, or is it -/
def lexLe : List Int → List Int → Prop
  | [], _ => True
  | _ :: _, [] => False
  | a :: as, b :: bs => a < b ∨ (a = b ∧ lexLe as bs)
theorem upI_pw (n : Nat) : (upI 0 n).Pairwise (· < ·) := by
  unfold upI
  rw [List.pairwise_map]
  refine List.pairwise_lt_range.imp fun {a b} h => ?_
  omega
/-! the state at the start -/
variable {as : List Int}
end Lm


/-! the choices of a bucket; the order of all assignments -/
namespace Lm
open PySem PySem.Spec PyProof.Rows L2
variable {v o n : Int} {S : S3} {f g f1 f2 g1 g2 as : List Int}
theorem St.front (h : St v S (f1 ++ o :: f2)) : St v S (o :: (f1 ++ f2)) := by
  have e : ∀ i : Int, (o :: (f1 ++ f2)).count i = (f1 ++ o :: f2).count i := fun i => by
    rw [List.count_cons, List.count_append, List.count_append, List.count_cons]; omega
  refine ⟨h.cl, h.ll, h.el, fun i hi => by rw [e]; exact h.cs i hi, fun i hi => by rw [e]; exact h.ls i hi, h.es, h.sum, fun n hn => h.rng n ?_⟩
  simp only [List.mem_cons, List.mem_append] at hn ⊢
  rcases hn with a | a | a
  · exact .inr (.inl a)
  · exact .inl a
  · exact .inr (.inr a)
theorem split_b {l : List Int} {b : Nat} (hb : b < l.length) : l = l.take b ++ l.getD b 0 :: l.drop (b + 1) := by
  have e : l.drop b = l.getD b 0 :: l.drop (b + 1) := by rw [List.drop_eq_getElem_cons hb, gd_lt hb]
  rw [← e, List.take_append_drop]
/-! the order of all assignments -/
def lexLt : List Int → List Int → Prop
  | a :: as, b :: bs => a < b ∨ (a = b ∧ lexLt as bs)
  | _, _ => False
theorem lexLt.le : ∀ {as bs : List Int}, lexLt as bs → lexLe as bs
  | [], _, _ => trivial
  | _ :: _, [], h => h.elim
  | a :: as, b :: bs, h => by
    unfold lexLt at h
    unfold lexLe
    rcases h with h | ⟨e, h⟩
    · exact .inl h
    · exact .inr ⟨e, h.le⟩
theorem lexLt_irr : ∀ {as : List Int}, ¬ lexLt as as
  | [], h => h.elim
  | a :: as, h => by
    unfold lexLt at h
    rcases h with h | ⟨_, h⟩
    · omega
    · exact lexLt_irr h
theorem lexLt_app {xs ys : List Int} : ∀ {as bs : List Int}, lexLt as bs → lexLt (as ++ xs) (bs ++ ys)
  | [], _, h => h.elim
  | _ :: _, [], h => h.elim
  | a :: as, b :: bs, h => by
    unfold lexLt at h
    show lexLt (a :: (as ++ xs)) (b :: (bs ++ ys))
    unfold lexLt
    rcases h with h | ⟨e, h⟩
    · exact .inl h
    · exact .inr ⟨e, lexLt_app h⟩
theorem lexLt_last {x y : Int} (h : x < y) : ∀ {as : List Int}, lexLt (as ++ [x]) (as ++ [y])
  | [] => .inl h
  | a :: as => .inr ⟨rfl, lexLt_last h⟩
theorem allL_pw (v : Int) : ∀ n, (allL v n).Pairwise lexLt
  | 0 => List.pairwise_singleton ..
  | n + 1 => by
    unfold allL
    rw [List.pairwise_flatMap]
    refine ⟨fun r _ => ?_, (allL_pw v n).imp fun {a b} h x hx y hy => ?_⟩
    · rw [List.pairwise_map]
      exact (upI_pw _).imp fun h => lexLt_last h
    · obtain ⟨i, _, rfl⟩ := List.mem_map.mp hx
      obtain ⟨j, _, rfl⟩ := List.mem_map.mp hy
      exact lexLt_app h
end Lm


/-! lists put together; promises about states, choices, and the least changes gone through -/
namespace Lm
open PySem PySem.Spec PyProof.Rows L2
section
variable {c : Ct} {H H' H0 H1 H2 H3 : Hp} {O : List Addr} {Γ Γ' Γ1 : List (Option Rs)}
variable {te ta tb tx : TE} {k ka kb : Kd} {d x y z : PyData} {i j : Int} {ds es : List PyData}
end
variable {v o n : Int} {S : S3} {f g as : List Int}
theorem St.at (h : St v S f) {b : Nat} (hb : b < f.length) : St v S (f.getD b 0 :: (f.take b ++ f.drop (b + 1))) := by
  have h' : St v S (f.take b ++ f.getD b 0 :: f.drop (b + 1)) := split_b hb ▸ h
  exact h'.front
end Lm


/-! list.index, list.count, in: over data; the first change and its promises -/
namespace L2
open PySem PySem.Spec PyProof.Rows
section
variable {X : Cx}
def rCntD (K : PySem.W.Frag) : V → List V → Hp → VK → Prop := fun x xs H Q => ∃ (a : Addr) (y : V) (d : PyData) (ds : List PyData), x = V.ref a ∧ xs = [y] ∧ Dp K H (V.ref a) (.list ds) ∧ Dp K H y d ∧
  SeqAt.shaped (.list ds) = true ∧ SeqAt.shaped d = true ∧ Q (.int (ds.countP (fun z => PyData.eqv z d) : Nat)) H
theorem mt_lcountD (hu : X.A.units + 65 < cLine) : MtR X "list.count" (rCntD X.K) := by
  intro pins s σ H x xs v us Q I rx rxs h
  obtain ⟨a, y, d, ds, rfl, rfl, hl, hy, sl, sd, q⟩ := h
  cases rx
  obtain ⟨uy, rfl, ry⟩ := rxs.one
  obtain ⟨bs, r1⟩ := Dp.reads I d y uy hy ry
  have hxs : PyData.canLayAll0 ds = true := SeqAt.canLay_of_shaped sl
  have hroom : X.A.units + 1 + min (PyData.depthAll ds) d.depth < cLine := room_in_shaped sd hu
  cases hl with
  | lst hs ha =>
    obtain ⟨its, rv, ⟨⟨cls, dd, data, sls⟩, n, ho, hc, hdn, hdt⟩, hlen⟩ := I.list hs
    simp only at hc hdt
    subst hc hdt
    obtain ⟨as, h4⟩ := Dp.readsAll I ds _ its ha rv
    have hmap : its.map (SeqAt.readOf s.heap) = ds := SeqAt.readsAll_map ds its as hxs h4
    refine call_meets PySem.F.slot_list_count ⟨_, ho, rfl⟩ PySem.F.entry_list_count (PySem.F.args_list_count_2 _ _)
      (SeqAt.list_countAt a its.toArray n dd sls uy (fun u => PyData.eqv (SeqAt.readOf s.heap u) d)) ⟨ho, SeqAt.items_eqAt (vs := its.toArray) (show ReadsAll s.heap its.toArray.toList ds as from h4) r1 hxs (SeqAt.canLay_of_shaped sd) hroom, ?_⟩
    have ec : its.toArray.toList.countP (fun u => PyData.eqv (SeqAt.readOf s.heap u) d) = ds.countP fun z => PyData.eqv z d := by
      show its.countP _ = _
      rw [← hmap, List.countP_map]
      rfl
    refine ⟨.int (ds.countP (fun z => PyData.eqv z d) : Nat), H, I.tok _, ⟨s.toks, ?_⟩, q⟩
    show Value.int ((its.toArray.toList.countP _ : Nat) : Int) s.toks = _
    rw [ec]
end
end L2
namespace Lm
open PySem PySem.Spec PyProof.Rows L2
section
variable {X : Cx} {K : PySem.W.Frag} (hK : X.K = K)
include hK
theorem k_lcount (hu : X.A.units + 65 < cLine) : MtR X "list.count" (rCntD K) := hK ▸ mt_lcountD hu
end
theorem rUnits5 {k : Nat} {A : Around} (hr : Room k A) : A.units + 65 < cLine := by have := hr.un; omega
section
variable {c : Ct} {H H' H0 H1 H2 H3 : Hp} {O : List Addr} {Γ Γ' Γ1 : List (Option Rs)}
variable {te ta tb tx : TE} {tr : TA} {k ka kb : Kd} {d x y z : PyData} {i j : Int} {ds es : List PyData}
theorem e_countL (ha : Ev c ta Γ ka (.list ds)) (hb : Ev c tb Γ kb d) (sl : SeqAt.shaped (.list ds) = true) (sd : SeqAt.shaped d = true) : Ev c (tBM c.K "list" (rCntD c.K) ta (tCons tb tNil)) Γ .v (.int (ds.countP (fun z => PyData.eqv z d) : Nat)) := fun H0 O H σ e Q q =>
  ha H0 O H σ e _ fun v H1 r1 s1 => by
    obtain ⟨p, xs, rfl, ok, sq, al⟩ := (Res.bo e s1).lst'
    refine ⟨.inl ⟨rfl, xs, sq⟩, a_cons hb a_nil H0 O H1 σ (e.on r1) _ fun vs H2 r2 s2 => ?_⟩
    obtain ⟨y, rfl, by2⟩ := BoAll.one s2
    have b1 : Bo c H2 (.ref p) (.list ds) := Res.bo e (Res.on e r1 r2 s1)
    exact ⟨p, y, d, ds, rfl, rfl, b1.dp, by2.dp, sl, sd, q _ H2 (r1.tr r2) (.int _)⟩
end
/-! promises -/
variable {v o n : Int} {S : S3} {f g as : List Int}
end Lm
namespace Lm
open PySem PySem.Spec PyProof.Rows L2
end Lm
namespace Lm
open PySem PySem.Spec PyProof.Rows L2
variable {c : Ct} {Γ : List (Option Rs)} {ta tb : TE} {ka kb : Kd}
end Lm


/-! what lies between; all allocations; bridges -/
namespace Lm
open PySem PySem.Spec PyProof.Rows L2
variable {v b : Int} {f g h m x y : List Int}
/-! all allocations -/
theorem pw_nodup {l : List (List Int)} (h : l.Pairwise lexLt) : l.Nodup := by
  refine List.Pairwise.imp (fun {a b} h => ?_) h
  intro e
  rw [e] at h
  exact lexLt_irr h
theorem shapedR (l : List (List Int)) : SeqAt.shaped (.list (l.map tupD)) = true := by
  have h1 : ∀ l : List (List Int), PyData.canLayAll0 (l.map tupD) = true := fun l => by
    induction l with
    | nil => rfl
    | cons a l ih => simp [PyData.canLayAll0, PyData.canLay0, PySem.W.ke_canLayAll0] at ih ⊢; exact ih
  have h2 : ∀ l : List (List Int), PyData.depthAll (l.map tupD) ≤ 1 := fun l => by
    induction l with
    | nil => simp [PyData.depthAll]
    | cons a l ih =>
      have : PyData.depth (tupD a) ≤ 1 := by simp [PyData.depth, PySem.W.ke_depthAll]
      simp only [List.map_cons, PyData.depthAll]
      omega
  show (PyData.canLay0 (.list (l.map tupD)) && decide (PyData.depth (.list (l.map tupD)) ≤ 64)) = true
  rw [Bool.and_eq_true]
  refine ⟨by simp only [PyData.canLay0]; exact h1 l, decide_eq_true ?_⟩
  have := h2 l
  simp only [PyData.depth]
  omega
end Lm


/-! all ways on from a state, in order, and their number -/
namespace Lm
open PySem PySem.Spec PyProof.Rows L2
variable {v o n : Int} {S : S3} {f g : List Int}
def waysS (S : S3) : Nat := waysN S.c S.l S.e
end Lm


/-! all ways on: by number, their numbers, the next one -/
namespace Lm
open PySem PySem.Spec PyProof.Rows L2
variable {v o n : Int} {S : S3} {f g : List Int}
/-! by number -/
def pickI (S : S3) (o : Int) : List Int → Nat → Int × Nat
  | [], i => (0, i)
  | n :: ns, i => if i < waysS (aftI S o n) then (n, i) else pickI S o ns (i - waysS (aftI S o n))
/-! the number -/
/-! the next one -/
theorem sum_le_pt : ∀ {as bs : List Int}, as.length = bs.length → (∀ j, j < as.length → as.getD j 0 ≤ bs.getD j 0) → as.sum ≤ bs.sum
  | [], [], _, _ => Int.le_refl _
  | a :: as, b :: bs, hl, h => by
    have h0 := h 0 (by simp)
    have := sum_le_pt (as := as) (bs := bs) (by simpa using hl) fun j hj => h (j + 1) (by simpa using hj)
    rw [List.sum_cons, List.sum_cons]
    have h0' : a ≤ b := h0
    omega
  | [], _ :: _, h, _ => by simp at h
  | _ :: _, [], h, _ => by simp at h
theorem St.ok (h : St v S f) (h20 : f.length ≤ 20) (h5 : v ≤ 5) : StOk S.c S.l S.e := by
  have cl := h.cl
  have ll := h.ll
  have el := h.el
  have cg : ∀ j, j < S.c.length → S.c.getD j 0 = f.count (j : Int) := fun j hj => by
    have := h.cs (j : Int) (by omega)
    unfold gI at this
    rwa [Int.toNat_natCast] at this
  have cs : S.c.sum = f.length := by
    have e : S.c = (upI 0 v.toNat).map fun i => (f.count i : Int) := by
      apply List.ext_getElem
      · simp [upI]; omega
      · intro i h1 h2
        have := cg i h1
        rw [gd_lt h1] at this
        rw [this]
        simp [upI]
    rw [e]
    exact count_sum v.toNat f fun n hn => by have := h.rng n hn; omega
  refine ⟨by omega, by omega, by omega, fun p hp => ?_, h.enn, ?_⟩
  · obtain ⟨i, hi, rfl⟩ := List.getElem_of_mem hp
    have i1 : i < S.c.length := by simp at hi; omega
    have i2 : i < S.l.length := by omega
    rw [List.getElem_zip]
    have a1 := cg i i1
    have a2 := h.ls (i : Int) (by omega)
    unfold gI at a2
    rw [Int.toNat_natCast, gd_lt i2] at a2
    rw [gd_lt i1] at a1
    have a3 : f.count (i : Int) ≤ f.length := List.count_le_length
    show 0 ≤ S.l[i] ∧ S.l[i] ≤ S.c[i] ∧ S.c[i] ≤ 20
    omega
  · rw [← h.sum]
    have := sum_le_pt (as := S.l) (bs := S.c) (by omega) fun j hj => by
      have a2 := h.ls (j : Int) (by omega)
      unfold gI at a2
      rw [Int.toNat_natCast] at a2
      have := cg j (by omega)
      omega
    omega
end Lm


/-! promises: by number, the number, the next one -/
namespace Lm
open PySem PySem.Spec PyProof.Rows L2
section
variable {X : Cx} {K : PySem.W.Frag} (hK : X.K = K)
include hK
end
section
variable {c : Ct} {Γ Γ' Γ1 : List (Option Rs)} {te ta tb : TE} {tr : TA} {u : TS} {k ka kb : Kd} {P : Out → Prop}
end
variable {v o n : Int} {S : S3} {f g as : List Int}
/-! the states on the way by number -/
def nS : S3 → List Int → Nat → Nat → S3 × Nat
  | S, o :: f, i, n + 1 => nS (aftI S o (pickI S o (optI S o) i).1) f (pickI S o (optI S o) i).2 n
  | S, _, i, _ => (S, i)
end Lm


/-! list(zip(a, b)), a and b tuples -/
namespace PySem.F
theorem zip_no_len : typeLookup (.type "zip") "__len__" = pure none := by rw [typeLookup_type, builtinLookup_eq_fast]; kernel_rfl
theorem zip_no_hint : typeLookup (.type "zip") "__length_hint__" = pure none := by rw [typeLookup_type, builtinLookup_eq_fast]; kernel_rfl
end PySem.F
namespace Lm
open PySem PySem.Spec PyProof.Rows L2
section
variable {prog : Program} {w : World} {A : Around} {E : Value → Shared → Prop} {s : Shared}
/-- next(z) -/
theorem pyNext_zip {z TI TO : Addr} {x : Value} {b : Bool} {Q : Option Value → Shared → Prop} (hz : IsZipX s.heap z TI TO x b)
    (h : ∀ E' : Value → Shared → Prop, wpAny (model prog w) A.in1 (Builtin.«zip.__next__» ⟨[.ref z], []⟩) (fun fin s' => ∃ v, fin = .done (.ret v) ∧ Q (some v) s') E' s) : wpAny (model prog w) A (pyNext (.ref z)) Q E s := by
  have hT : s.TypeIs (.ref z) "zip" := ⟨_, hz, rfl⟩
  unfold pyNext
  refine wpAny_bind (wpAny_attempt (wpAny_callSpecial?_slot (name := Str.ofString "__next__") hT F.slot_zip_next
    (wpAny_call_entry F.slot_zip_next hT F.entry_zip_next ?_ (F.args_zip_next_1 _))))
  refine wpAny_mono (h _) (fun fin s' ⟨v, e, q⟩ => ?_) fun _ _ y => y
  subst e
  exact ⟨v, rfl, wpAny_pure q⟩
theorem pyNext_zip_end {z TI TO i1 i2 : Addr} {x : Value} {b : Bool} {fp1 fp2 : List Addr} {n1 : Nat} {P1 : Nat → Value → Prop} {St1 : Nat → Heap → Prop} {Q : Option Value → Shared → Prop}
    (S : ZipSep2 z TI TO i1 i2 fp1 fp2) (D1 : ∀ A' : Around, A'.handled = none → Draws prog w A' i1 fp1 n1 P1 St1) (hh : A.handled = none) (hz : IsZipX s.heap z TI TO x b) (hx : x = .none ∨ ∃ T : Addr, x = rawInt T) (hTI : IsTupOf2 s.heap TI (.ref i1) (.ref i2)) (st1 : St1 n1 s.heap)
    (hQ : ∀ h', (∀ c o, c ≠ z → c ≠ i1 → s.heap.get? c = some o → h'.get? c = some o) → Q none { s with heap := h' }) : wpAny (model prog w) A (pyNext (.ref z)) Q E s := by
  have hT : s.TypeIs (.ref z) "zip" := ⟨_, hz, rfl⟩
  unfold pyNext
  refine wpAny_bind (wpAny_attempt (wpAny_callSpecial?_slot (name := Str.ofString "__next__") hT F.slot_zip_next
    (wpAny_call_entry F.slot_zip_next hT F.entry_zip_next ?_ (F.args_zip_next_1 _))))
  refine zipX_end S (D1 _ hh) hz hx hTI st1 fun h' x' he' hx' => ?_
  obtain ⟨o, ho, hc⟩ := hx'
  refine wpAny_bind (wpAny_isInstance (T := "StopIteration") (b := true) ⟨o, ho, hc⟩ isSubtype_stop ?_)
  exact wpAny_pure (hQ _ he')
/-- zip at its end: the first iterator goes on, the second has ended -/
theorem zipX_end2 {z TI TO i1 i2 : Addr} {fp1 fp2 : List Addr} {n1 n2 i : Nat} {P1 P2 : Nat → Value → Prop} {St1 St2 : Nat → Heap → Prop} {a1 a2 x : Value} {b : Bool} {Q : Fin → Shared → Prop} (S : ZipSep2 z TI TO i1 i2 fp1 fp2) (D1 : Draws prog w A i1 fp1 n1 P1 St1) (D2 : Draws prog w A i2 fp2 n2 P2 St2)
    (hz : IsZipX s.heap z TI TO x b) (hx : x = .none ∨ ∃ T : Addr, x = rawInt T) (hTI : IsTupOf2 s.heap TI (.ref i1) (.ref i2)) (hTO : IsTupOf2 s.heap TO a1 a2) (st1 : St1 i s.heap) (st2 : St2 n2 s.heap) (hlt1 : i < n1)
    (hE : ∀ h' tk e, (∀ c o, c ≠ z → c ≠ TO → c ≠ i1 → c ≠ i2 → s.heap.get? c = some o → h'.get? c = some o) → (∃ o, h'.get? e = some o ∧ o.cls = .type "StopIteration") → E (.ref e) { s with heap := h', toks := tk }) :
    wpAny (model prog w) A (Builtin.«zip.__next__» ⟨[.ref z], []⟩) Q E s := by
  obtain ⟨hp, g, d, tk0, os⟩ := s
  show wpAny _ _ (field (.ref z) 2 >>= _) _ _ _
  refine wpAny_bind (wpAny_field hz rfl (x := .bool false) rfl ?_)
  show wpAny _ _ (field (.ref z) 3 >>= _) _ _ _
  refine wpAny_bind (wpAny_field hz rfl (x := .ref TI) rfl ?_)
  refine wpAny_bind (wpAny_seqItems hTI rfl ?_)
  show wpAny _ _ (Builtin.SmallTypes.ownedTupleIsFree (.ref z) >>= _) _ _ _
  refine wpAny_bind (zipX_free hz hx ?_ fun g0 hz0 hs0 => ?_)
  · simp only [if_true]
    refine wpAny_bind (wpAny_rule (wpAny_bind (wpAny_field hz rfl (x := .ref TO) rfl ?_)))
    refine wpAny_bind (wpAny_setField_rec hz (by simp) fun g0 hz0 hs0 => ?_)
    replace hz0 : IsZipX g0 z TI TO .ellipsis b := hz0
    replace hs0 : Heap.SameBut z hp g0 := hs0
    refine wpAny_bind ?_
    simp only [List.zipIdx_cons, List.zipIdx_nil, List.forIn_cons, List.forIn_nil]
    refine wpAny_bind (wpAny_bind (wpAny_onRaise ?_))
    show wpAny _ _ (Builtin.SmallTypes.nextOf (.ref i1) >>= _) _ _ ⟨g0, g, d, tk0, os⟩
    refine wpAny_bind (D1.item i _ _ _ hlt1 (D1.over st1 hs0 S.zf1) fun x1 p1 tk1 hx1 sn1 hp1 => wpAny_pure ?_)
    replace hp1 : Heap.SameBut i1 g0 p1 := hp1
    have hU1 : IsTupOf2 p1 TO a1 a2 := hp1.extBut _ _ S.Ti1 (hs0.extBut _ _ S.TOz hTO)
    refine wpAny_bind (wpAny_seqItems (s := ⟨p1, g, d, tk1, os⟩) hU1 rfl ?_)
    refine wpAny_bind (updateSeq_IsTupOf2 (s := ⟨p1, g, d, tk1, os⟩) hU1 fun g1 hT1 hs1 => ?_)
    replace hT1 : IsTupOf2 g1 TO x1 a2 := hT1
    replace hs1 : Heap.SameBut TO p1 g1 := hs1
    refine wpAny_bind (wpAny_letGo (wpAny_pure ?_))
    refine wpAny_bind (wpAny_bind (wpAny_onRaise ?_))
    show wpAny _ _ (Builtin.SmallTypes.nextOf (.ref i2) >>= _) _ _ ⟨g1, g, d, tk1, os⟩
    refine wpAny_bind (D2.done ⟨g1, g, d, tk1, os⟩ _ _ (D2.over (D2.over (D2.over st2 hs0 S.zf2) hp1 S.sep1_2) hs1 S.Tf2) fun q e hq he => ?_)
    replace hq : Heap.ExtBut i2 g1 q := hq
    obtain ⟨oe, hoe, hce⟩ := he
    replace hoe : q.get? e = some oe := hoe
    have hz1 : IsZipX g1 z TI TO .ellipsis b := hs1.extBut _ _ S.TOz.symm (hp1.extBut _ _ S.zi1 hz0)
    have hzq : IsZipX q z TI TO .ellipsis b := hq _ _ S.zi2 hz1
    have hez : e ≠ z := fun y => by subst y; rw [hzq] at hoe; cases hoe; simp at hce
    refine wpAny_setField_rec (s := ⟨q, g, d, tk1, os⟩) hzq (by simp) fun q' _ hq' => ?_
    replace hq' : Heap.SameBut z q q' := hq'
    exact hE q' tk1 e (fun c o cz cT c1 c2 y => hq'.extBut _ _ cz (hq _ _ c2 (hs1.extBut _ _ cT (hp1.extBut _ _ c1 (hs0.extBut _ _ cz y))))) ⟨oe, hq'.extBut _ _ hez hoe, hce⟩
  · replace hs0 : Heap.SameBut z hp g0 := hs0
    simp only [Bool.false_eq_true, if_false]
    refine wpAny_bind ?_
    rw [← Array.forIn_toList]
    simp only [List.forIn_cons, List.forIn_nil]
    refine wpAny_bind (wpAny_bind (wpAny_holding ?_))
    show wpAny _ _ (Builtin.SmallTypes.nextOf (.ref i1) >>= _) _ _ ⟨g0, g, d, tk0, os⟩
    refine wpAny_bind (D1.item i _ _ _ hlt1 (D1.over st1 hs0 S.zf1) fun x1 p1 tk1 hx1 sn1 hp1 => wpAny_pure ?_)
    replace hp1 : Heap.SameBut i1 g0 p1 := hp1
    refine wpAny_pure ?_
    refine wpAny_bind (wpAny_bind (wpAny_holding ?_))
    show wpAny _ _ (Builtin.SmallTypes.nextOf (.ref i2) >>= _) _ _ ⟨p1, g, d, tk1, os⟩
    refine wpAny_bind (D2.done ⟨p1, g, d, tk1, os⟩ _ _ (D2.over (D2.over st2 hs0 S.zf2) hp1 S.sep1_2) fun q e hq he => ?_)
    replace hq : Heap.ExtBut i2 p1 q := hq
    exact hE q tk1 e (fun c o cz _ c1 c2 y => hq _ _ c2 (hp1.extBut _ _ c1 (hs0.extBut _ _ cz y))) he
theorem pyNext_zip_end2 {z TI TO i1 i2 : Addr} {x a1 a2 : Value} {b : Bool} {fp1 fp2 : List Addr} {n1 n2 i : Nat} {P1 P2 : Nat → Value → Prop} {St1 St2 : Nat → Heap → Prop} {Q : Option Value → Shared → Prop}
    (S : ZipSep2 z TI TO i1 i2 fp1 fp2) (D1 : ∀ A' : Around, A'.handled = none → Draws prog w A' i1 fp1 n1 P1 St1) (D2 : ∀ A' : Around, A'.handled = none → Draws prog w A' i2 fp2 n2 P2 St2) (hh : A.handled = none) (hz : IsZipX s.heap z TI TO x b) (hx : x = .none ∨ ∃ T : Addr, x = rawInt T) (hTI : IsTupOf2 s.heap TI (.ref i1) (.ref i2)) (hTO : IsTupOf2 s.heap TO a1 a2) (st1 : St1 i s.heap) (st2 : St2 n2 s.heap) (hlt1 : i < n1)
    (hQ : ∀ h' tk, (∀ c o, c ≠ z → c ≠ TO → c ≠ i1 → c ≠ i2 → s.heap.get? c = some o → h'.get? c = some o) → Q none { s with heap := h', toks := tk }) : wpAny (model prog w) A (pyNext (.ref z)) Q E s := by
  have hT : s.TypeIs (.ref z) "zip" := ⟨_, hz, rfl⟩
  unfold pyNext
  refine wpAny_bind (wpAny_attempt (wpAny_callSpecial?_slot (name := Str.ofString "__next__") hT F.slot_zip_next
    (wpAny_call_entry F.slot_zip_next hT F.entry_zip_next ?_ (F.args_zip_next_1 _))))
  refine zipX_end2 S (D1 _ hh) (D2 _ hh) hz hx hTI hTO st1 st2 hlt1 fun h' tk x' he' hx' => ?_
  obtain ⟨o, ho, hc⟩ := hx'
  refine wpAny_bind (wpAny_isInstance (T := "StopIteration") (b := true) ⟨o, ho, hc⟩ isSubtype_stop ?_)
  exact wpAny_pure (hQ _ _ he')
end
/-- a zip at its i-th turn -/
def ZAt (St1 St2 : Nat → Heap → Prop) (h : Heap) (z TI TO i1 i2 : Addr) (i : Nat) : Prop :=
  (∃ x bb, IsZipX h z TI TO x bb ∧ (x = .none ∨ ∃ T : Addr, x = rawInt T)) ∧ IsTupOf2 h TI (.ref i1) (.ref i2) ∧ (∃ a1 a2, IsTupOf2 h TO a1 a2) ∧ St1 i h ∧ St2 i h
theorem ZAt.at {St1 St2 : Nat → Heap → Prop} {h h' : Heap} {z TI TO i1 i2 a b : Addr} {i : Nat} (x : ZAt St1 St2 h z TI TO i1 i2 i) (f1 : (∀ c ∈ [i1, a], ∀ o, h.get? c = some o → h'.get? c = some o) → St1 i h → St1 i h') (f2 : (∀ c ∈ [i2, b], ∀ o, h.get? c = some o → h'.get? c = some o) → St2 i h → St2 i h') (k : ∀ c ∈ [z, TI, TO, i1, i2, a, b], ∀ o, h.get? c = some o → h'.get? c = some o) : ZAt St1 St2 h' z TI TO i1 i2 i := by
  obtain ⟨⟨x, bb, hz, hx⟩, hTI, ⟨a1, a2, hTO⟩, h1, h2⟩ := x
  exact ⟨⟨x, bb, k z (by simp) _ hz, hx⟩, k TI (by simp) _ hTI, ⟨a1, a2, k TO (by simp) _ hTO⟩, f1 (fun c hc => k c (by simp at hc ⊢; rcases hc with q | q <;> simp [q])) h1, f2 (fun c hc => k c (by simp at hc ⊢; rcases hc with q | q <;> simp [q])) h2⟩
/-- the tuples given out so far -/
def ZOut (h : Heap) (n0 : Nat) (its its2 : Array Value) (ts : List Addr) : Prop :=
  ts.Pairwise (· < ·) ∧ ∀ (j : Nat) (t : Addr), ts[j]? = some t → n0 ≤ t ∧ ∃ x y, its[j]? = some x ∧ its2[j]? = some y ∧ IsTupOf2 h t x y
section
variable {prog : Program} {w : World} {A : Around} {R : Result → Shared → Prop}
theorem zip_loop {z TI TO i1 i2 a b S : Addr} {its its2 : Array Value} {n0 : Nat} {St1 St2 : Nat → Heap → Prop} (Sep : ZipSep2 z TI TO i1 i2 [i1, a] [i2, b]) (D1 : ∀ A' : Around, A'.handled = none → Draws prog w A' i1 [i1, a] its.size (fun i v => its[i]? = some v) St1) (D2 : ∀ A' : Around, A'.handled = none → Draws prog w A' i2 [i2, b] its2.size (fun i v => its2[i]? = some v) St2) (hS : S ∉ [z, TI, TO, i1, i2, a, b]) (hlow : ∀ c ∈ [z, TI, TO, i1, i2, a, b, S], c < n0) (hl : its2.size = its.size ∨ its2.size + 1 = its.size) (hn : its.size ≤ sizeLine) (hh : A.handled = none) (res : Value) :
    ∀ (k i : Nat) (s : Shared) (acc : Array Value) (c : Nat) (ts : List Addr), its2.size - i = k → i ≤ its2.size → ZAt St1 St2 s.heap z TI TO i1 i2 i → s.heap.get? S = some { cls := .type "list", dict := none, data := .seq acc c, slots := #[] } → acc.toList = ts.map Value.ref → ts.length = i → ZOut s.heap n0 its its2 ts → n0 ≤ s.heap.objs.size →
    (∀ h' tk acc' c' ts', (∀ c o, c ∉ [z, TO, i1, i2, S] → s.heap.get? c = some o → h'.get? c = some o) → h'.get? S = some { cls := .type "list", dict := none, data := .seq acc' c', slots := #[] } → acc'.toList = ts'.map Value.ref → ts'.length = its2.size → ZOut h' n0 its its2 ts' → R (.ok (.ret res)) { s with heap := h', toks := tk }) →
    codeAny (model prog w) A (.builtin "list.extend.loop" ⟨[.ref S, .ref z, res], []⟩) R s := by
  intro k
  induction k with
  | zero =>
    intro i s acc c ts hk hi hst hSl hacc hts hout hn0 hR
    have hin : i = its2.size := by omega
    obtain ⟨⟨x0, bb, hz, hx0⟩, hTI, ⟨a1, a2, hTO⟩, h1, h2⟩ := hst
    refine codeAny_builtin F.entry_extend_loop ?_
    rw [Around.under_plainId F.plain_extend_loop _]
    show wpAny _ A.in1 (pyNext (.ref z) >>= _) _ _ s
    have hSz : S ≠ z := fun q => hS (by simp [q])
    have hS1 : S ≠ i1 := fun q => hS (by simp [q])
    have fin : ∀ h' tk, (∀ c o, c ≠ z → c ≠ TO → c ≠ i1 → c ≠ i2 → s.heap.get? c = some o → h'.get? c = some o) → R (.ok (.ret res)) { s with heap := h', toks := tk } := fun h' tk hk' => by
      refine hR h' tk acc c ts (fun c o hc e => hk' c o (fun q => hc (by simp [q])) (fun q => hc (by simp [q])) (fun q => hc (by simp [q])) (fun q => hc (by simp [q])) e) (hk' S _ hSz (fun q => hS (by simp [q])) hS1 (fun q => hS (by simp [q])) hSl) hacc (by omega) ⟨hout.1, fun j t ht => ?_⟩
      obtain ⟨g1, x, y, gx, gy, gt⟩ := hout.2 j t ht
      have nt : ∀ c ∈ [z, TI, TO, i1, i2, a, b, S], t ≠ c := fun c hc q => by
        have := hlow c hc
        rw [q] at g1
        exact absurd g1 (Nat.not_le.mpr this)
      exact ⟨g1, x, y, gx, gy, hk' t _ (nt z (by simp)) (nt TO (by simp)) (nt i1 (by simp)) (nt i2 (by simp)) gt⟩
    by_cases hq : its2.size = its.size
    · exact wpAny_bind (pyNext_zip_end (n1 := its.size) Sep D1 hh hz hx0 hTI (by rw [← hq, ← hin]; exact h1) fun h' hk' => wpAny_pure (fin h' s.toks fun c o c1 _ c3 _ e => hk' c o c1 c3 e))
    · exact wpAny_bind (pyNext_zip_end2 (i := i) (n2 := its2.size) Sep D1 D2 hh hz hx0 hTI hTO h1 (by rw [← hin]; exact h2) (by omega) fun h' tk hk' => wpAny_pure (fin h' tk hk'))
  | succ k ih =>
    intro i s acc c ts hk hi hst hSl hacc hts hout hn0 hR
    have hlt2 : i < its2.size := by omega
    have hlt : i < its.size := by omega
    obtain ⟨⟨x0, bb, hz, hx0⟩, hTI, ⟨a1, a2, hTO⟩, h1, h2⟩ := hst
    refine codeAny_builtin F.entry_extend_loop ?_
    rw [Around.under_plainId F.plain_extend_loop _]
    show wpAny _ A.in1 (pyNext (.ref z) >>= _) _ _ s
    have nS : ∀ c ∈ [z, TI, TO, i1, i2, a, b], S ≠ c := fun c hc q => hS (q ▸ hc)
    refine wpAny_bind (pyNext_zip hz fun E' => zipX_item Sep (D1 _ (by exact hh)) (D2 _ (by exact hh)) hz hx0 hTI hTO h1 h2 hlt (by omega) fun v1 v2 g1 tk x' b' hv1 hv2 hz' hx' hTO' s1' s2' hT hsz hk' => ?_)
    have hS1 : g1.get? S = some { cls := .type "list", dict := none, data := .seq acc c, slots := #[] } := hk' S _ (nS z (by simp)) (nS TO (by simp)) (nS i1 (by simp)) (nS i2 (by simp)) hSl
    have lowS : S < n0 := hlow S (by simp)
    show wpAny _ A.in1 (updateSeq S (·.push (Value.ref s.heap.objs.size)) >>= _) _ _ _
    refine wpAny_bind ?_
    have asz : acc.size = i := by have := congrArg List.length hacc; simp at this; omega
    have hTI' : IsTupOf2 g1 TI (.ref i1) (.ref i2) := hk' _ _ Sep.TIz Sep.TITO Sep.TIi1 Sep.TIi2 hTI
    have up : ∀ c o, c ≠ S → g1.get? c = some o → (g1.update S (Obj.mapSeq (·.push (Value.ref s.heap.objs.size)))).get? c = some o := fun c o hc e => (Heap.get?_update_other _ _ (fun q => hc q.symm)).trans e
    refine wpAny_updateSeq hS1 rfl (wpAny_pure ⟨plainId_quiet F.plain_extend_loop _, ih (i + 1) _ (acc.push (Value.ref s.heap.objs.size)) _ (ts ++ [s.heap.objs.size]) (by omega) hlt2 ?_ (Heap.get?_update_self _ hS1 rfl) (by simp [hacc]) (by simp [hts]) ?_ ?_ fun h' tk' acc' c' ts' f1 f2 f3 f4 f5 => ?_⟩)
      (by rw [asz]; omega) (by show (acc.push _).size ≤ sizeLine + 1; rw [Array.size_push, asz]; omega)
    · refine ZAt.at (h := g1) (a := a) (b := b) ⟨⟨x', b', hz', hx'⟩, hTI', hTO', s1', s2'⟩ (fun k s => (D1 A hh).frame _ _ _ s k) (fun k s => (D2 A hh).frame _ _ _ s k) fun c hc o e => up c o (fun q => ?_) e
      exact hS (q ▸ hc)
    · refine ⟨List.pairwise_append.mpr ⟨hout.1, List.pairwise_singleton .., fun t ht u hu => ?_⟩, fun j t ht => ?_⟩
      · rw [List.mem_singleton.mp hu]
        obtain ⟨j, hj⟩ := List.getElem?_of_mem ht
        obtain ⟨_, x, y, _, _, gt⟩ := hout.2 j t hj
        exact Heap.lt_size gt
      · by_cases q : j < ts.length
        · rw [List.getElem?_append_left q] at ht
          obtain ⟨g2, x, y, gx, gy, gt⟩ := hout.2 j t ht
          have nt : ∀ c ∈ [z, TI, TO, i1, i2, a, b, S], t ≠ c := fun c hc q => by
            have := hlow c hc
            rw [q] at g2
            exact absurd g2 (Nat.not_le.mpr this)
          exact ⟨g2, x, y, gx, gy, up _ _ (nt S (by simp)) (hk' t _ (nt z (by simp)) (nt TO (by simp)) (nt i1 (by simp)) (nt i2 (by simp)) gt)⟩
        · rw [List.getElem?_append_right (by omega)] at ht
          have hj : j = ts.length := by
            have := (List.getElem?_eq_some_iff.mp ht).1
            simp at this
            omega
          rw [hj, Nat.sub_self] at ht
          have et : s.heap.objs.size = t := Option.some.inj ht
          refine ⟨by rw [← et]; exact hn0, v1, v2, ?_, ?_, ?_⟩
          · rw [hj, hts]; exact hv1
          · rw [hj, hts]; exact hv2
          · rw [← et]
            refine up _ _ (fun q => ?_) hT
            rw [← q] at lowS
            exact absurd hn0 (Nat.not_le.mpr lowS)
    · show n0 ≤ (g1.update S _).objs.size
      rw [Heap.size_update, hsz]
      omega
    · refine hR h' tk' acc' c' ts' (fun c o hc e => f1 c o hc (up c o (fun q => hc (by simp [q])) (hk' c o (fun q => hc (by simp [q])) (fun q => hc (by simp [q])) (fun q => hc (by simp [q])) (fun q => hc (by simp [q])) e))) f2 f3 f4 f5
/-- what list(z) leaves -/
def ZDone (h h' : Heap) (z TO i1 i2 S : Addr) (n0 : Nat) (its its2 : Array Value) : Prop :=
  (∀ c o, c ∉ [z, TO, i1, i2, S] → h.get? c = some o → h'.get? c = some o) ∧ ∃ acc' c' ts', h'.get? S = some { cls := .type "list", dict := none, data := .seq acc' c', slots := #[] } ∧ acc'.toList = ts'.map Value.ref ∧ ts'.length = its2.size ∧ ZOut h' n0 its its2 ts'
theorem zip_extend {s : Shared} {z TI TO i1 i2 a b S : Addr} {f0 : Value} {its its2 : Array Value} {n0 : Nat} {St1 St2 : Nat → Heap → Prop} (Sep : ZipSep2 z TI TO i1 i2 [i1, a] [i2, b]) (D1 : ∀ A' : Around, A'.handled = none → Draws prog w A' i1 [i1, a] its.size (fun i v => its[i]? = some v) St1) (D2 : ∀ A' : Around, A'.handled = none → Draws prog w A' i2 [i2, b] its2.size (fun i v => its2[i]? = some v) St2) (hS : S ∉ [z, TI, TO, i1, i2, a, b]) (hlow : ∀ c ∈ [z, TI, TO, i1, i2, a, b, S], c < n0) (hl : its2.size = its.size ∨ its2.size + 1 = its.size) (hn : its.size ≤ sizeLine) (hh : A.handled = none) (res : Value) (c₀ : Nat)
    (hz : IsZip s.heap z TI TO f0) (hst : ZAt St1 St2 s.heap z TI TO i1 i2 0) (hSl : s.heap.get? S = some { cls := .type "list", data := .seq #[] c₀ }) (hn0 : n0 ≤ s.heap.objs.size)
    (hR : ∀ h' tk, ZDone s.heap h' z TO i1 i2 S n0 its its2 → R (.ok (.ret res)) { s with heap := h', toks := tk }) :
    wpAny (model prog w) A.in1 (Builtin.List.listExtendWith (.ref S) (.ref z) res)
      (fun fin s' => match fin with | .done f => R (.ok f) s' | .again c' => c'.quiet = true ∧ codeAny (model prog w) A c' R s') (fun e s' => R (.error e) s') s := by
  have hT : s.TypeIs (.ref z) "zip" := ⟨_, hz, rfl⟩
  have hSz : S ≠ z := fun q => hS (by simp [q])
  unfold Builtin.List.listExtendWith
  refine wpAny_bind (wpAny_typeOf hT ?_)
  have h1 : Builtin.List.listSameRef (.ref S) (.ref z) = false := by simp [Builtin.List.listSameRef, hSz]
  have h2 : (Value.type "zip" == Value.type "list") = false := by decide
  have h3 : (Value.type "zip" == Value.type "tuple") = false := by decide
  simp only [h1, h2, h3, Bool.or_false, Bool.false_eq_true, if_false]
  refine wpAny_bind (wpAny_pyIter_zip hz ?_)
  refine wpAny_bind (wpAny_holding ?_)
  unfold Builtin.List.listLengthHint
  refine wpAny_bind (wpAny_specialOf hT F.zip_no_len ?_)
  show wpAny _ A.in1 (specialOf (Value.ref z) (Str.ofString "__length_hint__") >>= _) _ _ _
  refine wpAny_bind (wpAny_specialOf hT F.zip_no_hint ?_)
  refine wpAny_pure ?_
  show wpAny _ A.in1 (rule "list.extend.makes-room" >>= fun _ => Builtin.List.listTouch (.ref S) >>= fun _ =>
    again (.builtin "list.extend.loop" ⟨[.ref S, .ref z, res], []⟩)) _ _ _
  refine wpAny_bind (wpAny_rule ?_)
  refine wpAny_bind ?_
  show wpAny _ A.in1 (updateSeq S (·.push .none) >>= fun _ => updateSeq S (·.pop)) _ _ _
  refine wpAny_bind (wpAny_updateSeq hSl rfl ?_)
  have hS₂ := Heap.get?_update_self (Obj.mapSeq (·.push Value.none)) hSl rfl
  refine wpAny_updateSeq (hz := by seq_fits) hS₂ rfl ?_
  have hS₃ := Heap.get?_update_self (Obj.mapSeq (·.pop)) hS₂ rfl
  have oth : ∀ b o, b ≠ S → s.heap.get? b = some o → ((s.heap.update S (Obj.mapSeq (·.push Value.none))).update S (Obj.mapSeq (·.pop))).get? b = some o :=
    fun b o hb e => (Heap.get?_update_other _ _ (Ne.symm hb)).trans ((Heap.get?_update_other _ _ (Ne.symm hb)).trans e)
  refine wpAny_pure ⟨plainId_quiet F.plain_extend_loop _, zip_loop Sep D1 D2 hS hlow hl hn hh res its2.size 0 _ _ _ [] rfl (Nat.zero_le _)
    (hst.at (a := a) (b := b) (fun k s => (D1 A hh).frame _ _ _ s k) (fun k s => (D2 A hh).frame _ _ _ s k) fun c hc o e => oth c o (fun q => hS (q ▸ hc)) e) hS₃ rfl rfl ⟨List.Pairwise.nil, fun j t ht => by simp at ht⟩ (by show n0 ≤ ((s.heap.update S _).update S _).objs.size; rw [Heap.size_update, Heap.size_update]; exact hn0) fun h' tk acc' c' ts' f1 f2 f3 f4 f5 => ?_⟩
  exact hR h' tk ⟨fun c o hc e => f1 c o hc (oth c o (fun q => hc (by simp [q])) e), acc', c', ts', f2, f3, f4, f5⟩
theorem zip_init {s : Shared} {z TI TO i1 i2 a b S : Addr} {f0 : Value} {its its2 : Array Value} {n0 : Nat} {St1 St2 : Nat → Heap → Prop} (Sep : ZipSep2 z TI TO i1 i2 [i1, a] [i2, b]) (D1 : ∀ A' : Around, A'.handled = none → Draws prog w A' i1 [i1, a] its.size (fun i v => its[i]? = some v) St1) (D2 : ∀ A' : Around, A'.handled = none → Draws prog w A' i2 [i2, b] its2.size (fun i v => its2[i]? = some v) St2) (hS : S ∉ [z, TI, TO, i1, i2, a, b]) (hlow : ∀ c ∈ [z, TI, TO, i1, i2, a, b, S], c < n0) (hl : its2.size = its.size ∨ its2.size + 1 = its.size) (hn : its.size ≤ sizeLine) (hh : A.handled = none)
    (hz : IsZip s.heap z TI TO f0) (hst : ZAt St1 St2 s.heap z TI TO i1 i2 0) (hSl : s.heap.get? S = some { cls := .type "list", data := .seq #[] }) (hn0 : n0 ≤ s.heap.objs.size)
    (hR : ∀ h' tk, ZDone s.heap h' z TO i1 i2 S n0 its its2 → R (.ok (.ret .none)) { s with heap := h', toks := tk }) :
    wpAny (model prog w) A.in1 (Builtin.«list.__init__» ⟨[.ref S, .ref z], []⟩)
      (fun fin s' => match fin with | .done f => R (.ok f) s' | .again c' => c'.quiet = true ∧ codeAny (model prog w) A c' R s') (fun e s' => R (.error e) s') s := by
  show wpAny _ A.in1 (do let old ← Builtin.List.listItems (.ref S); Builtin.List.listUpdate (.ref S) (fun _ => #[]); letGo old.toList.reverse; Builtin.List.listExtendWith (.ref S) (.ref z) .none) _ _ s
  refine wpAny_bind ?_
  unfold Builtin.List.listItems
  refine wpAny_bind (wpAny_seqItems hSl rfl (wpAny_pure ?_))
  show wpAny _ A.in1 (updateSeq S (fun _ => #[]) >>= fun _ => letGo (#[] : Array Value).toList.reverse >>= fun _ => Builtin.List.listExtendWith (.ref S) (.ref z) .none) _ _ s
  refine wpAny_bind (wpAny_updateSeq hSl rfl ?_)
  have hS₂ := Heap.get?_update_self (Obj.mapSeq (fun _ => (#[] : Array Value))) hSl rfl
  have oth : ∀ b o, b ≠ S → s.heap.get? b = some o → (s.heap.update S (Obj.mapSeq (fun _ => (#[] : Array Value)))).get? b = some o :=
    fun b o hb e => (Heap.get?_update_other _ _ (Ne.symm hb)).trans e
  refine wpAny_bind (wpAny_letGo ?_)
  refine zip_extend Sep D1 D2 hS hlow hl hn hh .none _ (oth z _ (fun q => hS (by simp [q])) hz) (hst.at (a := a) (b := b) (fun k s => (D1 A hh).frame _ _ _ s k) (fun k s => (D2 A hh).frame _ _ _ s k) fun c hc o e => oth c o (fun q => hS (q ▸ hc)) e) hS₂ (by show n0 ≤ (s.heap.update S _).objs.size; rw [Heap.size_update]; exact hn0) fun h' tk ⟨f1, f2⟩ => ?_
  exact hR h' tk ⟨fun c o hc e => f1 c o hc (oth c o (fun q => hc (by simp [q])) e), f2⟩
end
section
variable {prog : Program} {w : World} {A : Around} {E : Value → Shared → Prop} {s : Shared}
theorem call_list_zip {Q : Value → Shared → Prop} {z TI TO i1 i2 a b : Addr} {f0 : Value} {its its2 : Array Value} {St1 St2 : Nat → Heap → Prop} (Sep : ZipSep2 z TI TO i1 i2 [i1, a] [i2, b]) (D1 : ∀ A' : Around, A'.handled = none → Draws prog w A' i1 [i1, a] its.size (fun i v => its[i]? = some v) St1) (D2 : ∀ A' : Around, A'.handled = none → Draws prog w A' i2 [i2, b] its2.size (fun i v => its2[i]? = some v) St2) (hlow : ∀ c ∈ [z, TI, TO, i1, i2, a, b], c < s.heap.objs.size) (hl : its2.size = its.size ∨ its2.size + 1 = its.size) (hn : its.size ≤ sizeLine) (hh : A.handled = none)
    (hz : IsZip s.heap z TI TO f0) (hst : ZAt St1 St2 s.heap z TI TO i1 i2 0)
    (hQ : ∀ h' tk, ZDone (s.heap.push { cls := .type "list", data := .seq #[] }) h' z TO i1 i2 s.heap.objs.size (s.heap.objs.size + 1) its its2 → Q (.ref s.heap.objs.size) { s with heap := h', toks := tk }) :
    wpAny (model prog w) A (call (.type "list") [.ref z]) Q E s := by
  refine callType_codes (Q₁ := fun obj s₁ => obj = .ref s.heap.objs.size ∧ s₁ = { s with heap := s.heap.push { cls := .type "list", data := .seq #[] } }) F.called_list (F.typeCall_list_1 _) F.entry_list_init
    (code_list_new _ ⟨rfl, rfl⟩) fun obj s₁ h₁ => ?_
  obtain ⟨rfl, rfl⟩ := h₁
  have hS : (s.heap.push { cls := .type "list", data := .seq #[] }).get? s.heap.objs.size = some { cls := .type "list", data := .seq #[] } := Heap.get?_push_size _ rfl
  refine ⟨⟨_, hS, rfl⟩, F.args_list_init_2 _ _, zip_init (n0 := s.heap.objs.size + 1) Sep D1 D2 (fun hm => Nat.lt_irrefl _ (hlow _ hm)) (fun c hc => ?_) hl hn (by exact hh) (Heap.get?_push_of_some _ hz) (hst.at (a := a) (b := b) (fun k s => (D1 A hh).frame _ _ _ s k) (fun k s => (D2 A hh).frame _ _ _ s k) fun c _ o e => Heap.get?_push_of_some _ e) hS (by show _ ≤ (s.heap.push _).objs.size; rw [Heap.size_push]; exact Nat.le_refl _) fun h' tk f => ?_⟩
  · have hc' : c ∈ [z, TI, TO, i1, i2, a, b] ∨ c = s.heap.objs.size := by simpa [or_assoc] using hc
    rcases hc' with q | q
    · exact Nat.lt_succ_of_lt (hlow c q)
    · rw [q]; exact Nat.lt_succ_self _
  · exact ⟨rfl, hQ h' tk f⟩
end
end Lm
namespace Lm
open PySem PySem.Spec PyProof.Rows L2
/-- the heap with the tuples told -/
def addT (H : Hp) (ts : List Addr) (its its2 : Array Value) (xs ys : List V) : Hp := fun b => if b ∈ ts then some (.frz { cls := .type "tuple", data := .seq #[its.getD (ts.idxOf b) .none, its2.getD (ts.idxOf b) .none] } (.tup [xs.getD (ts.idxOf b) .non, ys.getD (ts.idxOf b) .non])) else H b
theorem idx_at {ts : List Addr} (h : ts.Pairwise (· < ·)) {j : Nat} {t : Addr} (e : ts[j]? = some t) : ts.idxOf t = j := by
  obtain ⟨hj, e2⟩ := List.getElem?_eq_some_iff.mp e
  have hm : t ∈ ts := List.mem_of_getElem? e
  have hi := List.idxOf_lt_length_of_mem hm
  have p := List.pairwise_iff_getElem.mp h
  have eg : ts[ts.idxOf t] = t := List.getElem_idxOf _
  rcases Nat.lt_trichotomy (ts.idxOf t) j with q | q | q
  · have := p _ _ hi hj q
    rw [eg, e2] at this
    exact absurd this (Nat.lt_irrefl _)
  · exact q
  · have := p _ _ hj hi q
    rw [eg, e2] at this
    exact absurd this (Nat.lt_irrefl _)
def tLstZip (K : PySem.W.Frag) (ta : TA) : TE := fun σ H Q => ta σ H fun vs H1 => ∃ a b xs ys, vs = [.ref a, .ref b] ∧ ((SqT K H1 a xs ∧ SqT K H1 b ys) ∨ (SqL K H1 a xs ∧ SqL K H1 b ys)) ∧ (ys.length = xs.length ∨ ys.length + 1 = xs.length) ∧ xs.length ≤ sizeLine ∧
  ∀ (ts : List Addr) (H' : Hp) (p : Addr), ts.length = ys.length → (∀ (j : Nat) (t : Addr) (x y : V), ts[j]? = some t → xs[j]? = some x → ys[j]? = some y → ∃ o : Obj, o.dict = none ∧ H' t = some (.frz o (.tup [x, y]))) → (∀ b u, H1 b = some u → H' b = some u) → H' p = none → H1 p = none → Q (.ref p) (upd H' p (.lst (ts.map V.ref)))
theorem listZip_tail {X : Cx} {pins : List (Addr × Obj)} {σ : L2.St} {H1 : Hp} {s1 : Shared} {Q : VK} {a b : Addr} {xs ys : List V} {its its2 : List Value} {h' : Heap} {St1 St2 : Nat → Heap → Prop} (I1 : Inv X pins σ H1 s1) (rv : Vals xs its) (rv2 : Vals ys its2) (hlen : ys.length = xs.length ∨ ys.length + 1 = xs.length) (hsz : xs.length ≤ sizeLine) (la : a < s1.heap.objs.size) (lb : b < s1.heap.objs.size) (hhd : X.A.handled = none)
    (D1 : ∀ A' : Around, A'.handled = none → Draws X.prog X.w A' s1.heap.objs.size [s1.heap.objs.size, a] its.toArray.size (fun i v => its.toArray[i]? = some v) St1) (D2 : ∀ A' : Around, A'.handled = none → Draws X.prog X.w A' (s1.heap.objs.size + 1) [s1.heap.objs.size + 1, b] its2.toArray.size (fun i v => its2.toArray[i]? = some v) St2)
    (hz : IsZip h' (s1.heap.objs.size + 4) (s1.heap.objs.size + 2) (s1.heap.objs.size + 3) .none) (hTI : IsPair h' (s1.heap.objs.size + 2) (.ref s1.heap.objs.size) (.ref (s1.heap.objs.size + 1))) (hTO : IsPair h' (s1.heap.objs.size + 3) .none .none) (st1 : St1 0 h') (st2 : St2 0 h') (hsz5 : h'.objs.size = s1.heap.objs.size + 5) (hk : ∀ c o, s1.heap.get? c = some o → h'.get? c = some o)
    (q : ∀ (ts : List Addr) (H' : Hp) (p : Addr), ts.length = ys.length → (∀ (j : Nat) (t : Addr) (x y : V), ts[j]? = some t → xs[j]? = some x → ys[j]? = some y → ∃ o : Obj, o.dict = none ∧ H' t = some (.frz o (.tup [x, y]))) → (∀ b u, H1 b = some u → H' b = some u) → H' p = none → H1 p = none → Q (.ref p) (upd H' p (.lst (ts.map V.ref)))) :
    wpAny (model X.prog X.w) X.A (call (.type "list") [.ref (s1.heap.objs.size + 4)]) (EP X pins σ Q) X.xe { s1 with heap := h' } := by
  have l1 := rv.length
  have l2 := rv2.length
  refine call_list_zip (s := { s1 with heap := h' }) (zip_sep2 (N := s1.heap.objs.size) (fp1 := [a]) (fp2 := [b]) (fun c hc => by cases List.mem_singleton.mp hc; exact la) (fun c hc => by cases List.mem_singleton.mp hc; exact lb)) D1 D2 (fun c hc => ?_) (its := its.toArray) (its2 := its2.toArray) (by simp; omega) (by simp; omega) hhd hz ⟨⟨_, _, hz, .inl rfl⟩, hTI, ⟨_, _, hTO⟩, st1, st2⟩ fun h'' tk fd => ?_
  · show c < h'.objs.size
    rw [hsz5]
    simp only [List.mem_cons, List.not_mem_nil, or_false] at hc
    rcases hc with z | z | z | z | z | z | z <;> rw [z]
    · exact Nat.lt_succ_self _
    · exact Nat.add_lt_add_left (by decide) _
    · exact Nat.add_lt_add_left (by decide) _
    · exact Nat.lt_add_of_pos_right (by decide)
    · exact Nat.add_lt_add_left (by decide) _
    · exact Nat.lt_of_lt_of_le la (Nat.le_add_right _ _)
    · exact Nat.lt_of_lt_of_le lb (Nat.le_add_right _ _)
  · obtain ⟨f1, acc, cc, ts, f2, f3, f4, f5, f6⟩ := fd
    have e5 : h'.objs.size = s1.heap.objs.size + 5 := hsz5
    have old : ∀ c o, s1.heap.get? c = some o → h''.get? c = some o := fun c o g => by
      have lc := Heap.lt_size g
      refine f1 c o (fun hc => ?_) (Heap.get?_push_of_some _ (hk c o g))
      simp only [List.mem_cons, List.not_mem_nil, or_false] at hc
      have e5' : ({ s1 with heap := h' } : Shared).heap.objs.size = s1.heap.objs.size + 5 := e5
      rw [e5'] at hc
      rcases hc with z | z | z | z | z <;> rw [z] at lc <;> exact absurd lc (Nat.not_lt.mpr (by first | exact Nat.le_add_right _ _ | exact Nat.le_refl _))
    have tsz : ∀ t ∈ ts, s1.heap.objs.size + 6 ≤ t := fun t ht => by
      obtain ⟨j, hj⟩ := List.getElem?_of_mem ht
      have := (f6 j t hj).1
      have e5' : ({ s1 with heap := h' } : Shared).heap.objs.size = s1.heap.objs.size + 5 := e5
      rw [e5'] at this
      exact this
    have tn : ∀ c o, s1.heap.get? c = some o → c ∉ ts := fun c o g hc => by
      have h1 := Heap.lt_size g
      have h2 := tsz c hc
      exact absurd (Nat.lt_of_lt_of_le h1 (Nat.le_trans (Nat.le_add_right _ 6) h2)) (Nat.lt_irrefl _)
    have Hn : ∀ c u, H1 c = some u → c ∉ ts := fun c u g hc => by
      have h1 := (I1.hok c u g).lt
      have h2 := tsz c hc
      exact absurd (Nat.lt_of_lt_of_le h1 (Nat.le_trans (Nat.le_add_right _ 6) h2)) (Nat.lt_irrefl _)
    have keepH : ∀ c u, H1 c = some u → addT H1 ts its.toArray its2.toArray xs ys c = some u := fun c u g => by
      unfold addT
      rw [if_neg (Hn c u g)]
      exact g
    have atT : ∀ (j : Nat) (t : Addr) (x y : V), ts[j]? = some t → xs[j]? = some x → ys[j]? = some y → ∃ vx vy, its[j]? = some vx ∧ its2[j]? = some vy ∧ RelV x vx ∧ RelV y vy ∧ IsTupOf2 h'' t vx vy ∧ addT H1 ts its.toArray its2.toArray xs ys t = some (.frz { cls := .type "tuple", data := .seq #[vx, vy] } (.tup [x, y])) := fun j t x y ht hx hy => by
      obtain ⟨u, hu, ru⟩ := rv.get hx
      obtain ⟨u2, hu2, ru2⟩ := rv2.get hy
      obtain ⟨_, vx, vy, gx, gy, gt⟩ := f6 j t ht
      have q1 : vx = u := by
        have : its[j]? = some vx := by simpa using gx
        rw [hu] at this
        exact (Option.some.inj this).symm
      have q2 : vy = u2 := by
        have : its2[j]? = some vy := by simpa using gy
        rw [hu2] at this
        exact (Option.some.inj this).symm
      subst q1 q2
      refine ⟨vx, vy, hu, hu2, ru, ru2, gt, ?_⟩
      unfold addT
      rw [if_pos (List.mem_of_getElem? ht), idx_at f5 ht]
      have a1 : its.toArray.getD j .none = vx := by
        rw [Array.getD_eq_getD_getElem?, gx]; rfl
      have a2 : its2.toArray.getD j .none = vy := by
        rw [Array.getD_eq_getD_getElem?, gy]; rfl
      have a3 : xs.getD j .non = x := by rw [List.getD_eq_getElem?_getD, hx]; rfl
      have a4 : ys.getD j .non = y := by rw [List.getD_eq_getElem?_getD, hy]; rfl
      rw [a1, a2, a3, a4]
    have Sn : addT H1 ts its.toArray its2.toArray xs ys h'.objs.size = none := by
      unfold addT
      rw [if_neg (fun hc => by
        have := tsz _ hc
        rw [e5] at this
        exact absurd this (by exact Nat.not_succ_le_self _))]
      exact I1.hok.fresh (by rw [e5]; exact Nat.le_add_right _ _)
    have S1 : H1 h'.objs.size = none := I1.hok.fresh (by rw [e5]; exact Nat.le_add_right _ _)
    have hts : ts.length = ys.length := by rw [f4]; simp; omega
    refine ⟨.ref h'.objs.size, _, Inv.drained (ex := []) (out := ts.map V.ref) (acc := acc) (c := cc) I1 (H' := addT H1 ts its.toArray its2.toArray xs ys) (s' := { s1 with heap := h'', toks := tk }) (by rw [e5]; exact Nat.le_add_right _ _) (by simp; omega) f2 ?_ ExOk.nil rfl I1.bare ⟨fun c o g _ _ _ => old c o g, fun c o g _ _ _ => ⟨o.slots, old c o g⟩, fun c o g hn _ => ?_, fun c o g _ => ⟨o, old c o g⟩, fun c zs g => keepH c _ g, fun c o u g => keepH c _ g, fun c ps g => ⟨#[], by rw [keepH c _ g]; simp⟩⟩ (fun c u g => ?_) Sn, rfl, q ts _ _ hts (fun j t x y ht hx hy => ?_) keepH Sn S1⟩
    · rw [f3]
      clear f3 f4 f5 f6 tsz tn Hn keepH atT Sn hts
      induction ts with
      | nil => exact .nil
      | cons t ts ih => exact .cons rfl ih
    · unfold addT
      rw [if_neg (tn c o g)]
      exact hn
    · by_cases w : c ∈ ts
      · obtain ⟨j, hj⟩ := List.getElem?_of_mem w
        have hjl := (List.getElem?_eq_some_iff.mp hj).1
        obtain ⟨vx, vy, g1, g2, g3, g4, g5, g6⟩ := atT j c xs[j] (ys[j]'(by omega)) hj (List.getElem?_eq_getElem (by omega)) (List.getElem?_eq_getElem (by omega))
        rw [g6] at g
        cases g
        exact ⟨g5, by show 2 ≤ sizeLine; decide, [vx, vy], .cons g3 (.cons g4 .nil), ⟨_, g5, rfl, _, rfl⟩⟩
      · have g' : H1 c = some u := by
          unfold addT at g
          rw [if_neg w] at g
          exact g
        exact (I1.hok c u g').stay (fun d v _ z => old d v z) (fun d z => keepH d _ z) fun d zs z => keepH d _ z
    · obtain ⟨vx, vy, _, _, _, _, _, g6⟩ := atT j t x y ht hx hy
      exact ⟨_, rfl, g6⟩
theorem pe_listZip {X : Cx} {e e2 : Expr} {ta : TA} {p pos p2 pos2 : Pos} (hc : X.calm = true) (hg : Gl X "list") (hm : X.mg "list" = none) (hg2 : Gl X "zip") (hm2 : X.mg "zip" = none) (ha : PA X [e, e2] ta)
    (hs : starEach [e, e2] X.env = (false, eval e X.env) :: starEach [e2] X.env := by rfl) (hpl : (backTo pos2 (starEach [e2] X.env)).any (·.1) = false := by rfl)
    (na : starEach [.Call (.Name "zip" p2) [e, e2] [] pos2] X.env = (false, eval (.Call (.Name "zip" p2) [e, e2] [] pos2) X.env) :: starEach [] X.env := by rfl) :
    PE X (.Call (.Name "list" p) [.Call (.Name "zip" p2) [e, e2] [] pos2] [] pos) (tLstZip X.K ta) := by
  refine ⟨fun pins s σ H Q I h => ?_⟩
  refine Call_ (ld_blt I hg hm boot_list (PyProof.Rows.callWith_type1 (PyProof.Rows.args_cons ?_ na) na))
  refine Call_ (ld_blt I hg2 hm2 PyProof.Rows.boot_zip (PyProof.Rows.callWith_type1 (thn (ha.run pos2 pins s σ H _ I h) fun us s1 ⟨vs, H1, I1, r1, q1⟩ => ?_) hs hpl))
  obtain ⟨a, b, xs, ys, ex, hq, hlen, hsz, q⟩ := q1
  subst ex
  cases r1 with
  | cons r rr =>
    cases rr with
    | cons r' rr =>
      cases rr
      cases r
      cases r'
      rcases hq with ⟨hqx, hqy⟩ | ⟨hqx, hqy⟩
      · obtain ⟨its, rv, p1, _⟩ := I1.tuple hqx
        obtain ⟨its2, rv2, p3, _⟩ := I1.tuple hqy
        have la : a < s1.heap.objs.size := let ⟨_, w, _⟩ := p1; Heap.lt_size w
        have lb : b < s1.heap.objs.size := let ⟨_, w, _⟩ := p3; Heap.lt_size w
        refine RZ.call_zipT (show s1.heap.IsTuple a its.toArray from p1) (show s1.heap.IsTuple b its2.toArray from p3) fun h' hz hTI hTO h1 h2 hsz5 hk => PyProof.Rows.args_nil ?_
        exact listZip_tail I1 rv rv2 hlen hsz la lb (I1.ok.hd hc) (fun A' hh' => Draws.tuple hh' _ a (Nat.ne_of_lt la) its.toArray) (fun A' hh' => Draws.tuple hh' _ b (Nat.ne_of_lt (Nat.lt_succ_of_lt lb)) its2.toArray) hz hTI hTO ⟨h1, (show s1.heap.IsTuple a its.toArray from p1).at fun o e => hk a o e⟩ ⟨h2, (show s1.heap.IsTuple b its2.toArray from p3).at fun o e => hk b o e⟩ hsz5 hk q
      · obtain ⟨its, rv, p1, _⟩ := I1.list hqx
        obtain ⟨its2, rv2, p3, _⟩ := I1.list hqy
        have la : a < s1.heap.objs.size := let ⟨_, w, _⟩ := p1.isList; Heap.lt_size w
        have lb : b < s1.heap.objs.size := let ⟨_, w, _⟩ := p3.isList; Heap.lt_size w
        refine call_zip_2 p1.isList p3.isList fun h' hz hTI hTO h1 h2 hsz5 hk => PyProof.Rows.args_nil ?_
        exact listZip_tail I1 rv rv2 hlen hsz la lb (I1.ok.hd hc) (fun A' hh' => Draws.list hh' _ a (Nat.ne_of_lt la) its.toArray) (fun A' hh' => Draws.list hh' _ b (Nat.ne_of_lt (Nat.lt_succ_of_lt lb)) its2.toArray) hz hTI hTO ⟨h1, p1.isList.at fun o e => hk a o e⟩ ⟨h2, p3.isList.at fun o e => hk b o e⟩ hsz5 hk q
section
variable {X : Cx} {K : PySem.W.Frag} (hK : X.K = K)
include hK
theorem k_listZip {e e2 : Expr} {ta : TA} {p pos p2 pos2 : Pos} (hc : X.calm = true) (hg : Gl X "list") (hm : X.mg "list" = none) (hg2 : Gl X "zip") (hm2 : X.mg "zip" = none) (ha : PA X [e, e2] ta)
    (hs : starEach [e, e2] X.env = (false, eval e X.env) :: starEach [e2] X.env := by rfl) (hpl : (backTo pos2 (starEach [e2] X.env)).any (·.1) = false := by rfl)
    (na : starEach [.Call (.Name "zip" p2) [e, e2] [] pos2] X.env = (false, eval (.Call (.Name "zip" p2) [e, e2] [] pos2) X.env) :: starEach [] X.env := by rfl) :
    PE X (.Call (.Name "list" p) [.Call (.Name "zip" p2) [e, e2] [] pos2] [] pos) (tLstZip K ta) := hK ▸ pe_listZip hc hg hm hg2 hm2 ha hs hpl na
end
section
variable {c : Ct} {H H' : Hp} {Γ : List (Option Rs)} {tr : TA} {ds es : List PyData} {kv : Bool}
theorem bo_of : ∀ {vs : List V} {ds : List PyData}, vs.length = ds.length → (∀ (j : Nat) (v : V) (d : PyData), vs[j]? = some v → ds[j]? = some d → Bo c H v d) → BoAll c H vs ds
  | [], [], _, _ => .nil
  | v :: vs, d :: ds, hl, h => .cons (h 0 v d rfl rfl) (bo_of (by simpa using hl) fun j v d a b => h (j + 1) v d (by simpa using a) (by simpa using b))
  | [], _ :: _, hl, _ => by simp at hl
  | _ :: _, [], hl, _ => by simp at hl
def zipTs (ds es : List PyData) : List PyData := (ds.zip es).map fun p => .tuple [p.1, p.2]
theorem zipTs_flat (hd : flatAll ds = true) (he : flatAll es = true) : flatAll (zipTs ds es) = true := flatAll_mem fun d hd' => by
  obtain ⟨p, hp, rfl⟩ := List.mem_map.mp hd'
  have h1 := flatAll_one hd (List.of_mem_zip hp).1
  have h2 := flatAll_one he (List.of_mem_zip hp).2
  simp [flatD, flatAll, h1, h2]
theorem e_listZip (h : EvA c tr Γ true [.tuple ds, .tuple es]) (hd : flatAll ds = true) (he : flatAll es = true) (hl : es.length = ds.length ∨ es.length + 1 = ds.length) (hs : ds.length ≤ 1000000) : Ev c (tLstZip c.K tr) Γ .o (.list (zipTs ds es)) := fun H0 O H σ e Q q =>
  h H0 O H σ e _ fun vs H1 r s => by
    obtain ⟨va, vb, rfl, ba, bb⟩ := s.two
    have ba' : Bo c H1 va (.tuple ds) := Bo.same mns_same ba
    have bb' : Bo c H1 vb (.tuple es) := Bo.same mns_same bb
    obtain ⟨a, xs, rfl, sa, al⟩ := ba'.tup'
    obtain ⟨b, ys, rfl, sb, bl⟩ := bb'.tup'
    have l1 := al.len
    have l2 := bl.len
    refine ⟨a, b, xs, ys, rfl, .inl ⟨sa.sq, sb.sq⟩, by omega, by rw [l1]; exact sizeOk hs, fun ts H' p h1 h2 h3 h4 h5 => ?_⟩
    have sm1 : Same H1 H' := fun b u z => h3 b u z
    have sm2 : Same H' (upd H' p (.lst (ts.map V.ref))) := fun b u z => by rw [upd_ne (ne_of_none z h4)]; exact z
    refine q _ _ (r.tr ((Rr.same sm1).tr (Rr.same sm2))) ⟨[p], .lst upd_same (FoAll.leaves (zipTs_flat hd he) (bo_of (by simp [zipTs]; omega) fun j v d hv hd' => ?_)), by simp, fun a ha => ?_⟩
    · rw [List.getElem?_map] at hv
      obtain ⟨t, ht, rfl⟩ := Option.map_eq_some_iff.mp hv
      have hj := (List.getElem?_eq_some_iff.mp ht).1
      have hx : xs[j]? = some xs[j] := List.getElem?_eq_getElem (by omega)
      have hy : ys[j]? = some (ys[j]'(by omega)) := List.getElem?_eq_getElem (by omega)
      obtain ⟨o, ho, ht'⟩ := h2 j t _ _ ht hx hy
      obtain ⟨dx, gx, bx⟩ := al.get hx
      obtain ⟨dy, gy, bY⟩ := bl.get hy
      have ed : d = .tuple [dx, dy] := by
        unfold zipTs at hd'
        rw [List.getElem?_map] at hd'
        obtain ⟨pq, hpq, e1⟩ := Option.map_eq_some_iff.mp hd'
        have := List.getElem?_zip_eq_some.mp hpq
        rw [gx, gy] at this
        rw [← e1]
        have h1 := Option.some.inj this.1
        have h2 := Option.some.inj this.2
        rw [h1, h2]
      subst ed
      exact .tup (.inl ⟨o, ho, sm2 _ _ ht'⟩) (.cons ((bx.same sm1).same sm2) (.cons ((bY.same sm1).same sm2) .nil))
    · cases List.mem_singleton.mp ha
      exact r.back e.jH h5
end
end Lm


/-! flows: how many buckets go from each variant to each -/
namespace Lm
open PySem PySem.Spec PyProof.Rows L2
variable {v : Int} {f g : List Int} {z : List (Int × Int)}
def cntP (z : List (Int × Int)) (o n : Int) : Int := ((z.count (o, n) : Nat) : Int)
def rowI (z : List (Int × Int)) (v o : Int) : List Int := (upI 0 v.toNat).map fun n => cntP z o n
def flD (z : List (Int × Int)) (v : Int) : PyData := .tuple ((upI 0 v.toNat).map fun o => tupD (rowI z v o))
def sp_flows (K : PySem.W.Frag) : Sp := spD K fun ds k d => ∃ (f g : List Int) (v : Int), ds = [.tuple (f.map .int), .tuple (g.map .int), .int v] ∧ Asg f v ∧ Asg g v ∧ f.length = g.length ∧ 1 ≤ v ∧ v ≤ 5 ∧ k = .v ∧ d = flD (f.zip g) v
theorem fl_flatAll (z : List (Int × Int)) (v : Int) : flatAll ((upI 0 v.toNat).map fun o => tupD (rowI z v o)) = true := flatAll_mem fun d hd => by
  obtain ⟨o, _, rfl⟩ := List.mem_map.mp hd
  exact flatT _
theorem zipTs_ints : ∀ f g : List Int, zipTs (f.map .int) (g.map .int) = ((f.zip g).map fun p => [p.1, p.2]).map tupD
  | [], _ => rfl
  | _ :: _, [] => rfl
  | a :: f, b :: g => by
    have := zipTs_ints f g
    unfold zipTs at this ⊢
    simp only [List.map_cons, List.zip_cons_cons]
    rw [this]
    rfl
theorem cnt_eq (f g : List Int) (o n : Int) : (((zipTs (f.map .int) (g.map .int)).countP (fun z => PyData.eqv z (.tuple [.int o, .int n])) : Nat) : Int) = cntP (f.zip g) o n := by
  rw [zipTs_ints, List.map_map, List.countP_map]
  unfold cntP List.count
  congr 2
  funext p
  have := eqvT [p.1, p.2] [o, n]
  show PyData.eqv (.tuple ([p.1, p.2].map .int)) (.tuple ([o, n].map .int)) = (p == (o, n))
  rw [this, Bool.eq_iff_iff, decide_eq_true_iff, beq_iff_eq]
  obtain ⟨a, b⟩ := p
  simp
end Lm
namespace Lm
open PySem PySem.Spec PyProof.Rows L2
end Lm


/-! slices of tuples or lists, a range kept in a name, enumerate of a new list -/
namespace Lm
open PySem PySem.Spec PyProof.Rows L2
def rSlU (K : PySem.W.Frag) : V → Option Int → Option Int → Hp → VK → Prop := fun x lo hi H Q => rSlN K x lo hi H Q ∨ rSlL K x lo hi H Q
section
variable {X : Cx} {tg : Expr}
end
section
variable {X : Cx} {K : PySem.W.Frag} (hK : X.K = K)
include hK
theorem k_slU : SlR X (rSlU K) := by
  subst hK
  intro pins s σ H x v vl vu lo hi sl Q I rx hs pl pu h
  rcases h with h | h
  · exact sl_tupN pins s σ H x v vl vu lo hi sl Q I rx hs pl pu h
  · exact sl_list pins s σ H x v vl vu lo hi sl Q I rx hs pl pu h
end
section
variable {c : Ct} {H H' H0 H1 H2 H3 : Hp} {O : List Addr} {Γ Γ' Γ1 : List (Option Rs)}
variable {te ta tb tx : TE} {tl th : TO} {k ka kb : Kd} {d x y z : PyData} {i j : Int} {a b : Bool} {ds es : List PyData} {u : TS} {P : Out → Prop} {n : Nat} {kv : Bool} {tr : TA}
theorem i_enumLO (h : Ev c te Γ k (.list ds)) (hk : k ≠ .b) : EvI c (iEnumA c.K (tCons te tNil)) Γ true (enumI ds) := fun H0 O H σ e R q =>
  h H0 O H σ e _ fun v H1 r s => by
    obtain ⟨p, xs, rfl, kp, sl, al⟩ := (Res.frozen e r s hk).lst'
    exact ⟨p, xs, rfl, .inl ⟨mns_same.seq sl, q _ H1 r (enum_core (e.on r).j (walk_enum.mono (fun H h => h.lst kp sl) fun _ _ _ _ _ _ y => y) al (.inl rfl))⟩⟩
end
end Lm


/-! series of allocations: their steps, losses, turns -/
namespace Lm
open PySem PySem.Spec PyProof.Rows L2
structure Ser (A : List (List Int)) (v b : Int) : Prop where
  l1 : 1 ≤ A.length
  l2 : A.length ≤ 10
  alc : ∀ a ∈ A, Alc a v b
  v1 : 1 ≤ v
  v5 : v ≤ 5
  b20 : b ≤ 20
variable {A : List (List Int)} {v b : Int}
theorem Ser.len (h : Ser A v b) : ∀ a ∈ A, a.length = v.toNat := fun a ha => by have := (h.alc a ha).len; omega
end Lm


/-! series: the promises -/
namespace Lm
open PySem PySem.Spec PyProof.Rows L2
section
variable {c : Ct} {H H' H0 H1 H2 H3 : Hp} {O : List Addr} {Γ Γ' Γ1 : List (Option Rs)}
variable {te ta tb tx : TE} {k ka kb : Kd} {d x y z : PyData} {ds es : List PyData} {u : TS} {P : Out → Prop} {n : Nat}
end
theorem fl_rows (A : List (List Int)) : flatAll (A.map tupD) = true := flatAll_mem fun d hd => by
  obtain ⟨r, _, rfl⟩ := List.mem_map.mp hd
  exact flatT r
end Lm
namespace Lm
open PySem PySem.Spec PyProof.Rows L2
theorem i_seqL' {c : Ct} {Γ : List (Option Rs)} {tl : TE} {k : Kd} {ds : List PyData} {items : List Im} (h : Ev c tl Γ k (.list ds)) (hk : k ≠ .b) (e : ds.map Im.d = items) : EvI c (iSeq c.K tl) Γ true items := e ▸ i_seqL h hk
theorem i_enumL' {c : Ct} {Γ : List (Option Rs)} {te : TE} {k : Kd} {ds : List PyData} {items : List Im} (h : Ev c te Γ k (.list ds)) (hk : k ≠ .b) (e : enumI ds = items) : EvI c (iEnumA c.K (tCons te tNil)) Γ true items := e ▸ i_enumLO h hk
end Lm
namespace Lm
open PySem PySem.Spec PyProof.Rows L2
end Lm
namespace Lm
open PySem PySem.Spec PyProof.Rows L2
end Lm
namespace Lm
open PySem PySem.Spec PyProof.Rows L2
theorem i_rng1' {c : Ct} {Γ : List (Option Rs)} {tr : TA} {kv : Bool} {n : Int} {m : Nat} (h : EvA c tr Γ kv [.int n]) (hn : n ≤ 1000000) (hn' : -1000000 ≤ n) (e : n.toNat = m) : EvI c (iRng1 tr) Γ true ((upI 0 m).map fun i => Im.d (.int i)) := e ▸ i_rng1 h hn hn'
end Lm


/-! lists that hold lists of one's own; any item of a list handed back; forms of any data -/
namespace Lm
open PySem PySem.Spec PyProof.Rows L2
section
variable {c : Ct} {H H' H0 H1 H2 H3 : Hp} {O : List Addr} {Γ Γ' Γ1 : List (Option Rs)}
variable {te ta tb tx : TE} {k ka kb kx : Kd} {d x y z : PyData} {ds es : List PyData} {u : TS} {P : Out → Prop} {n : Nat} {tr : TA} {i : Int}
/-- any item of a list handed in -/
def sp__law_pick (K : PySem.W.Frag) : Sp := fun vs H Q _ => ∃ (st l p : Addr) (xs : List V), vs = [.ref st, .ref p] ∧ Str1 K st l H ∧ SqL K H p xs ∧ p ≠ st ∧ 0 < xs.length ∧ xs.length ≤ 1000 ∧ ∀ (i : Nat) (v : V) (H' : Hp), xs[i]? = some v → Rr (sc K st l) H H' → Q v H'
end
/-- each value once -/
def dd : List Int → List Int
  | [] => []
  | n :: l => if n ∈ l then dd l else n :: dd l
theorem mem_dd {m : Int} : ∀ {l : List Int}, m ∈ dd l ↔ m ∈ l
  | [] => by simp [dd]
  | n :: l => by
    unfold dd
    split
    · rename_i h
      rw [mem_dd, List.mem_cons]
      exact ⟨.inr, fun w => w.elim (fun z => z ▸ h) id⟩
    · rw [List.mem_cons, List.mem_cons, mem_dd]
theorem nd_dd : ∀ {l : List Int}, (dd l).Nodup
  | [] => List.nodup_nil
  | n :: l => by
    unfold dd
    split
    · exact nd_dd
    · rename_i h
      exact List.nodup_cons.mpr ⟨fun w => h (mem_dd.mp w), nd_dd⟩
theorem dd_self : ∀ {l : List Int}, l.Nodup → dd l = l
  | [], _ => rfl
  | n :: l, h => by
    have h' := List.nodup_cons.mp h
    unfold dd
    rw [if_neg h'.1, dd_self h'.2]
def ddN : PyData → Nat
  | .tuple ds => (dd (ds.map Lm.intD)).length
  | _ => 0
def isOrdB (x : PyData) (m : Int) : Bool := areInts x 0 (m - 1) && (decide ((lenT x : Int) = m) && decide ((ddN x : Int) = m))
def sp_is_orderD (K : PySem.W.Frag) : Sp := spD K fun ds k d => ∃ x m, ds = [x, .int m] ∧ SmallT x ∧ m ≤ 1000 ∧ k = .v ∧ d = .bool (isOrdB x m)
theorem ordB_ints (ns : List Int) (m : Int) : isOrdB (.tuple (ns.map .int)) m = (areInts (.tuple (ns.map .int)) 0 (m - 1) && (decide ((ns.length : Int) = m) && decide (((dd ns).length : Int) = m))) := by
  have e : (ns.map PyData.int).map Lm.intD = ns := by
    rw [List.map_map]
    exact List.map_id ns
  unfold isOrdB
  rw [lenT_ints]
  show (_ && (_ && decide (((dd ((ns.map PyData.int).map Lm.intD)).length : Int) = m))) = _
  rw [e]
theorem IsOrd.isB {ns : List Int} {m : Int} (h : IsOrd ns m) : isOrdB (.tuple (ns.map .int)) m = true := by
  rw [ordB_ints, areInts_of fun n hn => ⟨(h.rng n hn).1, by have := (h.rng n hn).2; omega⟩, dd_self h.nd, h.len]
  simp
end Lm
namespace Lm
open PySem PySem.Spec PyProof.Rows L2
section
variable {c : Ct} {Γ : List (Option Rs)} {t u w : TS} {P : Out → Prop}
end
end Lm
namespace Lm
open PySem PySem.Spec PyProof.Rows L2
theorem s_seqE {c : Ct} {Γ : List (Option Rs)} {t u : TS} {P : Out → Prop} (I : List (Option Rs) → Prop) (h : Sd c t Γ (fun o => ∃ Γ3, o = .nx Γ3 ∧ I Γ3)) (hd : ∀ Γ3, I Γ3 → Sd c u Γ3 P) : Sd c (tSeq t u) Γ P :=
  s_seq h (fun _ e => by obtain ⟨Γ3, e, i⟩ := e; cases e; exact hd _ i) (fun _ _ e => by obtain ⟨_, e, _⟩ := e; cases e) (fun _ e => by obtain ⟨_, e, _⟩ := e; cases e) (fun _ e => by obtain ⟨_, e, _⟩ := e; cases e)
end Lm


/-! defs that raise: promises with a second half -/
namespace Lm
open PySem PySem.Spec PyProof.Rows L2
section
variable {P : Program} {w : World} {K : PySem.W.Frag} {mg : Str → Option Value} {base : Heap} {k : Nat} {f : Addr} {fd : FuncData} {ps : List Str} {sp : Sp} {x : Str} {CX : CXT}
/-- what never raises does so in any context -/
theorem fn_up0 (F : FnOk P w K mg base CX0 k f fd ps sp) : FnOk P w K mg base CX k f fd ps sp :=
  ⟨F.len, fun A outer s H args us vs Q E hr he hb hv hs => codeAny_mono (F.run A outer s H args us vs Q E hr he hb hv hs) fun r s' h => by
    cases r with
    | ok fl => cases fl <;> exact h
    | error e => exact False.elim h⟩
theorem cal_up0 (F : Cal P w K mg base CX0 k x ps sp) : Cal P w K mg base CX k x ps sp := by
  obtain ⟨f, fd, F1, F2⟩ := F.ok
  exact ⟨f, fd, fn_up0 F1, F2⟩
end
/-- __init__ of an exception that keeps a text at x -/
def spIni (C : Addr) (x : Str) : Sp := fun vs H Q _ => ∃ (a : Addr) (nm : Str), vs = [.ref a, .str nm] ∧ nm.length ≤ 1000 ∧ H a = some (exo a C none) ∧ ∀ dx, H dx = none → dx ≠ a → Q .non (upd (upd H dx (exd dx [(x, .str nm)])) a (exo a C (some dx)))
/-- it holds, or the name is raised -/
def spReq (C : Addr) : Sp := fun vs H Q E => ∃ (b : Bool) (nm : Str), vs = [.bl b, .str nm] ∧ nm.length ≤ 1000 ∧ (b = true → Q .non H) ∧ (b = false → ∀ dx, H dx = none → E (.ref C) (some dx) (upd H dx (.xd [("name", .str nm)])))
theorem upd_end {H : Hp} {a dx : Addr} {o o2 o3 : HO} {u : HO} (ha : H a = none) (hd : dx ≠ a) : upd (del (upd (upd (upd H a o) dx o2) a o3) a) dx u = upd H dx u := by
  funext b
  by_cases h1 : b = dx
  · subst h1; rw [upd_same, upd_same]
  · rw [upd_ne h1, upd_ne h1]
    by_cases h2 : b = a
    · subst h2; rw [del_same, ha]
    · rw [del_ne h2, upd_ne h2, upd_ne h1, upd_ne h2]
/-- raise C(e) where e is a text -/
theorem mkO_req {C : Addr} {ta : TE} {σ : L2.St} {H : Hp} {Q : XK} {nm : Str} (hz : nm.length ≤ 1000) (h : ∀ Q' : VK, Q' (.str nm) H → ta σ H Q') (q : ∀ dx, H dx = none → Q (.ref C) (some dx) (upd H dx (.xd [("name", .str nm)]))) :
    tMkO C (spIni C "name") [] (tCons ta tNil) σ H Q := by
  refine h _ ⟨by simp, fun a ha => ⟨a, nm, rfl, hz, upd_same, fun dx hdx hne => ⟨rfl, dx, [("name", .str nm)], upd_same, ?_, ?_, ?_⟩⟩⟩
  · rw [upd_ne hne, upd_same]
  · rw [upd_ne hne] at hdx; exact hdx
  · rw [upd_ne hne] at hdx
    rw [upd_end ha hne]
    exact q dx hdx
end Lm
namespace Lm
open PySem PySem.Spec PyProof.Rows L2
section
variable {P : Program} {w : World} {K : PySem.W.Frag} {mg : Str → Option Value} {base : Heap} {k : Nat} {f : Addr} {fd : FuncData} {ps : List Str} {sp : Sp}
/-- nothing gets out of it -/
theorem fn_down0 (h : ∀ vs H Q E, sp vs H Q E → sp vs H Q E0) (F : FnOk P w K mg base (L2.CX P w) k f fd ps sp) : FnOk P w K mg base CX0 k f fd ps sp :=
  ⟨F.len, fun A outer s H args us vs Q E hr he hb hv hs => codeAny_mono (F.run A outer s H args us vs Q E0 hr he hb hv (h _ _ _ _ hs)) fun r s' h => by
    cases r with
    | ok fl => cases fl <;> exact h
    | error e =>
      obtain ⟨_, _, _, _, _, _, _, _, _, _, _, _, z⟩ := h
      exact z.elim⟩
end
end Lm
namespace Lm
open PySem PySem.Spec PyProof.Rows L2
section
variable {c : Ct} {H0 : Hp} {Γ : List (Option Rs)} {te : TE} {u : TS} {k : Kd} {d : PyData} {n : Nat}
/-- a body that ends in a raise: whatever stands behind -/
def SdX (c : Ct) (H0 : Hp) (t : TS) (Γ : List (Option Rs)) : Prop := ∀ O H σ D, Env c H0 O H σ Γ → t D σ H
theorem x_drop (h : Ev c te Γ k d) (p : SdX c H0 u Γ) : SdX c H0 (tSeq (tDrop te) u) Γ := fun O H σ D e => h H0 O H σ e _ fun v H2 r q => p O H2 σ D (e.on r)
theorem x_asg (h : Ev c te Γ .v d) (p : SdX c H0 u (Γ.set n (some (.v d)))) : SdX c H0 (tSeq (tAsg te (gName n)) u) Γ := fun O H σ D e => h H0 O H σ e _ fun v H2 r q => p _ H2 _ D ((e.on r).setV q)
theorem x_req {K : PySem.W.Frag} {C : Addr} {nm : Str} {E : XK} (hz : nm.length ≤ 1000) (hE : ∀ dx H1, Same H0 H1 → H1 dx = some (.xd [("name", .str nm)]) → E (.ref C) (some dx) H1) (h : Ev (pc K) te Γ k (.bool false)) : SdX (pc K) H0 (tSeq (tDrop (tCall (spReq C) [] E (tCons te (tCons (tC (.str nm)) tNil)))) u) Γ := fun O H σ D e =>
  h H0 O H σ e _ fun v H1 r s => ⟨false, nm, by rw [(Res.bo e s).bl']; rfl, hz, (fun w => nomatch w), fun _ dx hdx => hE dx _ (fun a o z => by
    have z1 : H1 a = some o := (e.rH.tr r).1 a o (fun _ _ w => nomatch w) z
    rw [upd_ne (ne_of_none z1 hdx)]
    exact z1) upd_same⟩
end
end Lm


/-! __init__ of an exception class two below ValueError: super().__init__(..) and what stands behind it -/
namespace PySem.W
open PySem PySem.Calls PyProof.Rows PyProof.V PySem.Spec
theorem call_mwr {prog : Program} {w : World} {A : Around} {E : Value → Shared → Prop} {h : Heap} {g : Array GenState} {d : Drawn} {t : Nat} {os : OsState} {nm q : Str} {C N u e t0 : Addr} {bs bm bmB : List Value} {hdct : Bool} {sn : List Str} {sub : List Value} {ab : Bool} {col : Option Bool} {dd dv : Option Addr}
    {k0 k1 k2 k3 k5 : Option Value} {c2 : Value} {B newId i : String} {rest : List Value} {Q : Value → Shared → Prop} (FB : ExcBaseFacts B newId i bmB) (hC : h.get? C = some (excClassObj nm q C N bs bm hdct sn sub ab col dd k0 k1 k2 k3 k5 newId))
    (he : h.get? e = some (excObj C t0 dv c2)) (hu : h.get? u = some (kxs_mw i e)) (hz : rest.length ≤ sizeLine)
    (fin : ∀ h', (∀ b o, b ≠ e → h.get? b = some o → h'.get? b = some o) → h'.get? e = some (excObj C h.objs.size dv c2) → Q .none ⟨h', g, d, t, os⟩) : wpAny (model prog w) A (call (.ref u) rest) Q E ⟨h, g, d, t, os⟩ := by
  refine wpAny_call (codeAny_of_tree ?_)
  show wpAny _ A.in1 (callAny (.ref u) ⟨rest, []⟩) _ _ _
  simp only [callAny]
  refine wpAny_bind (wpAny_load hu ?_)
  simp only [kxs_mw, show (Value.type "method-wrapper" == Value.type "method" || Value.type "method-wrapper" == Value.type "builtin_function_or_method" || Value.type "method-wrapper" == Value.type "method-wrapper") = true by decide, if_true]
  refine KFB.if_so (by decide) ?_
  refine wpAny_bind (check_bound_init FB.toExcCallFacts hC he rfl ?_)
  refine wpAny_bind (wpAny_pure (wpAny_pure ?_))
  refine ⟨plainId_quiet FB.init.plain _, codeAny_builtin FB.initEntry ?_⟩
  exact exc_init_tree (cls := .ref C) (t0 := t0) (dv := dv) (c2 := c2) (c3 := .none) (b4 := .bool false) he hz fun h' k e' _ => fin h' k e'
end PySem.W
namespace Lm
open PySem PySem.Spec PyProof.Rows L2
/-- the context of such a def's body: the class's cell is free in it -/
def cxF (CX : CXT) (P : Program) (w : World) (K : PySem.W.Frag) (mg : Str → Option Value) (base : Heap) (N : List Str) (qual : Str) (scope : Scope) (f : Addr) (cd : Value) (cc : Addr) (A : Around) (outer : List PySem.Env) (s : Shared) (H : Hp) (E : XK) : Cx where
  prog := P
  w := w
  K := K
  mg := mg
  base := base
  A := A.deeper (PySem.W.ksEnv qual scope s.heap.objs.size f cd cc)
  N := N
  s_0 := s
  H_0 := H
  env := PySem.W.ksEnv qual scope s.heap.objs.size f cd cc
  outer := outer
  stack := PySem.W.ksEnv qual scope s.heap.objs.size f cd cc :: outer
  ex := []
  calm := true
  fn := fun _ => false
  pn := []
  xe := fun e s' => wpAny (model P w) (A.deeper (PySem.W.ksEnv qual scope s.heap.objs.size f cd cc)) (leaving (PySem.W.ksEnv qual scope s.heap.objs.size f cd cc) e) (fun _ s'' => CX outer H s E e s'') (fun e' s'' => CX outer H s E e' s'') s'
/-- its scope -/
structure IniScope (N P : List Str) (sc : Scope) : Prop where
  kind : sc.kind = .function
  co : sc.isCoroutine = false
  gen : sc.isGenerator = false
  nd : N.Nodup
  pre : N.take P.length = P
  par : ∀ x ∈ P, sc.names.lookup x = some .local
  nocell : ∀ y ∈ sc.names, y.2 ≠ .cell
  free : ∀ y ∈ sc.names, y.2 = .free → y.1 = "__class__"
  sup : sc.names.lookup ("super" : Str) = some .globalImplicit
  cls : sc.names.lookup ("__class__" : Str) = some .free
theorem lookup_mem : ∀ {l : List (Str × Value)} {x : Str} {v : Value}, (l.map (·.1)).Nodup → (x, v) ∈ l → l.lookup x = some v
  | [], _, _, _, h => nomatch h
  | (y, u) :: l, x, v, nd, h => by
    have nd' := List.nodup_cons.mp nd
    by_cases e : x = y
    · subst e
      rcases List.mem_cons.mp h with z | z
      · cases z; simp [List.lookup]
      · exact absurd (List.mem_map_of_mem (f := (·.1)) z) nd'.1
    · have e' : (x == y) = false := by simpa using e
      rcases List.mem_cons.mp h with z | z
      · cases z; exact absurd rfl e
      · simp only [List.lookup, e']
        exact lookup_mem nd'.2 z
theorem cell1 {x : Str} {c cc : Addr} (h : [(("__class__" : Str), cc)].lookup x = some c) : x = "__class__" ∧ c = cc := by
  by_cases e : x = "__class__"
  · subst e
    exact ⟨rfl, (Option.some.inj (by simpa [List.lookup] using h)).symm⟩
  · have e' : (x == ("__class__" : Str)) = false := by simpa using e
    simp [List.lookup, e'] at h
theorem inv_startF {CX : CXT} {P : Program} {w : World} {K : PySem.W.Frag} {mg : Str → Option Value} {base : Heap} {N ps : List Str} {qual : Str} {scope : Scope} {f cc : Addr} {cd : Value} {A : Around} {outer : List PySem.Env} {s : Shared} {h1 : Heap} {tk : Nat} {H : Hp} {E : XK} {us : List Value} {vs : List V} {cl : Value} {cld : Option Addr} {cv : Option Value} {csl : Array (Option Value)}
    (S : IniScope N ps scope) (hcell : K.lookup cc = some ⟨cl, cld, .cell cv, csl⟩) (hd : A.handled = none) (e0 : Env0 P w K mg base A outer s H) (hl : vs.length = ps.length) (r : Vals vs us)
    (hns : h1.Ns s.heap.objs.size (fun x => (ps.zip us).reverse.lookup x)) (hk : ∀ b o, s.heap.get? b = some o → h1.get? b = some o) :
    Inv (cxF CX P w K mg base N qual scope f cd cc A outer s H E) [] (L2.start N vs) H { s with heap := h1, toks := tk } := by
  have hpl : ps.length ≤ N.length := by have := congrArg List.length S.pre; rw [List.length_take] at this; omega
  have hb : base.get? cc = some ⟨cl, cld, .cell cv, csl⟩ := e0.mod.kin _ _ hcell
  have hs := e0.bs _ _ hb
  have noA : ∀ b : Addr, b ∉ (cxF CX P w K mg base N qual scope f cd cc A outer s H E).ex := fun b z => absurd (show b ∈ ([] : List Addr) from z) (by simp)
  refine ⟨⟨e0.mod, S.kind, rfl, rfl, Nat.le_refl _, fun y z c p q => ((cell1 p).1.trans (cell1 q).1.symm), fun y hy => ?_, fun y c z _ => (nomatch z), fun _ => hd, Around.frames_deeper e0.frames, .inr ⟨rfl, rfl⟩, fun b z => absurd z (noA b), e0.bs, e0.bsz, fun b _ _ => noA b, fun b z => absurd z (noA b), e0.funs, e0.frf⟩,
    rfl, e0.bare, Un.kept hk, ⟨_, hns, fun i y v p q z => ?_⟩, fun y c z => ?_, e0.hok.fresh (Nat.le_refl _), fun y c z => ?_, fun p hp => absurd (show p ∈ ([] : List (Addr × Obj)) from hp) (by simp), e0.hok.kept hk, ?_⟩
  · have hy : scope.names.lookup y = some .cell ∨ scope.names.lookup y = some .free := hy
    rcases hy with hy | hy
    · exact absurd rfl (S.nocell _ (PySem.mem_of_lookup hy))
    · have e := S.free _ (PySem.mem_of_lookup hy) rfl
      exact ⟨cc, by
        have e' : y = "__class__" := e
        subst e'
        show [(("__class__" : Str), cc)].lookup ("__class__" : Str) = some cc
        simp [List.lookup]⟩
  · have hi : i < vs.length := by
      unfold L2.start at q
      by_cases hi : i < vs.length
      · exact hi
      · rw [List.getElem?_append_right (by simpa using hi), List.getElem?_replicate] at q
        split at q <;> cases q
    have ha : vs[i]? = some v := by
      unfold L2.start at q
      rw [List.getElem?_append_left (by simpa using hi), List.getElem?_map] at q
      cases e : vs[i]? with
      | none => rw [e] at q; cases q
      | some a => rw [e] at q; cases q; rfl
    obtain ⟨u, hu, rv⟩ := r.get ha
    have hp : ps[i]? = some y := by
      rw [← S.pre, List.getElem?_take_of_lt (by omega)]; exact p
    have ndP : ps.Nodup := by rw [← S.pre]; exact S.nd.sublist (List.take_sublist _ _)
    have ml : (y, u) ∈ ps.zip us := by
      have : (ps.zip us)[i]? = some (y, u) := by rw [List.getElem?_zip_eq_some]; exact ⟨hp, hu⟩
      exact List.mem_of_getElem? this
    have lz : us.length = ps.length := by rw [← hl, Paired.length r]
    refine ⟨u, rv, .inl ⟨S.par y (List.mem_of_getElem? hp), lookup_mem ?_ (List.mem_reverse.mpr ml)⟩⟩
    rw [List.map_reverse, List.map_fst_zip (by omega)]
    exact (List.reverse_perm ps).nodup_iff.mpr ndP
  · obtain ⟨_, rfl⟩ := cell1 z
    exact ⟨cv, _, hk _ _ hs.1, rfl⟩
  · obtain ⟨_, rfl⟩ := cell1 z
    exact hs.2
  · unfold L2.start
    show _ = N.length
    rw [List.length_append, List.length_map, List.length_replicate]
    omega

theorem super_boot : bootBuiltins "super" = some (.type "super") := by first | rfl | decide +kernel
/-- THE RULE: super().__init__(e), then the rest of the body -/
theorem fn_super {CX : CXT} {P : Program} {w : World} {K : PySem.W.Frag} {mg : Str → Option Value} {base : Heap} {k : Nat} {f C cc cda : Addr} {name qual : Str} {params : Arguments} {scope : Scope} {dV kV doc pm ct oc : Value} {an od : Option Addr} {osl : Array (Option Value)} {N ps : List Str} {sp : Sp}
    {p0 p1 p2 p3 p4 : Pos} {e : Expr} {rest : List Stmt} {ar : Arg} {vs : Array Value} {file : Str} {tf : Tok} {ccl cl : Value} {cdd cld : Option Addr} {ccs csl : Array (Option Value)}
    (lk : K.lookup f = some ⟨oc, od, .func (PySem.W.ksFn name qual params (.Expr (.Call (.Attribute (.Call (.Name "super" p0) [] [] p1) "__init__" p2) [e] [] p3) p4 :: rest) scope dV kV doc pm an (.ref cda) ct cc), osl⟩)
    (hcd : PySem.W.codeIn K (.ref cda) qual = true) (S : IniScope N ps scope) (hp : (params.posonlyargs ++ params.args).head? = some ar) (h0 : ps[0]? = some ar.arg)
    (hcode : K.lookup cda = some ⟨ccl, cdd, .fields vs, ccs⟩) (hvs : vs[2]? = some (.str file tf)) (hfile : ((P.main.file : Str) == file) = true) (hcell : K.lookup cc = some ⟨cl, cld, .cell (some (.ref C)), csl⟩)
    (T : OexC K C) (hsuper : mg "super" = none) (hsub : PySem.W.subIn K (.ref C) (.type "ValueError") = some true) (hop : PySem.W.nsIn K cStatics "thirdparty.any" = some none)
    (hm : PySem.W.ks_superIn K C C "__init__" = some (some (.builtin "ValueError.__init__"))) (htop : (P.main.scope.names.lookup ("super" : Str)).isSome = false)
    (len : ∀ vs H Q E, sp vs H Q E → vs.length = ps.length)
    (hbody : ∀ (A : Around) (outer : List PySem.Env) (s : Shared) (H : Hp) (vs : List V) (Q : VK) (E : XK), Room k (A.deeper (PySem.W.ksEnv qual scope s.heap.objs.size f (.ref cda) cc)) → sp vs H Q E →
      ∃ (a : Addr) (ws : List V) (te : TE) (t : TS), vs = .ref a :: ws ∧ H a = some (exo a C none) ∧ PE (cxF CX P w K mg base N qual scope f (.ref cda) cc A outer s H E) e te ∧ PSs (cxF CX P w K mg base N qual scope f (.ref cda) cc A outer s H E) rest t ∧
        te (L2.start N vs) H fun _ H1 => H1 a = some (exo a C none) ∧ t { nx := fun _ H' => Q .non H', rt := Q } (L2.start N vs) H1)
    {pl : PySem.Env → Sem Bool}
    (hme : ∀ env : PySem.Env, eval (.Call (.Attribute (.Call (.Name "super" p0) [] [] p1) "__init__" p2) [e] [] p3) env = (do
      let ov ← attributeBase (.Call (.Name "super" p0) [] [] p1) "__init__" env (eval (.Call (.Name "super" p0) [] [] p1) env)
      standAt p2.atName
      let (f, first) ← holding [ov] (getMethod ov "__init__" (pl env))
      callWith p3 f first (backTo p3 (starEach [e] env)) []) := by intro env; rfl)
    (he : ∀ env : PySem.Env, starEach [e] env = [(false, eval e env)] := by intro env; rfl) :
    FnOk P w K mg base CX (k + 1) f (PySem.W.ksFn name qual params (.Expr (.Call (.Attribute (.Call (.Name "super" p0) [] [] p1) "__init__" p2) [e] [] p3) p4 :: rest) scope dV kV doc pm an (.ref cda) ct cc) ps sp := by
  refine ⟨len, fun A outer s H args us vs Q E hr e0 hb r hsp => ?_⟩
  have hl := len _ _ _ _ hsp
  have KX : K.In s.heap := e0.mod.kin.keeps fun b o e => (e0.bs b o e).1
  have lim : s.heap.NoLimit := e0.mod.nolimit.keeps fun b o e => (e0.bs b o e).1
  refine ks_codeAny_call_defAt (fd := PySem.W.ksFn name qual params (.Expr (.Call (.Attribute (.Call (.Name "super" p0) [] [] p1) "__init__" p2) [e] [] p3) p4 :: rest) scope dV kV doc pm an (.ref cda) ct cc) (binds := ps.zip us) hr.depth (KX _ _ lk) rfl lim (PySem.W.codeRec_of KX hcd) rfl hb S.nocell
    (fun y hy => S.par _ (List.of_mem_zip (a := y.1) (b := y.2) hy).1) (fun h1 hns hk => ?_) S.co S.gen S.kind
  obtain ⟨a, ws, te, t, ev, ha, hpe, hps, hq⟩ := hbody A outer s H vs Q E (hr.deeper _) hsp
  have I := inv_startF (CX := CX) (w := w) (mg := mg) (qual := qual) (f := f) (cd := .ref cda) (tk := s.toks + (ps.zip us).length) (E := E) S hcell hr.hd e0 hl r hns hk
  show PySem.wpAt (model P w) (A.deeper (PySem.W.ksEnv qual scope s.heap.objs.size f (.ref cda) cc)) (.func _ (PySem.W.ksEnv qual scope s.heap.objs.size f (.ref cda) cc)) (execs _ (PySem.W.ksEnv qual scope s.heap.objs.size f (.ref cda) cc)) _ _ _
  refine ks_wpAt_execs_cons (ks_wpAt_Expr_any (ks_wpAt_MethodCall ?_ (hme _)) I.quiet (by rfl))
  obtain ⟨t1, hoe⟩ := exo_at e0.hok ha
  obtain ⟨nm, qn, Nn, bs, bm, sn, sub, ab, col, dd, k0, k1, k2, k3, k5, hC, hbm⟩ := T.cls
  have hcl : PySem.W.clsIn K C = some { name := nm, bases := bs, mro := .ref C :: bm, ns := Nn, qualname := qn, hasDict := true, slotNames := sn, subclasses := sub, abstract := ab, collection := col, hasDel := false } := by unfold PySem.W.clsIn; rw [hC] <;> rfl
  have hmro : PySem.W.mroIn K C (.ref C) = some true := by
    unfold PySem.W.mroIn
    rw [hcl, Option.bind_some, if_neg (show ¬ (List.isEmpty (Value.ref C :: bm) = true) from Bool.false_ne_true)]
    simp
  have KI := I.kIn
  have hsf : N[0]? = some ar.arg := by
    have h1 : ps.length ≠ 0 := fun z => by rw [List.length_eq_zero_iff.mp z] at h0; cases h0
    rw [← S.pre, List.getElem?_take_of_lt (by omega)] at h0
    exact h0
  have hk0 := S.par _ (List.mem_of_getElem? h0)
  refine ks_wpAt_super_base (env := PySem.W.ksEnv qual scope s.heap.objs.size f (.ref cda) cc) S.sup S.cls (by decide) rfl (KI _ _ lk) rfl hp rfl (KI _ _ hcode) rfl hvs hfile htop ?_
  obtain ⟨mb, b1, b2⟩ := I.mod.blt
  refine PySem.W.ks_loadName_global S.kind S.sup (Calls.loadGlobal_builtin (env := PySem.W.ksEnv qual scope s.heap.objs.size f (.ref cda) cc) (I.mod.glob.keeps I.bk) hsuper (b1.keeps I.bk) ((b2 _ (by decide)).trans super_boot) ⟨rfl, ?_⟩)
  refine wpAny_loadName_free S.kind S.cls rfl ⟨_, KI _ _ hcell, rfl⟩ ?_
  obtain ⟨m, hn, hlk⟩ := I.loc
  have hself : m ar.arg = some (.ref a) := by
    obtain ⟨u, ru, l⟩ := hlk 0 ar.arg (.ref a) hsf (by rw [ev]; rfl) (.inl hk0)
    obtain rfl : u = Value.ref a := ru
    rcases l with l | ⟨l, _⟩
    · exact l.2
    · have l' : scope.names.lookup ar.arg = some .cell ∨ scope.names.lookup ar.arg = some .free := l
      rw [hk0] at l'
      rcases l' with z | z <;> cases z
  refine wpAny_loadName_local S.kind hk0 hn hself ?_
  refine ks_wpAny_isType_cls (KI _ _ hC) rfl ⟨rfl, ?_⟩
  refine ks_wpAny_call_super (KI _ _ hC) rfl (hk _ _ hoe) rfl (fun c z => by cases z) (PySem.W.looks_mroIn KI hmro) (fun h2 e2 kk2 => ?_)
  have I2 := I.kept (t' := s.toks + (ps.zip us).length) kk2
  have KI2 := I2.kIn
  have hxC : a ≠ C := fun z => by
    have := (I2.bs C _ (e0.mod.kin _ _ hC)).2
    rw [← z, ha] at this
    cases this
  have hI : PySem.W.InstAt h2 a _ C none := ⟨kk2 _ _ (hk _ _ hoe), rfl, rfl, trivial⟩
  unfold PySem.W.ks_superIn at hm
  rw [hcl] at hm
  refine PySem.W.kxs_getMethod PySem.W.kxs_ValueError e2 (PySem.W.looks_opaque KI2 hop) (l₀ := .ref C :: bm) (fun A Q E s k q => wpAny_bind ((PySem.W.looks_clsIn KI2 hcl) A _ E s k (wpAny_pure q))) rfl KI2 hm (hI.type.andThen (PySem.W.looks_subIn KI2 hsub)) hxC (by decide) ?_
  have hu : (h2.push (PySem.W.kxs_mw "ValueError.__init__" a)).get? h2.objs.size = some (PySem.W.kxs_mw "ValueError.__init__" a) := Heap.get?_push_at rfl rfl
  have I3 := I2.kept (h' := h2.push (PySem.W.kxs_mw "ValueError.__init__" a)) (t' := s.toks + (ps.zip us).length + 1) (fun b o z => Heap.get?_push_of_some _ z)
  have I4 := I3.pins_of (pins' := [(h2.objs.size, PySem.W.kxs_mw "ValueError.__init__" a)]) (fun p hp => by
    have ep : p = (h2.objs.size, PySem.W.kxs_mw "ValueError.__init__" a) := by simpa using hp
    subst ep
    refine ⟨hu, I2.hok.fresh (Nat.le_refl _), fun z => ?_, I2.nofs (Nat.le_refl _), fun v z => by cases z⟩
    have y := I2.lt
    rw [← z] at y
    exact Nat.lt_irrefl _ y)
  show PySem.wpAny _ _ (callWith p3 (.ref h2.objs.size) [] (backTo p3 (starEach [e] (PySem.W.ksEnv qual scope s.heap.objs.size f (.ref cda) cc))) []) _ _ _
  rw [he]
  refine PySem.W.kxs_callWith (i := "ValueError.__init__") (x := a) rfl (Calls.evalArgs_plain ?_)
  refine Calls.spliced_cons (thn (hpe.run _ _ _ _ _ I4 hq) fun u1 s1 ⟨x, H1, I5, r1, ea, q1⟩ => Calls.spliced_nil ⟨(I5.pin (h2.objs.size, PySem.W.kxs_mw "ValueError.__init__" a) (List.mem_append_right _ (by simp))).1, ?_⟩)
  obtain ⟨hp', g, d, tk, os⟩ := s1
  obtain ⟨t2, ho⟩ := exo_at I5.hok ea
  refine PySem.W.call_mwr F.excBase_ValueError (I5.kIn _ _ hC) ho (I5.pin (h2.objs.size, PySem.W.kxs_mw "ValueError.__init__" a) (List.mem_append_right _ (by simp))).1 (by show 1 ≤ sizeLine; rw [sizeLine_eq]; omega) (fun h' k' e' => ?_)
  have J := I5.write (t' := tk) (x := a) (e := a) (o := exo a C none) (by rw [ea]; exact True.intro) (.inl rfl) k' ⟨_, e'⟩ (exo_ok e')
  have eu : upd H1 a (exo a C none) = H1 := by
    funext b
    by_cases hb : b = a
    · rw [hb, upd_same, ea]
    · rw [upd_ne hb]
  rw [eu] at J
  have J0 := J.pins_of (pins' := []) (fun p hp => by simp at hp)
  refine wpAt_of_wpAny (wpAny_mono (hps.run [] _ _ _ _ J0 q1) (fun fl s' hs => ?_) fun e s' hs => hs)
  cases fl with
  | ret u =>
    obtain ⟨v, σ', H', J, rv, q⟩ := hs
    exact ⟨v, H', J.os, J.bare, J.base, J.hok, rv, q⟩
  | next =>
    obtain ⟨σ', H', J, q⟩ := hs
    exact ⟨V.non, H', J.os, J.bare, J.base, J.hok, rfl, q⟩
  | brk =>
    obtain ⟨_, _, _, q⟩ := hs
    exact False.elim q
  | cont =>
    obtain ⟨_, _, _, q⟩ := hs
    exact False.elim q

theorem exm_self {K : PySem.W.Frag} {C : Addr} {cd : ClassData} (xb : PySem.W.subIn K (.ref C) (.type "BaseException") = some true) (hc : PySem.W.clsIn K C = some cd) (xt : PySem.W.typeIn K (.ref C) = some (.type "type")) (hs : PySem.W.subIn K (.ref C) (.ref C) = some true) :
    PySem.W.exmOne K (.ref C) (.ref C) = some true := by
  unfold PySem.W.exmOne PySem.W.kitCls
  rw [if_pos (by rw [xb]; rfl)]
  show (if ((PySem.W.clsIn K C).isSome && PySem.W.typeIn K (.ref C) == some (.type "type")) = true then PySem.W.subIn K (.ref C) (.ref C) else none) = some true
  rw [hc, xt, hs]
  rfl
/-- what is known of an exception class that keeps a text -/
structure Exc1 (P : Program) (w : World) (K : PySem.W.Frag) (mg : Str → Option Value) (base : Heap) (cls fld : Str) (C : Addr) : Prop where
  O : OexC K C
  X : XfC K C
  hC : mg cls = some (.ref C)
  no : PySem.W.findIn K (.ref C) fld = some none
  exm : PySem.W.exmOne K (.ref C) (.ref C) = some true
  ini : ∃ fI fdI, PySem.W.findIn K (.ref C) "__init__" = some (some (.ref fI)) ∧ PySem.W.typeIn K (.ref fI) = some (.type "function") ∧ FnOk P w K mg base (L2.CX P w) 1 fI fdI ["self", fld] (spIni C fld) ∧ Binds K fdI ["self", fld] []
/-- the readings of such an __init__ -/
theorem run_ini {K : PySem.W.Frag} {C a : Addr} {pre fld nm : Str} {σ : L2.St} {H : Hp} {Q : VK} {D : Ends} (hp : pre.length ≤ 1000) (hz : nm.length ≤ 1000) (O : OexC K C) (hno : PySem.W.findIn K (.ref C) fld = some none) (s0 : σ[0]? = some (some (.ref a))) (s1 : σ[1]? = some (some (.str nm)))
    (ha : H a = some (exo a C none)) (hq : ∀ dx, H dx = none → dx ≠ a → D.nx σ (upd (upd H dx (exd dx [(fld, .str nm)])) a (exo a C (some dx)))) :
    tJs [tC (.str pre), tFmt (tVar 1)] Str.empty σ H fun out H1 => H1 a = some (exo a C none) ∧ tOst K fld (tVar 0) (tVar 1) D σ H1 := by
  have e0 : Str.empty.length = 0 := by decide
  refine ⟨pre, rfl, ?_, .str nm, s1, .inl ⟨nm, rfl, ?_, nm, rfl, ?_, ha, .str nm, s1, .ref a, s0, a, C, rfl, O, hno, .inl ⟨ha, hq⟩⟩⟩
  · rw [PySem.Str.length_append, sizeLine_eq]; omega
  · rw [sizeLine_eq]; omega
  · rw [PySem.Str.length_append, PySem.Str.length_append, sizeLine_eq]; omega
end Lm


/-! tuple * int, any int from 0 on -/
namespace L2
open PySem PySem.Spec PyProof.Rows
theorem tuple_mul1 (l : Addr) (items : Array Value) (n : Nat) (dd : Option Addr) (sl : Array (Option Value)) (u : Tok) :
    Meets (Builtin.«tuple.__mul__» ⟨[.ref l, .int 1 u], []⟩) (fun _ R s => s.heap.get? l = some { cls := .type "tuple", dict := dd, data := .seq items n, slots := sl } ∧ R (.ok (.ret (Value.ref l))) s) :=
  .of_wp fun prog w A R s h => by
    obtain ⟨hp, g, d, tk, os⟩ := s
    obtain ⟨hl, h⟩ := h
    have f1 := AutoSeq1.idx_int
    have c1 : (items.isEmpty || (1 : Int) == 1) = true := by simp
    wp_walk using wpAny_loadPart' hl
    repeat (first
      | (refine wpAny_ite_true (decide_eq_true (by rw [c1])) ?_; wp_walk using wpAny_loadPart' hl)
      | (rw [if_pos c1]; wp_walk using wpAny_loadPart' hl)
      | (refine wpAny_ite_false (decide_eq_false (by decide)) ?_; wp_walk using wpAny_loadPart' hl))
    all_goals exact ⟨_, rfl, h⟩
theorem tuple_mul0 (l : Addr) (items : Array Value) (n : Nat) (dd : Option Addr) (sl : Array (Option Value)) (u : Tok) (c1 : items.isEmpty = false) :
    Meets (Builtin.«tuple.__mul__» ⟨[.ref l, .int 0 u], []⟩) (fun _ R s => s.heap.get? l = some { cls := .type "tuple", dict := dd, data := .seq items n, slots := sl } ∧
      R (.ok (.ret (Value.ref s.heap.objs.size))) { s with heap := s.heap.push { cls := Value.type "tuple", data := Data.seq #[] }, toks := s.toks }) :=
  .of_wp fun prog w A R s h => by
    obtain ⟨hp, g, d, tk, os⟩ := s
    obtain ⟨hl, h⟩ := h
    have f1 := AutoSeq1.idx_int
    have c2 : (items.isEmpty || (0 : Int) == 1) = false := by rw [c1]; rfl
    wp_walk using wpAny_loadPart' hl
    repeat (first
      | (refine wpAny_ite_false (decide_eq_false (by rw [c2]; exact Bool.false_ne_true)) ?_; wp_walk using wpAny_loadPart' hl)
      | (rw [if_neg (by rw [c2]; exact Bool.false_ne_true)]; wp_walk using wpAny_loadPart' hl))
    all_goals exact ⟨_, rfl, h⟩
end L2
namespace Lm
open PySem PySem.Spec PyProof.Rows L2
def rRepU (K : PySem.W.Frag) : R2 := fun x y H Q => ∃ l k xs, x = .ref l ∧ y = .int k ∧ SqT K H l xs ∧ xs ≠ [] ∧ 0 ≤ k ∧ k ≤ 1000 ∧ xs.length ≤ 1000 ∧ (k = 1 → Q (.ref l) H) ∧ (k ≠ 1 → NewT H (List.replicate k.toNat xs).flatten Q)
section
variable {X : Cx}
theorem op_repU : OpR X (binaryOp .Mult) (rRepU X.K) := by
  intro pins s σ H x y v u Q I rx ry ⟨l, k, xs, ex, ey, hT, hne, h1, h2, hz, q1, q⟩
  subst ex ey
  cases rx
  obtain ⟨t, rfl⟩ := ry
  obtain ⟨us, r, ⟨⟨cls, dd, data, sl⟩, ho, hc, n, hd⟩, _⟩ := I.tuple hT
  simp only at hc hd
  subst hc hd
  have hle : us.length = xs.length := Eq.symm r.length
  have hi : us.toArray.isEmpty = false := by
    cases us with
    | nil => exact (hne (List.eq_nil_of_length_eq_zero hle.symm)).elim
    | cons _ _ => rfl
  by_cases k1 : k = 1
  · subst k1
    refine wpAny_binaryOp_repeat_ref (T := "tuple") (U := "int") (by decide) ⟨_, ho, rfl⟩ (fun s2 => typeIs_int s2 1 t) noFill_tuple_mul F.fills_int_mul F.slot_int_rmul repeat_tuple F.slot_int_index.lookup (call_meets F.slot_int_rmul (typeIs_int s 1 t) F.entry_int_rmul (F.args_int_rmul_2 _ _) (int_rmul_tuple 1 t l us.toArray n dd sl)
        ⟨ho, rfl, ⟨_, ho, rfl⟩, call_meets F.slot_tuple_mul ⟨_, ho, rfl⟩ F.entry_tuple_mul (F.args_tuple_mul_2 _ _) (tuple_mul1 l us.toArray n dd sl t) ⟨ho, ?_⟩⟩)
    exact ⟨.ref l, H, I, rfl, q1 rfl⟩
  have fin := newT (us := (List.replicate k.toNat us).flatten) I (r.rep k.toNat) (by
    rw [PyProof.Rows.lm_len_rep_flat, sizeLine_eq]
    have := Nat.mul_le_mul (show k.toNat ≤ 1000 by omega) hz
    omega) (q k1)
  by_cases k0 : k = 0
  · subst k0
    exact wpAny_binaryOp_repeat_ref (T := "tuple") (U := "int") (by decide) ⟨_, ho, rfl⟩ (fun s2 => typeIs_int s2 0 t) noFill_tuple_mul F.fills_int_mul F.slot_int_rmul repeat_tuple F.slot_int_index.lookup (call_meets F.slot_int_rmul (typeIs_int s 0 t) F.entry_int_rmul (F.args_int_rmul_2 _ _) (int_rmul_tuple 0 t l us.toArray n dd sl)
        ⟨ho, rfl, ⟨_, ho, rfl⟩, call_meets F.slot_tuple_mul ⟨_, ho, rfl⟩ F.entry_tuple_mul (F.args_tuple_mul_2 _ _) (tuple_mul0 l us.toArray n dd sl t hi) ⟨ho, fin⟩⟩)
  have sz : us.toArray.size = xs.length := by simp [hle]
  have a1 : ((xs.length : Nat) : Int) * k ≤ 1000 * k := Int.mul_le_mul_of_nonneg_right (by omega) (by omega)
  have fl : (List.foldl (fun x1 x2 => x1 ++ x2) #[] (List.replicate k.toNat us.toArray)) = (List.replicate k.toNat us).flatten.toArray := size_rep us k.toNat
  refine wpAny_binaryOp_repeat_ref (T := "tuple") (U := "int") (by decide) ⟨_, ho, rfl⟩ (fun s2 => typeIs_int s2 k t) noFill_tuple_mul F.fills_int_mul F.slot_int_rmul repeat_tuple F.slot_int_index.lookup (call_meets F.slot_int_rmul (typeIs_int s k t) F.entry_int_rmul (F.args_int_rmul_2 _ _) (int_rmul_tuple k t l us.toArray n dd sl)
        ⟨ho, rfl, ⟨_, ho, rfl⟩, call_meets F.slot_tuple_mul ⟨_, ho, rfl⟩ F.entry_tuple_mul (F.args_tuple_mul_2 _ _) (tuple_mulW l us.toArray n dd sl k t ?_ ?_ ?_ ?_ ?_ ?_) ⟨ho, ?_⟩⟩)
  · rw [decide_eq_false (by omega), decide_eq_false (by omega)]; rfl
  · rw [hi, Bool.false_or]; simpa using k1
  · rw [hi, Bool.or_false]; simp; omega
  · rw [sz]; omega
  · rw [sz]; unfold Builtin.Tuple.tupleTooMany; rw [sizeLine_eq]; simp; omega
  · rw [fl, List.size_toArray, PyProof.Rows.lm_len_rep_flat, sizeLine_eq, hle]
    have := Nat.mul_le_mul (show k.toNat ≤ 1000 by omega) hz
    omega
  · rw [fl]; exact fin
end
end Lm
namespace Lm
open PySem PySem.Spec PyProof.Rows L2
section
variable {X : Cx} {K : PySem.W.Frag} (hK : X.K = K)
include hK
theorem k_repU : OpR X (binaryOp .Mult) (rRepU K) := hK ▸ op_repU
end
section
variable {c : Ct} {Γ : List (Option Rs)} {ta tb : TE} {ka kb : Kd} {ds : List PyData} {i : Int}
/-- tuple * int -/
theorem e_repT (h : Ev c ta Γ .v (.tuple ds)) (hne : ds ≠ []) (hb : Ev c tb Γ kb (.int i)) (h1 : 0 ≤ i) (h2 : i ≤ 1000) (hl : ds.length ≤ 1000) : Ev c (tOp (rRepU c.K) ta tb) Γ .v (.tuple (List.replicate i.toNat ds).flatten) := fun H0 O H σ e Q q =>
  h H0 O H σ e _ fun v H1 r1 s1 => hb H0 O H1 σ (e.on r1) _ fun u H2 r2 s2 => by
    have b2 : Bo c (mns H2 O) v (.tuple ds) := Res.on (k := .v) e r1 r2 s1
    obtain ⟨a, xs, rfl, tp, al⟩ := b2.tup'
    have tq : SqT c.K H2 a xs := (sqT_same mns_same tp).sq
    have lx : xs.length = ds.length := al.len
    refine ⟨a, i, xs, rfl, (Res.bo (e.on r1) s2).int', tq, fun z => hne (List.eq_nil_of_length_eq_zero (by rw [← lx, z]; rfl)), h1, h2, by omega, fun z => ?_, fun _ => newTk (c := c) fun p H3 hp sm tp => ?_⟩
    · refine q _ H2 (r1.tr r2) ?_
      subst z
      have e1 : (List.replicate (1 : Int).toNat ds).flatten = ds := by simp
      rw [e1]
      exact b2
    · have r3 : Rr c H2 H3 := Rr.same sm
      have e2 := (e.on r1).on r2
      have rep : ∀ n : Nat, BoAll c (mns H2 O) (List.replicate n xs).flatten (List.replicate n ds).flatten := fun n => by
        induction n with
        | zero => exact .nil
        | succ n ih => rw [List.replicate_succ, List.replicate_succ, List.flatten_cons, List.flatten_cons]; exact al.app ih
      exact q _ H3 ((r1.tr r2).tr r3) (.tup (tpN_mns e2 r3 tp) ((rep _).mono e2.j (r3.mns e2.j e2.okO)))
end
end Lm


/-! intervals: one variant after another -/
namespace Lm
open PySem PySem.Spec PyProof.Rows L2
/-- the assignment by intervals -/
def runL (as os : List Int) : List Int := os.flatMap fun o => List.replicate (gI as o).toNat o
theorem runL_cons {as os : List Int} {o : Int} : runL as (o :: os) = List.replicate (gI as o).toNat o ++ runL as os := rfl
def shL (as os : List Int) : List Int := os.map (gI as)
theorem gI_nn {as : List Int} (h : ∀ n ∈ as, 0 ≤ n) (o : Int) : 0 ≤ gI as o := by
  unfold gI
  rw [List.getD_eq_getElem?_getD]
  cases e : as[o.toNat]? with
  | none => simp
  | some x => simpa using h x (List.mem_of_getElem? e)
theorem runL_len {as : List Int} (h : ∀ n ∈ as, 0 ≤ n) : ∀ os : List Int, ((runL as os).length : Int) = (shL as os).sum
  | [] => rfl
  | o :: os => by
    have := runL_len h os
    have := gI_nn h o
    rw [runL_cons, List.length_append, List.length_replicate]
    simp only [shL, List.map_cons, List.sum_cons] at *
    omega
theorem shL_sum {as os : List Int} {v b : Int} (h : Alc as v b) (o : IsOrd os v) : (shL as os).sum = b := by
  have hl : os.length = as.length := by have := h.len; have := o.len; omega
  have p : (shL as (upI 0 os.length)).sum = (shL as os).sum := perm_sum (o.perm.map _)
  rw [← p, ← h.sum, ← sum_range (ns := as), hl]
  unfold shL upI gI
  rw [List.map_map]
  congr 1
  apply List.map_congr_left
  intro j hj
  show as.getD (0 + (j : Int)).toNat 0 = as.getD j 0
  rw [Int.zero_add, Int.toNat_natCast]
theorem runL_length {as os : List Int} {v b : Int} (h : Alc as v b) (o : IsOrd os v) : ((runL as os).length : Int) = b := by
  rw [runL_len h.nn, shL_sum h o]
/-! promises -/
end Lm


/-! readings that the intervals want -/
namespace Lm
open PySem PySem.Spec PyProof.Rows L2
theorem cutD_last {α : Type} {ds : List α} : cutD ds none (some (-1)) = ds.dropLast := by
  show (ds.drop 0).take ((if (-1 : Int) < 0 then ((-1 : Int) + (ds.length : Int)).toNat else min (-1 : Int).toNat ds.length) - 0) = ds.dropLast
  rw [if_pos (by decide), List.drop_zero, List.dropLast_eq_take]
  congr 1
  omega
theorem Asg.up {ns : List Int} {v w : Int} (h : Asg ns v) (hw : v ≤ w) : Asg ns w := ⟨h.len, fun n hn => ⟨(h.rng n hn).1, by have := (h.rng n hn).2; omega⟩⟩
section
variable {c : Ct} {H H' H0 H1 H2 H3 : Hp} {O : List Addr} {Γ Γ' Γ1 : List (Option Rs)}
variable {te ta tb tx ty : TE} {k ka kb kc : Kd} {d x y z : PyData}
end
end Lm


/-! all assignments of an allocation, in order; the one whose places ascend -/
namespace Lm
open PySem PySem.Spec PyProof.Rows L2
theorem nodup_sub {α : Type} [DecidableEq α] : ∀ {l m : List α}, l.Nodup → (∀ x ∈ l, x ∈ m) → l.length ≤ m.length
  | [], _, _, _ => Nat.zero_le _
  | a :: l, m, nd, h => by
    have nd' := List.nodup_cons.mp nd
    have ha := h a (by simp)
    have ih := nodup_sub (m := m.erase a) nd'.2 fun x hx => (List.mem_erase_of_ne (fun z => nd'.1 (by rw [← z]; exact hx))).mpr (h x (by simp [hx]))
    rw [List.length_erase_of_mem ha] at ih
    have := List.length_pos_of_mem ha
    simp only [List.length_cons]; omega
theorem perm_of_count {r m : List Int} (hc : ∀ x, r.count x ≤ m.count x) (hl : m.length ≤ r.length) : r.Perm m := by
  induction r generalizing m with
  | nil =>
    have : m = [] := List.eq_nil_of_length_eq_zero (by simpa using hl)
    rw [this]
  | cons a r ih =>
    have ha : a ∈ m := by
      have := hc a
      rw [List.count_cons_self] at this
      exact List.count_pos_iff.mp (by omega)
    refine (List.Perm.cons a (ih (m := m.erase a) (fun x => ?_) ?_)).trans (List.perm_cons_erase ha).symm
    · have h1 := hc x
      rw [List.count_erase]
      by_cases e : a = x
      · subst e
        rw [List.count_cons_self] at h1
        simp; omega
      · rw [List.count_cons_of_ne e] at h1
        rw [if_neg (by simpa using e)]; omega
    · rw [List.length_erase_of_mem ha]
      simp only [List.length_cons] at hl; omega
/-- what may come behind r -/
def nxtA (as r : List Int) : List Int := (upI 0 as.length).filter fun x => decide ((r.count x : Int) < gI as x)
def asgN (as : List Int) : Nat → List (List Int)
  | 0 => [[]]
  | n + 1 => (asgN as n).flatMap fun r => (nxtA as r).map fun x => r ++ [x]
theorem mem_asgN {as : List Int} (nn : ∀ n ∈ as, 0 ≤ n) : ∀ (n : Nat) (r : List Int), r ∈ asgN as n ↔ r.length = n ∧ (∀ x ∈ r, 0 ≤ x ∧ x < as.length) ∧ ∀ x, (r.count x : Int) ≤ gI as x
  | 0, r => by
    constructor
    · intro h
      have : r = [] := by simpa [asgN] using h
      subst this
      exact ⟨rfl, fun _ h => (nomatch h), fun x => by have := gI_nn nn x; simpa using this⟩
    · rintro ⟨h, _⟩
      rw [List.eq_nil_of_length_eq_zero h]
      simp [asgN]
  | n + 1, r => by
    unfold asgN
    rw [List.mem_flatMap]
    constructor
    · rintro ⟨q, hq, h⟩
      obtain ⟨x, hx, rfl⟩ := List.mem_map.mp h
      obtain ⟨h1, h2, h3⟩ := (mem_asgN nn n q).mp hq
      obtain ⟨hx1, hx2⟩ := List.mem_filter.mp hx
      have hx3 := of_decide_eq_true hx2
      have hx4 := mem_upI.mp hx1
      refine ⟨by simp [h1], fun y hy => ?_, fun y => ?_⟩
      · rcases List.mem_append.mp hy with w | w
        · exact h2 y w
        · rw [List.mem_singleton.mp w]; exact hx4
      · rw [List.count_append]
        by_cases e : x = y
        · subst e
          simp only [List.count_cons_self, List.count_nil]; omega
        · rw [List.count_cons_of_ne e, List.count_nil]
          exact h3 y
    · rintro ⟨h1, h2, h3⟩
      have hne : r ≠ [] := fun z => by rw [z] at h1; simp at h1
      have el := List.dropLast_concat_getLast hne
      obtain ⟨q, eq⟩ : ∃ q, q = r.dropLast := ⟨_, rfl⟩
      obtain ⟨x, ex⟩ : ∃ x, x = r.getLast hne := ⟨_, rfl⟩
      rw [← eq, ← ex] at el
      have cx : ∀ y, r.count y = q.count y + [x].count y := fun y => by rw [← el, List.count_append]
      have xr : x ∈ r := by rw [← el]; simp
      refine ⟨q, (mem_asgN nn n q).mpr ⟨by rw [eq, List.length_dropLast]; omega, fun y hy => h2 y (by rw [← el]; simp [hy]), fun y => by have := h3 y; have := cx y; omega⟩, List.mem_map.mpr ⟨x, List.mem_filter.mpr ⟨mem_upI.mpr (h2 x xr), decide_eq_true ?_⟩, el⟩⟩
      have a1 := h3 x
      have a2 := cx x
      rw [List.count_cons_self, List.count_nil] at a2
      omega
/-- the places that ascend -/
theorem runL_count {as : List Int} (nn : ∀ n ∈ as, 0 ≤ n) : ∀ {os : List Int}, os.Nodup → ∀ o, ((runL as os).count o : Int) = if o ∈ os then gI as o else 0
  | [], _, o => by simp [runL]
  | p :: os, nd, o => by
    have nd' := List.nodup_cons.mp nd
    have ih := runL_count nn nd'.2 o
    have g0 := gI_nn nn o
    rw [runL_cons, List.count_append, List.count_replicate, Int.natCast_add, ih]
    by_cases e : p = o
    · subst e
      rw [if_neg nd'.1, if_pos (by simp), if_pos (by simp)]; omega
    · rw [if_neg (by simpa using e), Int.natCast_zero, Int.zero_add]
      by_cases m : o ∈ os
      · rw [if_pos m, if_pos (by simp [m])]
      · rw [if_neg m, if_neg (fun z => by rcases List.mem_cons.mp z with w | w; exact e w.symm; exact m w)]
section
variable {c : Ct} {Γ : List (Option Rs)} {te : TE} {k : Kd}
end
end Lm


/-! t[::-1] of a tuple -/
namespace HT
open PySem PySem.W PySem.Calls PyProof.Rows
end HT
namespace Lm
open PySem PySem.Spec PyProof.Rows L2
section
variable {prog : Program} {w : World} {A : Around} {E : Value → Shared → Prop} {s : Shared}
end
section
variable {c : Ct} {Γ : List (Option Rs)} {te : TE} {ds : List PyData}
end
end Lm


/-! intervals: bounds of their churn, and when nothing is wasted -/
namespace Lm
open PySem PySem.Spec PyProof.Rows L2
variable {as cs os : List Int} {v b : Int}
theorem runL_counts (h : Alc as v b) (o : IsOrd os v) : countsI (runL as os) v = as := by
  have hl := h.len
  apply List.ext_getElem
  · simp [countsI, upI]; omega
  · intro j h1 h2
    have hj : (j : Int) < v := by omega
    have e := countsI_get (ns := runL as os) hj
    rw [List.getD_eq_getElem?_getD, List.getElem?_eq_getElem h1] at e
    have e' : (countsI (runL as os) v)[j] = ((runL as os).count (j : Int) : Int) := e
    rw [e', runL_count h.nn o.nd, if_pos (o.mem (by omega) hj)]
    simp [gI, h2]
/-! the other bound -/
/-! both ways, and backwards -/
/-! when nothing is wasted -/
end Lm


/-! zip of two new lists, list + list of new ones; the intervals' ends -/
namespace Lm
open PySem PySem.Spec PyProof.Rows L2
section
variable {c : Ct} {H H' H0 H1 H2 H3 : Hp} {O : List Addr} {Γ Γ' Γ1 : List (Option Rs)}
variable {te ta tb tx ty : TE} {k ka kb kc : Kd} {d x y z : PyData} {ds es : List PyData}
theorem walk_zipLs {K : PySem.W.Frag} {p q : Addr} {xs ys : List V} {n : Nat} (hn : n = min xs.length ys.length) : Walk (Itz K p q) n (fun H => SqL K H p xs ∧ SqL K H q ys) (YPair (fun i => xs[i]?) (fun i => ys[i]?)) where
  goes := fun i _ hi w => ⟨xs, ys, xs[i]'(by omega), ys[i]'(by omega), w.1, w.2, List.getElem?_eq_getElem (by omega), List.getElem?_eq_getElem (by omega)⟩
  stops := fun _ w => ⟨xs, ys, w.1, w.2, by omega⟩
  yields := fun i H v H' _ w ⟨T, x, z, h1, h2, h3, h4, h5⟩ => ⟨T, x, z, h1, h2, h3, h4 xs w.1, h5 ys w.2⟩
end
end Lm


/-! the first history: each step's first change is the least one -/
namespace Lm
open PySem PySem.Spec PyProof.Rows L2
variable {v b : Int} {A T : List (List Int)} {as f r : List Int} {n : Nat}
theorem asgN_cnt (h : Alc as v b) (hr : r ∈ asgN as b.toNat) : (r.length : Int) = b ∧ (∀ x ∈ r, 0 ≤ x ∧ x < v) ∧ countsI r v = as := by
  obtain ⟨h1, h2, h3⟩ := (mem_asgN h.nn _ r).mp hr
  have hl := h.len
  have o := ord_upI (m := v) (by omega)
  have rl := runL_length h o
  have b0 : 0 ≤ b := by rw [← h.sum]; exact sum_nn h.nn
  have cle : ∀ x, r.count x ≤ (runL as (upI 0 v.toNat)).count x := fun x => by
    have c1 := runL_count h.nn o.nd x
    by_cases m : x ∈ upI 0 v.toNat
    · rw [if_pos m] at c1
      have := h3 x
      omega
    · rw [List.count_eq_zero_of_not_mem fun z => m (o.mem (h2 x z).1 (by have := (h2 x z).2; omega))]; omega
  have sp : r.Perm (runL as (upI 0 v.toNat)) := perm_of_count cle (by omega)
  refine ⟨by omega, fun x hx => ⟨(h2 x hx).1, by have := (h2 x hx).2; omega⟩, ?_⟩
  rw [← runL_counts h o]
  unfold countsI
  apply List.map_congr_left
  intro i _
  rw [sp.count_eq]
section
variable {c : Ct} {H H' H0 H1 H2 H3 : Hp} {O : List Addr} {Γ Γ' Γ1 : List (Option Rs)} {te : TE} {k : Kd} {i : Int}
end
/-! of lists -/
end Lm


/-! itertools.combinations(range(n), k), walked -/
namespace CmbK
open PySem PySem.Spec PyProof.Rows L2
end CmbK


/-! itertools.combinations(range(n), k): made, its turns -/
namespace CmbK
open PySem PySem.Spec PyProof.Rows L2
end CmbK


/-! itertools.combinations: its turns -/
namespace CmbK
open PySem PySem.Spec PyProof.Rows L2
section
variable {prog : Program} {w : World} {A : Around} {E : Value → Shared → Prop} {s : Shared} {it T : Addr} {bf : Value} {ks : List Nat} {xs : Array Value}
end
end CmbK


/-! the places that combinations hands out -/
namespace Lm
open PySem PySem.Spec PyProof.Rows L2 CmbK
def cmbL : List Nat → Nat → List (List Nat)
  | _, 0 => [[]]
  | [], _ + 1 => []
  | a :: l, k + 1 => (cmbL l k).map (a :: ·) ++ cmbL l (k + 1)
def cmbs (n k : Nat) : List (List Nat) := cmbL (List.range n) k
end Lm


/-! families of shares: the promises -/
namespace Lm
open PySem PySem.Spec PyProof.Rows L2
/-- a share of each variant but the control -/
structure Shr (r : List Int) (v : Int) : Prop where
  len : (r.length : Int) = v - 1
  nn : ∀ x ∈ r, 0 ≤ x
  sum : r.sum ≤ 10
structure Fam (F : List (List Int)) (v : Int) : Prop where
  v1 : 1 ≤ v
  v5 : v ≤ 5
  l1 : 1 ≤ F.length
  l5 : F.length ≤ 5
  shr : ∀ r ∈ F, Shr r v
theorem Shr.le {r : List Int} {v : Int} (h : Shr r v) : ∀ x ∈ r, x ≤ 10 := fun x hx => by
  have := le_sum h.nn x hx
  have := h.sum
  omega
end Lm


/-! which lists serve which shares -/
namespace Lm
open PySem PySem.Spec PyProof.Rows L2
variable {L F : List (List Int)} {r s : List Int} {v b : Int}
/-- the shares that are allowed -/
def AllF (F : List (List Int)) (s : List Int) : Prop := ∃ r ∈ F, s.length = r.length ∧ ∀ i < s.length, 0 ≤ s.getD i 0 ∧ s.getD i 0 ≤ r.getD i 0
end Lm


/-! == of plain data, forms of data, a drawn test behind a plain one -/
namespace Lm
open PySem PySem.Spec PyProof.Rows L2
/-- data of a depth of at most n, all of it to be compared -/
def Sh (n : Nat) (d : PyData) : Prop := d.canLay0 = true ∧ d.depth ≤ n
theorem Sh.ok {n : Nat} {d : PyData} (h : Sh n d) (hn : n ≤ 64) : SeqAt.shaped d = true := by
  unfold SeqAt.shaped
  rw [h.1, decide_eq_true (by have := h.2; omega)]
  rfl
theorem Sh.up {n m : Nat} {d : PyData} (h : Sh n d) (hn : n ≤ m) : Sh m d := ⟨h.1, Nat.le_trans h.2 hn⟩
section
variable {c : Ct} {Γ : List (Option Rs)} {ta tb : TE} {tt tu : TT} {ka kb : Kd} {d e : PyData} {a : Bool}
end
end Lm


/-! in and not in over tuples or lists of data -/
namespace Lm
open PySem PySem.Spec PyProof.Rows L2
section
variable {X : Cx}
variable {K : PySem.W.Frag} (hK : X.K = K)
include hK
end
section
variable {c : Ct} {Γ : List (Option Rs)} {ta tb : TE} {ka kb : Kd} {d : PyData} {ds : List PyData} {r : List Int} {P : List (List Int)} {neg : Bool}
end
section
variable {c : Ct} {Γ : List (Option Rs)} {tr : TA} {kv : Bool} {n m lo : Nat} {a : Im}
theorem i_rngN (h : EvA c tr Γ kv [.int (n : Int)]) (hn : n ≤ 1000000) : EvI c (iRng1 tr) Γ true ((List.range n).map fun (i : Nat) => Im.d (.int (i : Int))) := by
  have := i_rng1 h (by omega) (by omega)
  rw [Int.toNat_natCast] at this
  unfold upI at this
  rw [List.map_map] at this
  refine (congrArg (EvI c (iRng1 tr) Γ true) (List.map_congr_left fun i _ => ?_)).mp this
  show Im.d (.int (0 + (i : Int))) = _
  rw [Int.zero_add]
end
/-! ### plans -/
/-! bad triples -/
end Lm


/-! rules: the mathematics -/
namespace Lm
open PySem PySem.Spec PyProof.Rows L2
abbrev Pr := List Int × List Int
/-- an allocation and an assignment of it -/
structure OkP (p : Pr) (v b : Int) : Prop where
  alc : Alc p.1 v b
  len : (p.2.length : Int) = b
  rng : ∀ x ∈ p.2, 0 ≤ x ∧ x < v
  cnt : countsI p.2 v = p.1
theorem OkP.asg {p : Pr} {v b : Int} (h : OkP p v b) (hb : b ≤ 20) : Asg p.2 v := ⟨by have := h.len; omega, h.rng⟩
/-- a bucket leaves needlessly -/
def leftB (p q : Pr) (i : Nat) : Bool := !decide (p.2.getD i 0 = 0) && (!decide (q.2.getD i 0 = p.2.getD i 0) && decide (p.1.getD (p.2.getD i 0).toNat 0 ≤ q.1.getD (p.2.getD i 0).toNat 0))
/-! the first of three places -/
/-! lists give the variants their buckets -/
theorem getD_setI {r : List Int} {i j : Nat} {x : Int} (hi : i < r.length) : (r.set i x).getD j 0 = if i = j then x else r.getD j 0 := by
  simp only [List.getD_eq_getElem?_getD, List.getElem?_set]
  split
  · rename_i h
    subst h
    simp [hi]
  · rfl
theorem gL_mem {Ls : List (List Int)} {i : Nat} (h : i < Ls.length) : Ls.getD i [] ∈ Ls := by
  rw [List.getD_eq_getElem?_getD, List.getElem?_eq_getElem h]
  exact List.getElem_mem h
/-- how often a number stands in a list: at so many places -/
theorem count_places (r : List Int) (x : Int) : r.count x = ((List.range r.length).filter fun i => decide (r.getD i 0 = x)).length := by
  induction r with
  | nil => rfl
  | cons a r ih =>
    rw [List.length_cons, List.range_succ_eq_map, List.filter_cons]
    have e : ((List.range r.length).map Nat.succ).filter (fun i => decide ((a :: r).getD i 0 = x)) = ((List.range r.length).filter fun i => decide (r.getD i 0 = x)).map Nat.succ := by
      rw [List.filter_map]
      congr 1
    rw [List.count_cons, e, ih]
    by_cases h : a = x
    · subst h; simp
    · simp [h]
end Lm


/-! drawn assignments of an allocation; drawn tests -/
namespace Lm
open PySem PySem.Spec PyProof.Rows L2
structure Drw (as : List Int) (lf acc : List Int) (n : Nat) : Prop where
  len : lf.length = as.length
  al : acc.length = n
  nn : ∀ x ∈ lf, 0 ≤ x
  rng : ∀ x ∈ acc, 0 ≤ x ∧ x < (as.length : Int)
  cnt : ∀ i < as.length, (acc.count (i : Int) : Int) + lf.getD i 0 = as.getD i 0
  sum : lf.sum + (n : Int) = as.sum
theorem sum_setX : ∀ {l : List Int} {i : Nat} {x : Int}, i < l.length → (l.set i x).sum = l.sum - l.getD i 0 + x
  | [], _, _, h => by simp at h
  | a :: l, 0, x, _ => by simp only [List.set_cons_zero, List.sum_cons, List.getD_cons_zero]; omega
  | a :: l, i + 1, x, h => by
    have := sum_setX (l := l) (i := i) (x := x) (by simpa using h)
    simp only [List.set_cons_succ, List.sum_cons, List.getD_cons_succ]
    omega
theorem Drw.step {as lf acc : List Int} {n i : Nat} (h : Drw as lf acc n) (hi : i < as.length) (hp : 0 < lf.getD i 0) : Drw as (lf.set i (lf.getD i 0 - 1)) (acc ++ [(i : Int)]) (n + 1) := by
  have hl := h.len
  refine ⟨by simpa using hl, by simp [h.al], fun x hx => ?_, fun x hx => ?_, fun j hj => ?_, ?_⟩
  · rcases List.mem_or_eq_of_mem_set hx with w | w
    · exact h.nn x w
    · omega
  · rcases List.mem_append.mp hx with w | w
    · exact h.rng x w
    · rw [List.mem_singleton.mp w]; omega
  · have hc := h.cnt j hj
    rw [getD_setI (by omega), List.count_append]
    by_cases e : i = j
    · subst e
      have c1 : List.count (i : Int) [(i : Int)] = 1 := by simp
      rw [if_pos rfl, c1]
      omega
    · have c1 : List.count (j : Int) [(i : Int)] = 0 := List.count_eq_zero_of_not_mem (by simp; omega)
      rw [if_neg e, c1]
      omega
  · rw [sum_setX (by omega)]
    have := h.sum
    omega
theorem Drw.pos {as lf acc : List Int} {n : Nat} (h : Drw as lf acc n) (hn : (n : Int) < as.sum) : 0 < ((List.range as.length).filter fun i => decide (0 < lf.getD i 0)).length := by
  cases q : (List.range as.length).filter fun i => decide (0 < lf.getD i 0) with
  | cons => simp
  | nil =>
    exfalso
    have z : ∀ x ∈ lf, x = 0 := fun x hx => by
      obtain ⟨i, hi⟩ := List.getElem?_of_mem hx
      have il : i < lf.length := (List.getElem?_eq_some_iff.mp hi).1
      have e : lf.getD i 0 = x := by rw [List.getD_eq_getElem?_getD, hi]; rfl
      have m := List.filter_eq_nil_iff.mp q i (List.mem_range.mpr (by have := h.len; omega))
      have := h.nn x hx
      rw [e] at m
      simp at m
      omega
    have s : lf.sum = 0 := by
      clear q
      have : ∀ l : List Int, (∀ x ∈ l, x = 0) → l.sum = 0 := by
        intro l
        induction l with
        | nil => intro _; rfl
        | cons a l ih => intro w; rw [List.sum_cons, w a (by simp), ih fun x hx => w x (by simp [hx])]; rfl
      exact this lf z
    have := h.sum
    omega
section
variable {c : Ct} {Γ : List (Option Rs)} {te ta tb : TE} {tt tu : TT} {k ka kb : Kd} {a : Bool} {P : Out → Prop} {n : Nat}
end
end Lm


/-! two places exchanged; drawn changes; which pairs a table keeps -/
namespace Lm
open PySem PySem.Spec PyProof.Rows L2
section
variable {c : Ct} {H H0 : Hp} {O : List Addr} {σ : L2.St} {Γ : List (Option Rs)} {te ta tb tx ty : TE} {k ka kb kc : Kd} {P : Out → Prop} {n m : Nat} {i j x y : Int} {ns : List Int} {u : TS}
end
/-- drawn steps from one assignment to one of another allocation -/
structure Chg (A B g : List Int) (v : Int) (n : Nat) (t : Int) : Prop where
  rng : ∀ x ∈ g, 0 ≤ x ∧ x < v
  len : (g.length : Int) = B.sum
  up : ∀ x : Nat, (x : Int) < v → A.getD x 0 ≤ B.getD x 0 → (g.count (x : Int) : Int) ≤ B.getD x 0
  dn : ∀ x : Nat, (x : Int) < v → B.getD x 0 < A.getD x 0 → (g.count (x : Int) : Int) = if x < n then B.getD x 0 else if x = n then A.getD x 0 - t else A.getD x 0
section
variable {A B g : List Int} {v b : Int} {n : Nat} {t : Int}
theorem Chg.step (h : Chg A B g v n t) (ht : 0 ≤ t ∧ t < A.getD n 0 - B.getD n 0) (hn : (n : Int) < v) {p x : Nat} (hp : p < g.length) (hg : g.getD p 0 = (n : Int)) (hx : (x : Int) < v) (hw : (g.count (x : Int) : Int) < B.getD x 0) : Chg A B (g.set p (x : Int)) v n (t + 1) := by
  have cn := h.dn n hn (by omega)
  rw [if_neg (by omega), if_pos rfl] at cn
  have nx : x ≠ n := fun e => by subst e; omega
  have e1 : g[p] = (n : Int) := by rw [← hg]; simp [List.getD_eq_getElem?_getD, hp]
  have pos : 1 ≤ g.count (n : Int) := List.count_pos_iff.mpr (e1 ▸ List.getElem_mem hp)
  have cnt : ∀ y : Nat, ((g.set p (x : Int)).count (y : Int) : Int) = (g.count (y : Int) : Int) - (if y = n then 1 else 0) + (if y = x then 1 else 0) := fun y => by
    rw [List.count_set hp, e1]
    by_cases h1 : y = n
    · subst h1
      have : ¬ (x : Int) = (y : Int) := by omega
      simp [this, show ¬ y = x by omega]
      omega
    · by_cases h2 : y = x
      · subst h2
        have : ¬ (n : Int) = (y : Int) := by omega
        simp [this, h1]
      · have a1 : ¬ (n : Int) = (y : Int) := by omega
        have a2 : ¬ (x : Int) = (y : Int) := by omega
        simp [a1, a2, h1, h2]
  refine ⟨fun z hz => ?_, by simpa using h.len, fun y hy hd => ?_, fun y hy hd => ?_⟩
  · rcases List.mem_or_eq_of_mem_set hz with w | w
    · exact h.rng z w
    · omega
  · have := h.up y hy hd
    rw [cnt y]
    by_cases h1 : y = n
    · subst h1; omega
    · by_cases h2 : y = x
      · subst h2; rw [if_neg h1, if_pos rfl]; omega
      · rw [if_neg h1, if_neg h2]; omega
  · have hc := h.dn y hy hd
    have y2 : y ≠ x := fun e => by
      subst e
      rw [hc] at hw
      by_cases q : y < n
      · rw [if_pos q] at hw; omega
      · rw [if_neg q, if_neg nx] at hw; omega
    rw [cnt y, hc, if_neg y2]
    by_cases h1 : y = n
    · subst h1
      rw [if_neg (by omega), if_pos rfl, if_pos rfl, if_neg (by omega), if_pos rfl]
      omega
    · rw [if_neg h1]
      simp only [if_neg h1]
      omega
end
/-! which pairs a table keeps -/
/-- a table of a plan -/
structure Tbl (T A : List (List Int)) (v b : Int) : Prop where
  ser : Ser A v b
  len : T.length = A.length
  ok : ∀ i < A.length, OkP (A.getD i [], T.getD i []) v b
end Lm


/-! which buckets fit: the mathematics -/
namespace Lm
open PySem PySem.Spec PyProof.Rows L2
abbrev Pk := Nat → Bool
/-- all its own are among the chosen -/
def insP (p : Pk) (own : List Int) : Bool := own.all fun y => p y.toNat
def rmP (as : List Int) (p : Pk) : Int := ((List.range as.length).map fun x => if p x then as.getD x 0 else 0).sum
def cfP (C : List (List Int)) (p : Pk) : Int := ((C.filter (insP p)).length : Nat)
def Hall (as : List Int) (C : List (List Int)) : Prop := ∀ p : Pk, cfP C p ≤ rmP as p
def dcI (x : Int) (as : List Int) : List Int := as.set x.toNat (as.getD x.toNat 0 - 1)
theorem dcI_len {x : Int} {as : List Int} : (dcI x as).length = as.length := by simp [dcI]
def b1 (b : Bool) : Int := if b then 1 else 0
theorem cf_cons {own : List Int} {C : List (List Int)} {p : Pk} : cfP (own :: C) p = cfP C p + b1 (insP p own) := by
  unfold cfP b1
  rw [List.filter_cons]
  split <;> simp
theorem cf_nn {C : List (List Int)} {p : Pk} : 0 ≤ cfP C p := by unfold cfP; omega
theorem sum_upd {g h : Nat → Int} : ∀ {n x : Nat}, x < n → (∀ i < n, i ≠ x → h i = g i) → ((List.range n).map h).sum = ((List.range n).map g).sum - g x + h x
  | n + 1, x, hx, e => by
    rw [List.range_succ, List.map_append, List.map_append, List.sum_append, List.sum_append]
    simp only [List.map_cons, List.map_nil, List.sum_cons, List.sum_nil]
    by_cases q : x = n
    · subst q
      have : (List.range x).map h = (List.range x).map g := List.map_congr_left fun i hi => e i (by have := List.mem_range.mp hi; omega) (by have := List.mem_range.mp hi; omega)
      rw [this]
      omega
    · have := sum_upd (n := n) (x := x) (g := g) (h := h) (by omega) fun i hi hn => e i (by omega) hn
      rw [this, e n (by omega) (fun z => q z.symm)]
      omega
theorem rm_dec {x : Int} {as : List Int} (hx : 0 ≤ x ∧ x < as.length) (p : Pk) : rmP (dcI x as) p = rmP as p - b1 (p x.toNat) := by
  unfold rmP
  rw [dcI_len]
  have xl : x.toNat < as.length := by omega
  have s : ∀ i, (dcI x as).getD i 0 = if x.toNat = i then as.getD x.toNat 0 - 1 else as.getD i 0 := fun i => getD_setI xl
  rw [sum_upd (g := fun i => if p i then as.getD i 0 else 0) xl fun i hi hn => by
    have e : (dcI x as).getD i 0 = as.getD i 0 := by rw [s, if_neg (fun z => hn z.symm)]
    rw [e]]
  rw [s, if_pos rfl]
  unfold b1
  split <;> omega
theorem rm_or (as : List Int) (p q : Pk) : rmP as (fun x => p x || q x) + rmP as (fun x => p x && q x) = rmP as p + rmP as q := by
  have e : ∀ (a c : Bool) (n : Int), (if (a || c) = true then n else 0) + (if (a && c) = true then n else 0) = (if a = true then n else 0) + (if c = true then n else 0) := fun a c n => by cases a <;> cases c <;> simp
  unfold rmP
  generalize List.range as.length = l
  induction l with
  | nil => rfl
  | cons x l ih =>
    have h1 := e (p x) (q x) (as.getD x 0)
    simp only [List.map_cons, List.sum_cons]
    simp only at ih
    omega
theorem ins_or {p q : Pk} {own : List Int} : insP p own = true → insP (fun x => p x || q x) own = true := fun h => by
  unfold insP at *
  rw [List.all_eq_true] at *
  intro y hy
  show (p y.toNat || q y.toNat) = true
  rw [h y hy]; rfl
theorem ins_or' {p q : Pk} {own : List Int} : insP q own = true → insP (fun x => p x || q x) own = true := fun h => by
  unfold insP at *
  rw [List.all_eq_true] at *
  intro y hy
  show (p y.toNat || q y.toNat) = true
  rw [h y hy, Bool.or_true]
theorem ins_and {p q : Pk} {own : List Int} : insP (fun x => p x && q x) own = (insP p own && insP q own) := by
  unfold insP
  induction own with
  | nil => rfl
  | cons y l ih =>
    simp only [List.all_cons, ih]
    cases p y.toNat <;> cases q y.toNat <;> simp
theorem cf_or (C : List (List Int)) (p q : Pk) : cfP C p + cfP C q ≤ cfP C (fun x => p x || q x) + cfP C (fun x => p x && q x) := by
  induction C with
  | nil => simp [cfP]
  | cons own C ih =>
    rw [cf_cons, cf_cons, cf_cons, cf_cons, ins_and]
    have h1 := ins_or (p := p) (q := q) (own := own)
    have h2 := ins_or' (p := p) (q := q) (own := own)
    unfold b1
    cases a : insP p own <;> cases c : insP q own <;> cases d : insP (fun x => p x || q x) own <;> simp_all <;> omega
/-- with such a bucket there is more in the two together -/
theorem cf_or1 {own : List Int} {C : List (List Int)} {p q : Pk} (h1 : insP p own = false) (h2 : insP q own = false) (h3 : insP (fun x => p x || q x) own = true) :
    cfP (own :: C) p + cfP (own :: C) q + 1 ≤ cfP (own :: C) (fun x => p x || q x) + cfP (own :: C) (fun x => p x && q x) := by
  have := cf_or C p q
  rw [cf_cons, cf_cons, cf_cons, cf_cons, ins_and, h1, h2, h3]
  simp only [b1, Bool.false_and, if_true, if_false, Bool.false_eq_true]
  omega
theorem hall_back {as own : List Int} {C : List (List Int)} {x : Int} (hx : x ∈ own) (x0 : 0 ≤ x ∧ x < as.length) (h : Hall (dcI x as) C) : Hall as (own :: C) := fun p => by
  have := h p
  rw [rm_dec x0] at this
  rw [cf_cons]
  unfold b1 at *
  cases q : insP p own with
  | false => split at this <;> simp only [if_false, Bool.false_eq_true] <;> omega
  | true =>
    unfold insP at q
    rw [List.all_eq_true.mp q x hx] at this
    simp only [if_true] at *
    omega
theorem hall_step {as own : List Int} {C : List (List Int)} (hr : ∀ y ∈ own, 0 ≤ y ∧ y < as.length) (h : Hall as (own :: C)) : ∃ x ∈ own, Hall (dcI x as) C := by
  refine Classical.byContradiction fun hc => ?_
  have bad : ∀ x ∈ own, ∃ p : Pk, p x.toNat = true ∧ insP p own = false ∧ cfP (own :: C) p = rmP as p := fun x hx => by
    refine Classical.byContradiction fun hn => hc ⟨x, hx, fun p => ?_⟩
    have hp := h p
    rw [rm_dec (hr x hx)]
    have hp' := hp
    rw [cf_cons] at hp
    unfold b1 at *
    cases q : insP p own with
    | true =>
      rw [q] at hp
      unfold insP at q
      rw [List.all_eq_true.mp q x hx]
      simp only [if_true] at *
      omega
    | false =>
      rw [q] at hp
      cases z : p x.toNat with
      | false => simp only [if_false, Bool.false_eq_true] at *; omega
      | true =>
        have ne : cfP (own :: C) p ≠ rmP as p := fun e => hn ⟨p, z, q, e⟩
        have e2 : cfP (own :: C) p = cfP C p := by rw [cf_cons, q]; simp [b1]
        simp only [if_true]
        omega
  have key : ∀ xs : List Int, (∀ x ∈ xs, x ∈ own) → ∃ U : Pk, insP U own = false ∧ (∀ x ∈ xs, U x.toNat = true) ∧ cfP (own :: C) U = rmP as U := by
    intro xs
    induction xs with
    | nil =>
      intro _
      have h0 := h fun _ => false
      have r0 : rmP as (fun _ => false) = 0 := by
        unfold rmP
        simp only [Bool.false_eq_true, if_false]
        exact sum_zeroN _
      have c0 := cf_nn (C := own :: C) (p := fun _ => false)
      have c1 := cf_nn (C := C) (p := fun _ => false)
      have hc0 := cf_cons (own := own) (C := C) (p := fun _ => false)
      refine ⟨fun _ => false, ?_, by simp, by omega⟩
      cases q : insP (fun _ => false) own with
      | false => rfl
      | true => rw [q] at hc0; simp only [b1, if_true] at hc0; omega
    | cons x xs ih =>
      intro hs
      obtain ⟨U, u1, u2, u3⟩ := ih fun y hy => hs y (by simp [hy])
      obtain ⟨p, p1, p2, p3⟩ := bad x (hs x (by simp))
      have hW := h fun y => U y || p y
      have hA := h fun y => U y && p y
      have ro := rm_or as U p
      refine ⟨fun y => U y || p y, ?_, fun y hy => ?_, ?_⟩
      · cases q : insP (fun y => U y || p y) own with
        | false => rfl
        | true =>
          have := cf_or1 (C := C) u1 p2 q
          omega
      · rcases List.mem_cons.mp hy with w | w
        · rw [w]; simp [p1]
        · simp [u2 y w]
      · have := cf_or (own :: C) U p
        omega
  obtain ⟨U, u1, u2, _⟩ := key own fun x hx => hx
  have : insP U own = true := by
    unfold insP
    rw [List.all_eq_true]
    exact u2
  rw [this] at u1
  cases u1
where sum_zeroN : ∀ l : List Nat, (l.map fun _ => (0 : Int)).sum = 0
  | [] => rfl
  | a :: l => by rw [List.map_cons, List.sum_cons, sum_zeroN l]; rfl
/-- each bucket has one of its own, and all shares are used up -/
def Fits : List Int → List (List Int) → List Int → Prop
  | as, [], [] => ∀ x ∈ as, x = 0
  | as, own :: C, x :: f => x ∈ own ∧ Fits (dcI x as) C f
  | _, _, _ => False
theorem sum_dcI {x : Int} {as : List Int} (hx : 0 ≤ x ∧ x < as.length) : (dcI x as).sum = as.sum - 1 := by
  unfold dcI
  rw [sum_setX (by omega)]
  omega
theorem rm_one {as : List Int} {x : Nat} (hx : x < as.length) : rmP as (fun y => decide (y = x)) = as.getD x 0 := by
  unfold rmP
  rw [sum_upd (g := fun _ => 0) hx fun i _ hn => by simp [hn], hall_step.sum_zeroN]
  simp
theorem hall_nn {as : List Int} {C : List (List Int)} (h : Hall as C) : ∀ x ∈ as, 0 ≤ x := fun x hx => by
  obtain ⟨i, hi⟩ := List.getElem?_of_mem hx
  have il := (List.getElem?_eq_some_iff.mp hi).1
  have := h fun y => decide (y = i)
  rw [rm_one il] at this
  have c := cf_nn (C := C) (p := fun y => decide (y = i))
  have e : as.getD i 0 = x := by rw [List.getD_eq_getElem?_getD, hi]; rfl
  omega
def Rng (C : List (List Int)) (n : Nat) : Prop := ∀ own ∈ C, ∀ y ∈ own, 0 ≤ y ∧ y < (n : Int)
theorem fit_hall : ∀ {C : List (List Int)} {as f : List Int}, Rng C as.length → Fits as C f → Hall as C
  | [], as, [], _, h => fun p => by
    have z : ∀ x ∈ as, x = 0 := h
    have e : rmP as p = 0 := by
      unfold rmP
      rw [List.map_congr_left (g := fun _ => (0 : Int)) fun i hi => by
        have : as.getD i 0 = 0 := z _ (gd_mem (List.mem_range.mp hi))
        rw [this]; split <;> rfl]
      exact hall_step.sum_zeroN _
    rw [e]
    simp [cfP]
  | own :: C, as, x :: f, hr, h => by
    obtain ⟨hx, hf⟩ := h
    exact hall_back hx (hr own (by simp) x hx) (fit_hall (by rw [dcI_len]; exact fun o ho => hr o (by simp [ho])) hf)
  | [], _, _ :: _, _, h => absurd h id
  | _ :: _, _, [], _, h => absurd h id
open Classical in
noncomputable def grd : List Int → List (List Int) → List Int
  | _, [] => []
  | as, own :: C => (own.filter fun x => decide (Hall (dcI x as) C)).headD 0 :: grd (dcI ((own.filter fun x => decide (Hall (dcI x as) C)).headD 0) as) C
theorem headF_mem {l : List Int} {p : Int → Bool} (h : ∃ x ∈ l, p x = true) : (l.filter p).headD 0 ∈ l ∧ p ((l.filter p).headD 0) = true := by
  obtain ⟨x, hx, hp⟩ := h
  have m : x ∈ l.filter p := List.mem_filter.mpr ⟨hx, hp⟩
  cases q : l.filter p with
  | nil => rw [q] at m; cases m
  | cons y r =>
    have : y ∈ l.filter p := by rw [q]; simp
    exact List.mem_filter.mp this
open Classical in
theorem grd_fit : ∀ {C : List (List Int)} {as : List Int}, Rng C as.length → Hall as C → as.sum = C.length → Fits as C (grd as C)
  | [], as, _, h, hs => fun x hx => by
    have nn := hall_nn h
    have := nn x hx
    have := le_sum nn x hx
    simp at hs
    omega
  | own :: C, as, hr, h, hs => by
    have ro := hr own (by simp)
    obtain ⟨x, hx, hh⟩ := hall_step ro h
    obtain ⟨m1, m2⟩ := headF_mem (l := own) (p := fun x => decide (Hall (dcI x as) C)) ⟨x, hx, decide_eq_true hh⟩
    have m2 := of_decide_eq_true m2
    refine ⟨m1, grd_fit (by rw [dcI_len]; exact fun o ho => hr o (by simp [ho])) m2 ?_⟩
    rw [sum_dcI (ro _ m1), hs]
    simp
end Lm


/-! which buckets fit: by all sets of variants -/
namespace Lm
open PySem PySem.Spec PyProof.Rows L2
theorem cmb_sub : ∀ {l : List Nat} {k : Nat} {s : List Nat}, s ∈ cmbL l k → s.Sublist l
  | _, 0, s, h => by
    have : s = [] := by simpa [cmbL] using h
    rw [this]
    exact List.nil_sublist _
  | [], k + 1, s, h => by simp [cmbL] at h
  | a :: l, k + 1, s, h => by
    rcases List.mem_append.mp h with w | w
    · obtain ⟨t, ht, rfl⟩ := List.mem_map.mp w
      exact (cmb_sub ht).cons_cons a
    · exact (cmb_sub w).cons a
/-- all sets of variants, the smaller ones first -/
def vsN (v : Nat) : List (List Nat) := (List.range (v + 1)).flatMap fun k => cmbs v k
theorem vs_sub {v : Nat} {s : List Nat} (h : s ∈ vsN v) : s.Sublist (List.range v) := by
  obtain ⟨k, _, hs⟩ := List.mem_flatMap.mp h
  exact cmb_sub hs
def inS (s : List Nat) : Pk := fun x => decide (x ∈ s)
/-- what a set of variants has, and how many buckets need it -/
def roomI (as : List Int) (s : List Nat) : Int := (s.map fun x => as.getD x 0).sum
theorem sum_sub {g : Nat → Int} : ∀ {l s : List Nat}, s.Sublist l → l.Nodup → (s.map g).sum = (l.map fun x => if decide (x ∈ s) then g x else 0).sum
  | _, _, .slnil, _ => rfl
  | a :: l, s, .cons _ h, nd => by
    have na : a ∉ s := fun m => (List.nodup_cons.mp nd).1 (h.subset m)
    rw [List.map_cons, List.sum_cons, sum_sub h (List.nodup_cons.mp nd).2, decide_eq_false na]
    simp
  | a :: l, _ :: s, .cons_cons _ h, nd => by
    have nd' := List.nodup_cons.mp nd
    rw [List.map_cons, List.sum_cons, List.map_cons, List.sum_cons, sum_sub h nd'.2]
    have e : (l.map fun x => if decide (x ∈ s) then g x else 0) = l.map fun x => if decide (x ∈ a :: s) then g x else 0 := List.map_congr_left fun x hx => by
      have : x ≠ a := fun e => nd'.1 (e ▸ hx)
      simp [this]
    rw [e]
    simp
theorem room_rm {as : List Int} {s : List Nat} (h : s ∈ vsN as.length) : roomI as s = rmP as (inS s) := sum_sub (vs_sub h) List.nodup_range
theorem fits_iff : ∀ {C : List (List Int)} {as f : List Int}, Rng C as.length → (Fits as C f ↔ f.length = C.length ∧ (∀ i < f.length, f.getD i 0 ∈ C.getD i []) ∧ ∀ x < as.length, (f.count (x : Int) : Int) = as.getD x 0)
  | [], as, [], _ => by
    constructor
    · intro h
      exact ⟨rfl, by simp, fun x hx => by
        have h' : ∀ x ∈ as, x = 0 := h
        rw [h' _ (gd_mem hx)]; rfl⟩
    · rintro ⟨_, _, h⟩ x hx
      obtain ⟨i, hi⟩ := List.getElem?_of_mem hx
      have := h i (List.getElem?_eq_some_iff.mp hi).1
      rw [List.getD_eq_getElem?_getD, hi] at this
      simpa using this.symm
  | own :: C, as, x :: f, hr => by
    have rC : Rng C (dcI x as).length := by rw [dcI_len]; exact fun o ho => hr o (by simp [ho])
    have ih := fits_iff (as := dcI x as) (f := f) rC
    have cnt : ∀ (x0 : 0 ≤ x ∧ x < as.length) (y : Nat), y < as.length → (((x :: f).count (y : Int) : Int) = as.getD y 0 ↔ (f.count (y : Int) : Int) = (dcI x as).getD y 0) := fun x0 y hy => by
      have e : (dcI x as).getD y 0 = if x.toNat = y then as.getD x.toNat 0 - 1 else as.getD y 0 := getD_setI (by omega)
      rw [e, List.count_cons]
      by_cases w : x.toNat = y
      · subst w
        have : x = ((x.toNat : Nat) : Int) := by omega
        rw [if_pos rfl, if_pos (by rw [beq_iff_eq]; exact this)]
        omega
      · have : ¬ x = (y : Int) := by omega
        rw [if_neg w, if_neg (by simpa using this)]
        omega
    show x ∈ own ∧ Fits (dcI x as) C f ↔ _
    rw [ih, dcI_len]
    constructor
    · rintro ⟨hx, h1, h2, h3⟩
      have x0 := hr own (by simp) x hx
      refine ⟨by simp [h1], fun i hi => ?_, fun y hy => (cnt x0 y hy).mpr (h3 y hy)⟩
      cases i with
      | zero => exact hx
      | succ i => exact h2 i (by simpa using hi)
    · rintro ⟨h1, h2, h3⟩
      have hx : x ∈ own := h2 0 (by simp)
      have x0 := hr own (by simp) x hx
      exact ⟨hx, by simpa using h1, fun i hi => h2 (i + 1) (by simpa using hi), fun y hy => (cnt x0 y hy).mp (h3 y hy)⟩
  | [], _, _ :: _, _ => by simp [Fits]
  | _ :: _, _, [], _ => by simp [Fits]
end Lm


/-! which buckets fit: the promises -/
namespace Lm
open PySem PySem.Spec PyProof.Rows L2
structure Mns (C : List (List Int)) (n : Nat) : Prop where
  rng : Rng C n
  len : C.length ≤ 20
  own : ∀ own ∈ C, own.length ≤ 5
section
variable {c : Ct} {Γ : List (Option Rs)} {tl : TE} {k : Kd} {C : List (List Int)} {d : PyData}
end
end Lm


/-! shortages, and how rules go on -/
namespace Lm
open PySem PySem.Spec PyProof.Rows L2
/-- the first set of variants that is too small -/
def shS (as : List Int) (C : List (List Int)) : Option (List Nat) := (vsN as.length).find? fun s => decide (roomI as s < cfP C (inS s))
theorem sh_some {as : List Int} {C : List (List Int)} {s : List Nat} (h : shS as C = some s) : s ∈ vsN as.length ∧ roomI as s < cfP C (inS s) := by
  unfold shS at h
  have q := List.find?_some h
  exact ⟨List.mem_of_find?_eq_some h, by simpa using q⟩
section
variable {c : Ct} {Γ : List (Option Rs)} {tl tb : TE} {kb : Kd} {C : List (List Int)} {cd : PyData}
end
/-! rules -/
end Lm


/-! walks over zip of a list and a tuple; pairs that are drawn; forbidden pairs, pins, menus, bounds by levels -/
namespace Lm
open PySem PySem.Spec PyProof.Rows L2
section
variable {X : Cx} {K : PySem.W.Frag} (hK : X.K = K)
include hK
end
section
variable {c : Ct} {H H' H0 H1 H2 H3 : Hp} {O : List Addr} {Γ Γ' Γ1 : List (Option Rs)}
variable {te ta tb tx ty : TE} {k ka kb kc : Kd} {d x y z : PyData} {ds es : List PyData}
end
/-! ### mathematics -/
/-- pairs of buckets and variants, ascending -/
structure Prd (F : List (List Int)) (v b : Nat) : Prop where
  row : ∀ r ∈ F, ∃ x y : Nat, r = [(x : Int), (y : Int)] ∧ x < b ∧ y < v
  asc : F.Pairwise fun a b => TS.code 1000 a < TS.code 1000 b
  len : F.length ≤ 36
theorem Prd.filter {F : List (List Int)} {v b : Nat} (h : Prd F v b) (p : List Int → Bool) : Prd (F.filter p) v b :=
  ⟨fun r hr => h.row r (List.mem_filter.mp hr).1, h.asc.filter _, Nat.le_trans (List.length_filter_le _ _) h.len⟩
/-- pins: of different buckets -/
structure Pin (P : List (List Int)) (v b : Nat) : Prop extends Prd P v b where
  fst : P.Pairwise fun p q => p.getD 0 0 < q.getD 0 0
def psL (as : List Int) (v : Int) (b : Nat) (C : List (List Int)) : List (List Int) := (allL v b).filter fun f => decide (countsI f v = as) && ((List.range b).map fun k => decide (f.getD k 0 ∈ C.getD k [])).all id
theorem mem_psL {as f : List Int} {v : Int} {b : Nat} {C : List (List Int)} (hv : 0 ≤ v) : f ∈ psL as v b C ↔ f.length = b ∧ (∀ x ∈ f, 0 ≤ x ∧ x < v) ∧ countsI f v = as ∧ ∀ k < b, f.getD k 0 ∈ C.getD k [] := by
  unfold psL
  rw [List.mem_filter, mem_allL hv, Bool.and_eq_true, List.all_map, List.all_eq_true]
  simp only [decide_eq_true_eq, List.mem_range, Function.comp, id]
  constructor
  · rintro ⟨⟨h1, h2⟩, h3, h4⟩; exact ⟨h1, h2, h3, h4⟩
  · rintro ⟨h1, h2, h3, h4⟩; exact ⟨⟨h1, h2⟩, h3, h4⟩
def wrtI (h : Int) (ls : List Int) (y : Int) : Int := (if y = h then 1 else 0) - ls.getD y.toNat 0
def gw (own : List Int) (h : Int) (ls : List Int) : Int := mxL (own.map (wrtI h ls))
def gwS (C : List (List Int)) (f ls : List Int) : Int := ((C.zip f).map fun p => gw p.1 p.2 ls).sum
def mulI (a b : Int) : Int := a * b
theorem gw_ge {own ls : List Int} {h y : Int} (hy : y ∈ own) : wrtI h ls y ≤ gw own h ls := mxL_le _ (List.mem_map_of_mem hy)
/-- no row keeps more than the bound, less the levels it takes -/
theorem kept_le {ls : List Int} : ∀ {C : List (List Int)} {f r : List Int}, C.length = f.length → r.length = f.length → (∀ k < r.length, r.getD k 0 ∈ C.getD k []) →
    (f.length : Int) - zs ne1 f r ≤ gwS C f ls + (r.map fun y => ls.getD y.toNat 0).sum
  | [], [], [], _, _, _ => by simp [gwS, zs]
  | own :: C, h :: f, y :: r, h1, h2, hm => by
    have ih := kept_le (ls := ls) (C := C) (f := f) (r := r) (by simpa using h1) (by simpa using h2) fun k hk => by have := hm (k + 1) (by simpa using hk); simpa using this
    have m0 : y ∈ own := by have := hm 0 (by simp); simpa using this
    have g := gw_ge (ls := ls) (h := h) m0
    have e : gwS (own :: C) (h :: f) ls = gw own h ls + gwS C f ls := by simp [gwS]
    have en : ne1 h y = if h = y then 0 else 1 := rfl
    rw [zs_cons, e, en, List.map_cons, List.sum_cons, List.length_cons]
    unfold wrtI at g
    by_cases q : h = y
    · rw [if_pos q.symm] at g
      rw [if_pos q]
      omega
    · rw [if_neg (fun z => q z.symm)] at g
      rw [if_neg q]
      omega
  | [], _ :: _, _, h, _, _ => by simp at h
  | _ :: _, [], _, h, _, _ => by simp at h
  | _, [], _ :: _, _, h, _ => by simp at h
  | _, _ :: _, [], _, h, _ => by simp at h
theorem nil_sum {α : Type} : ∀ l : List α, (l.map fun _ => (0 : Int)).sum = 0
  | [] => rfl
  | _ :: l => by rw [List.map_cons, List.sum_cons, nil_sum l]; rfl
theorem pick_sum {g : Nat → Int} {x : Nat} : ∀ n : Nat, x < n → ((List.range n).map fun k => if k = x then g k else 0).sum = g x
  | 0, h => by omega
  | n + 1, h => by
    rw [List.range_succ, List.map_append, List.sum_append, List.map_singleton, List.sum_singleton]
    by_cases e : x = n
    · subst e
      have : ((List.range x).map fun k => if k = x then g k else 0) = (List.range x).map fun _ => (0 : Int) := List.map_congr_left fun k hk => if_neg (by have := List.mem_range.mp hk; omega)
      rw [this, if_pos rfl, nil_sum]
      omega
    · rw [pick_sum n (by omega), if_neg (fun z => e z.symm)]
      omega
/-- what the levels give in all -/
theorem lev_sum {ls : List Int} {v : Nat} (hl : ls.length = v) : ∀ {r : List Int}, (∀ x ∈ r, 0 ≤ x ∧ x < (v : Int)) → (r.map fun y => ls.getD y.toNat 0).sum = zs mulI (countsI r v) ls
  | [], _ => by
    unfold zs
    rw [countsI_len, Int.toNat_natCast]
    have : ((List.range v).map fun j => mulI ((countsI [] v).getD j 0) (ls.getD j 0)) = (List.range v).map fun _ => (0 : Int) := List.map_congr_left fun j hj => by
      rw [countsI_get (by have := List.mem_range.mp hj; omega)]
      simp [mulI]
    rw [this, nil_sum]
    rfl
  | y :: r, h => by
    have ih := lev_sum hl (r := r) fun x hx => h x (by simp [hx])
    obtain ⟨y0, y1⟩ := h y (by simp)
    obtain ⟨Y, rfl⟩ := Int.eq_ofNat_of_zero_le y0
    rw [List.map_cons, List.sum_cons, ih, Int.toNat_natCast]
    unfold zs
    rw [countsI_len, countsI_len, Int.toNat_natCast]
    have e : ∀ j ∈ List.range v, mulI ((countsI ((Y : Int) :: r) v).getD j 0) (ls.getD j 0) = (if j = Y then ls.getD j 0 else 0) + mulI ((countsI r v).getD j 0) (ls.getD j 0) := fun j hj => by
      have hj' : (j : Int) < v := by have := List.mem_range.mp hj; omega
      rw [countsI_get hj', countsI_get hj', List.count_cons]
      unfold mulI
      by_cases q : j = Y
      · subst q
        simp [Int.add_mul]
        omega
      · have : ¬ ((Y : Int) = (j : Int)) := by omega
        simp [q, this]
    rw [List.map_congr_left e]
    have add : ∀ (f g : Nat → Int) (l : List Nat), (l.map fun i => f i + g i).sum = (l.map f).sum + (l.map g).sum := fun f g l => by
      induction l with
      | nil => rfl
      | cons a l ih => rw [List.map_cons, List.sum_cons, List.map_cons, List.sum_cons, List.map_cons, List.sum_cons, ih]; omega
    rw [add, pick_sum (g := fun j => ls.getD j 0) v (by omega)]
/-- no possible assignment keeps more than the bound -/
theorem weak {as f r ls : List Int} {v b : Nat} {C : List (List Int)} (hC : C.length = b) (hf : f.length = b) (hl : ls.length = v) (hr : r ∈ psL as v b C) : [] ∉ C ∧ (b : Int) - zs ne1 f r ≤ zs mulI as ls + gwS C f ls := by
  obtain ⟨h1, h2, h3, h4⟩ := (mem_psL (by omega)).mp hr
  refine ⟨fun z => ?_, ?_⟩
  · obtain ⟨k, hk, e⟩ := List.getElem_of_mem z
    have := h4 k (by omega)
    rw [List.getD_eq_getElem?_getD, List.getD_eq_getElem?_getD, List.getElem?_eq_getElem hk, e] at this
    simp at this
  · have := kept_le (ls := ls) (C := C) (f := f) (r := r) (by omega) (by omega) fun k hk => h4 k (by omega)
    rw [lev_sum hl h2, h3] at this
    omega
end Lm


/-! forbidden pairs and pins that are drawn; promises -/
namespace Lm
open PySem PySem.Spec PyProof.Rows L2
structure PrdN (F : List (List Int)) (v n m : Nat) : Prop where
  row : ∀ r ∈ F, ∃ x y : Nat, r = [(x : Int), (y : Int)] ∧ y < v ∧ x * 1000 + y < n * 1000 + m
  asc : F.Pairwise fun a b => TS.code 1000 a < TS.code 1000 b
  len : F.length ≤ n * v + m
theorem PrdN.nil {v : Nat} : PrdN [] v 0 0 := ⟨by simp, List.Pairwise.nil, by simp⟩
structure PinN (P : List (List Int)) (v n : Nat) : Prop where
  row : ∀ r ∈ P, ∃ x y : Nat, r = [(x : Int), (y : Int)] ∧ x < n ∧ y < v
  fst : P.Pairwise fun p q => p.getD 0 0 < q.getD 0 0
  len : P.length ≤ n
theorem PinN.nil {v : Nat} : PinN [] v 0 := ⟨by simp, List.Pairwise.nil, by simp⟩
theorem Pin.nil {v b : Nat} : Pin [] v b := { row := by simp, fst := List.Pairwise.nil, len := by simp, asc := List.Pairwise.nil }
structure Exc (as f : List Int) (F P : List (List Int)) (v b : Nat) : Prop where
  v1 : 1 ≤ v
  v5 : v ≤ 5
  b6 : b ≤ 6
  asg : Asg f (v : Int)
  len : f.length = b
  alc : Alc as (v : Int) (b : Int)
  prd : Prd F v b
  pin : Pin P v b
end Lm


/-! lists that stay: displays of anything, put together, subscripts -/
namespace Lm
open PySem PySem.Spec PyProof.Rows L2
def rCatS (K : PySem.W.Frag) : R2 := fun x y H Q => ∃ l b xs zs, x = .ref l ∧ y = .ref b ∧ SqL K H l xs ∧ SqL K H b zs ∧ xs.length + zs.length ≤ sizeLine ∧ ∀ p, H p = none → Q (.ref p) (upd H p (.lst (xs ++ zs)))
theorem op_catS {X : Cx} : OpR X (binaryOp .Add) (rCatS X.K) := by
  intro pins s σ H x y v u Q I rx ry h
  obtain ⟨l, b, xs, zs, rfl, rfl, hH, hB, hz, q⟩ := h
  cases rx
  cases ry
  obtain ⟨its, r, p1, z⟩ := I.list hH
  obtain ⟨its2, r2, p2, z2⟩ := I.list hB
  have l1 := r.length
  have l2 := r2.length
  obtain ⟨⟨cls, dd, data, sl⟩, ho, hc, n, hd⟩ := p1.isList
  obtain ⟨⟨cls2, dd2, data2, sl2⟩, ho2, hc2, n2, hd2⟩ := p2.isList
  simp only at hc hd hc2 hd2
  subst hc hd hc2 hd2
  have ea : its.toArray ++ its2.toArray = (its ++ its2).toArray := by simp
  refine concat_meets ⟨_, ho, rfl⟩ ⟨_, ho2, rfl⟩ noFill_list_add seq_list_add PySem.F.slot_list_add PySem.F.entry_list_add (PySem.F.args_list_add_2 _ _) (list_addW l b its.toArray its2.toArray n n2 dd dd2 sl sl2 (by simp; omega)) ⟨ho, ho2, ?_⟩
  rw [ea]
  exact ⟨.ref _, _, I.lnew (t' := s.toks) (r.append r2) (by rw [List.length_append]; omega), rfl, q _ I.fresh⟩
section
variable {X : Cx} {K : PySem.W.Frag} (hK : X.K = K)
include hK
theorem k_catS : OpR X (binaryOp .Add) (rCatS K) := hK ▸ op_catS
end
section
variable {c : Ct} {Γ : List (Option Rs)} {te ta tb : TE} {tr : TA} {k ka kb : Kd} {d : PyData} {ds es : List PyData}
theorem Ev.frz (h : Ev c te Γ .o d) : Ev c te Γ .v d := fun H0 O H σ e Q q => h H0 O H σ e _ fun v H2 r s => q v H2 r (Res.frozen e r s ko_ne)
/-- a new list of things that stay -/
theorem newV {H0 H H2 : Hp} {O : List Addr} {σ : L2.St} {xs : List V} {p : Addr} (e : Env c H0 O H2 σ Γ) (al : BoAll c (mns H2 O) xs ds) (hp : H2 p = none) : Bo c (mns (upd H2 p (.lst xs)) O) (.ref p) (.list ds) := by
  have sm : Same H2 (upd H2 p (.lst xs)) := fun b o z => by rw [upd_ne (ne_of_none z hp)]; exact z
  have r4 : Rr c H2 (upd H2 p (.lst xs)) := Rr.same sm
  have no := new_notO e hp
  refine .lst (okA.fresh e.jH hp) (.inl ?_) (al.mono e.j (r4.mns e.j e.okO))
  left
  rw [mns_out no]
  exact upd_same
theorem e_lstV (h : EvA c tr Γ true ds) (hl : ds.length ≤ 1000000) : Ev c (tLst tr) Γ .v (.list ds) := fun H0 O H σ e Q q =>
  h H0 O H σ e _ fun vs H1 r s => by
    have s' := BoAll.vm s
    refine ⟨by rw [s'.len]; exact sizeOk hl, fun p hp => q _ _ (r.tr (Rr.same fun b u z => by rw [upd_ne (ne_of_none z hp)]; exact z)) (newV (H := H1) (e.on r) s' hp)⟩
theorem e_catS (ha : Ev c ta Γ .v (.list ds)) (hb : Ev c tb Γ .v (.list es)) (hl : ds.length + es.length ≤ 1000000) : Ev c (tOp (rCatS c.K) ta tb) Γ .v (.list (ds ++ es)) := fun H0 O H σ e Q q =>
  ha H0 O H σ e _ fun v H1 r1 s1 => hb H0 O H1 σ (e.on r1) _ fun u H2 r2 s2 => by
    have bv : Bo c (mns H2 O) v (.list ds) := Res.on (k := .v) e r1 r2 s1
    have bu : Bo c (mns H2 O) u (.list es) := s2
    obtain ⟨p, xs, rfl, _, sl, al⟩ := bv.lst'
    obtain ⟨b, zs, rfl, _, sl2, al2⟩ := bu.lst'
    refine ⟨p, b, xs, zs, rfl, rfl, mns_same.seq sl, mns_same.seq sl2, by rw [al.len, al2.len]; exact sizeOk hl, fun p' hp' => ?_⟩
    have r := r1.tr r2
    exact q _ _ (r.tr (Rr.same fun b u z => by rw [upd_ne (ne_of_none z hp')]; exact z)) (newV (H := H) (e.on r) (al.app al2) hp')
end
end Lm


/-! possible assignments: which come first, what is none -/
namespace Lm
open PySem PySem.Spec PyProof.Rows L2
theorem mem_ps {as f : List Int} {v b : Nat} {C : List (List Int)} (al : as.length = v) (hC : C.length = b) (hr : Rng C v) : f ∈ psL as v b C ↔ Fits as C f := by
  rw [mem_psL (by omega), fits_iff (by rw [al]; exact hr), hC]
  have cnt : (countsI f v = as ↔ ∀ x < as.length, (f.count (x : Int) : Int) = as.getD x 0) := by
    constructor
    · intro h x hx
      rw [← h, countsI_get (by omega)]
    · intro h
      apply List.ext_getElem
      · rw [countsI_len]; omega
      · intro i h1 h2
        have e1 : (countsI f v).getD i 0 = (f.count (i : Int) : Int) := countsI_get (by omega)
        rw [h i h2] at e1
        simpa [List.getD_eq_getElem?_getD, h1, h2] using e1
  constructor
  · rintro ⟨h1, h2, h3, h4⟩
    exact ⟨h1, fun i hi => h4 i (by omega), cnt.mp h3⟩
  · rintro ⟨h1, h2, h3⟩
    refine ⟨h1, fun x hx => ?_, cnt.mpr h3, fun k hk => h2 k (by omega)⟩
    obtain ⟨i, hi⟩ := List.getElem?_of_mem hx
    have il := (List.getElem?_eq_some_iff.mp hi).1
    have m := h2 i il
    have fx : f.getD i 0 = x := by rw [List.getD_eq_getElem?_getD, hi]; rfl
    rw [fx] at m
    exact hr _ (gL_mem (by omega)) x m
theorem rep_flat {d : PyData} : ∀ n : Nat, (List.replicate n [d]).flatten = List.replicate n d
  | 0 => rfl
  | n + 1 => by rw [List.replicate_succ, List.flatten_cons, rep_flat n]; rfl
end Lm


/-! xs[i] -= 1, xs a list of ints -/
namespace Lm
open PySem PySem.Spec PyProof.Rows L2
def rGetL (K : PySem.W.Frag) : V → V → Hp → VK → Prop := fun o i H Q => ∃ (p : Addr) (xs : List V) (m : Nat) (v : V), o = .ref p ∧ i = .int (m : Int) ∧ SqL K H p xs ∧ xs[m]? = some v ∧ Q v H
theorem get_list {X : Cx} : PGet X (rGetL X.K) := by
  intro pins s σ H o i ov iv Q I ro ri h
  obtain ⟨p, xs, m, v, rfl, rfl, hq, hv, q⟩ := h
  cases ro
  obtain ⟨t, rfl⟩ := ri
  obtain ⟨its, r, pl, hz⟩ := I.list hq
  obtain ⟨w, ew, rw'⟩ := r.get hv
  have hn := line63
  have hl := r.length
  have hm : m < xs.length := (List.getElem?_eq_some_iff.mp hv).1
  exact wpAny_getItem_list pl.isList (by omega) (by omega) (by simpa using ew) ⟨v, H, I, rw', q⟩
section
variable {X : Cx} {K : PySem.W.Frag} (hK : X.K = K)
include hK
theorem k_getL : PGet X (rGetL K) := hK ▸ get_list
end
section
variable {c : Ct} {Γ : List (Option Rs)} {te ta : TE} {k ka : Kd} {n m : Nat} {j : Int} {ns : List Int} {P : Out → Prop} {u : TS}
theorem s_augL {f : Int → Int → Int} (hx : Γ[n]? = some (some (.o (.list (ns.map .int))))) (hi : Ev c ta Γ ka (.int (m : Int))) (hm : m < ns.length) (h : Ev c te Γ k (.int j)) (p : P (.nx (Γ.set n (some (.o (.list ((ns.set m (f (ns.getD m 0) j)).map .int))))))) : Sd c (tAugS (tVar n) ta te (rGetL c.K) (ipI f) rSetL) Γ P := fun H0 O H σ D e s => by
  obtain ⟨q, xs, f1, hq, hp, fa, _⟩ := e.write (es := (ns.set m (f (ns.getD m 0) j)).map .int) hx
  refine ⟨.ref q, hq, hi H0 O H σ e _ fun w H2 r2 ws => ?_⟩
  have e2 := e.on r2
  obtain ⟨q2, xs2, f2, hq2, hp2, fa2, _⟩ := e2.write (es := (ns.set m (f (ns.getD m 0) j)).map .int) hx
  have eq2 : q2 = q := by rw [hq] at hq2; cases hq2; rfl
  subst eq2
  obtain ⟨_, ba2⟩ := fa2.flat0 (flatAll_ints ns)
  have i2 := ba2.ints
  subst i2
  refine ⟨q2, ns.map V.int, m, .int (ns.getD m 0), rfl, (Res.bo e ws).int', .inl (.inl hp2), by simp [List.getD_eq_getElem?_getD, hm], ?_⟩
  refine h H0 O H2 σ e2 _ fun y H4 r4 ys => ⟨_, _, rfl, (Res.bo e2 ys).int', ?_⟩
  have e4 := e2.on r4
  obtain ⟨q3, xs3, f3, hq3, hp3, fa3, qf3, qO3, wr⟩ := e4.write (es := (ns.set m (f (ns.getD m 0) j)).map .int) hx
  have eq3 : q3 = q2 := by rw [hq] at hq3; cases hq3; rfl
  subst eq3
  obtain ⟨e0, ba3⟩ := fa3.flat0 (flatAll_ints ns)
  have i3 := ba3.ints
  subst i3
  subst e0
  refine ⟨q3, ns.map V.int, (m : Int), m, rfl, (Res.bo e ws).int', hp3, ixN_at rfl (by simpa using hm), s _ p O _ σ (wr _ ?_)⟩
  have := (FoAll.set0 (m := m) (x := V.int (f (ns.getD m 0) j)) (e := PyData.int (f (ns.getD m 0) j)) fa3 rfl (.int _)).up (H' := upd H4 q3 (.lst ((ns.map V.int).set m (.int (f (ns.getD m 0) j))))) (fun _ _ s => sqT_upd hp3 s) fun a ha => absurd ha (by simp)
  rw [List.map_set]
  exact this
end
end Lm


/-! closed rules: the first allocation that lacks -/
namespace Lm
open PySem PySem.Spec PyProof.Rows L2
def le1 (v : Nat) (o a : List Int) : Bool := ((List.range (v - 1)).map fun k => decide (o.getD (k + 1) 0 ≤ a.getD (k + 1) 0)).all id
end Lm


/-! entries of families -/
namespace Lm
open PySem PySem.Spec PyProof.Rows L2
def entI (i : Nat) (n : Int) : List (List Int) := (List.range n.toNat).map fun (p : Nat) => [((i + 1 : Nat) : Int), (p : Int)]
def entL (ns : List Int) : List (List Int) := (List.range ns.length).flatMap fun i => entI i (ns.getD i 0)
/-- the row uses the entry -/
def usB (r e : List Int) : Bool := decide (e.getD 1 0 < r.getD (e.getD 0 0 - 1).toNat 0)
def togB (F : List (List Int)) (e f : List Int) : Bool := !decide (e = f) && (F.map fun r => usB r e && usB r f).any id
/-- the entries -/
theorem mem_ent {ns e : List Int} : e ∈ entL ns ↔ ∃ x y : Nat, e = [((x + 1 : Nat) : Int), (y : Int)] ∧ x < ns.length ∧ (y : Int) < ns.getD x 0 := by
  unfold entL entI
  simp only [List.mem_flatMap, List.mem_map, List.mem_range]
  constructor
  · rintro ⟨x, hx, y, hy, rfl⟩
    exact ⟨x, y, rfl, hx, by omega⟩
  · rintro ⟨x, y, rfl, hx, hy⟩
    exact ⟨x, hx, y, by omega, rfl⟩
end Lm


/-! sorted(xs), xs a list of rows -/
namespace L2
open PySem PySem.Spec PyProof.Rows
end L2
namespace Lm
open PySem PySem.Spec PyProof.Rows L2
section
variable {X : Cx} {K : PySem.W.Frag} (hK : X.K = K)
include hK
end
section
variable {c : Ct} {Γ : List (Option Rs)} {te : TE} {k : Kd}
end
end Lm


/-! tuple * -1 -/
namespace L2
open PySem PySem.Spec PyProof.Rows
end L2
namespace Lm
open PySem PySem.Spec PyProof.Rows L2
section
variable {X : Cx} {K : PySem.W.Frag} (hK : X.K = K)
include hK
end
section
variable {c : Ct} {Γ : List (Option Rs)} {ta tb : TE} {ka kb : Kd} {ds : List PyData} {i : Int}
end
end Lm


namespace Lm
open PySem PySem.Spec PyProof.Rows L2

/-! ### pairs of entries that are used together -/
abbrev E2 := List Int × List Int
structure UsP (A : List (List Int)) (s : List Int) (k : Nat) (Ps : List E2) : Prop where
  nd : Ps.Nodup
  mem : ∀ e f, (e, f) ∈ Ps ↔ (∃ r ∈ A, e ∈ entL r ∧ f ∈ entL r ∧ e ≠ f) ∨ (e ∈ (entL s).take k ∧ f ∈ entL s ∧ e ≠ f)
theorem UsP.nil : UsP [] [] 0 [] := ⟨List.nodup_nil, fun e f => by simp⟩
def newP (s e : List Int) (Ps : List E2) : List E2 := ((entL s).filter fun g => !decide (e = g) && !decide ((e, g) ∈ Ps)).map fun g => (e, g)
theorem UsP.step {A : List (List Int)} {s e : List Int} {k : Nat} {Ps : List E2} (h : UsP A s k Ps) (nd : (entL s).Nodup) (hk : (entL s)[k]? = some e) : UsP A s (k + 1) (Ps ++ newP s e Ps) := by
  refine ⟨?_, fun a b => ?_⟩
  · rw [List.nodup_append]
    refine ⟨h.nd, ?_, fun x hx y hy z => ?_⟩
    · exact List.Pairwise.map _ (fun a b ne z => ne (Prod.mk.inj z).2) (nd.filter _)
    · obtain ⟨g, hg, rfl⟩ := List.mem_map.mp hy
      have := (List.mem_filter.mp hg).2
      rw [Bool.and_eq_true] at this
      subst z
      have w := this.2
      rw [decide_eq_true hx] at w
      cases w
  · rw [List.mem_append, h.mem, List.take_add_one, hk]
    constructor
    · rintro ((w | w) | w)
      · exact .inl w
      · exact .inr ⟨List.mem_append_left _ w.1, w.2⟩
      · obtain ⟨g, hg, z⟩ := List.mem_map.mp w
        obtain ⟨rfl, rfl⟩ := Prod.mk.inj z
        obtain ⟨m, q⟩ := List.mem_filter.mp hg
        rw [Bool.and_eq_true] at q
        refine .inr ⟨by simp, m, ?_⟩
        have := q.1
        simpa using this
    · rintro (w | ⟨w1, w2, w3⟩)
      · exact .inl (.inl w)
      · rcases List.mem_append.mp w1 with q | q
        · exact .inl (.inr ⟨q, w2, w3⟩)
        · have q : a = e := by simpa using q
          subst q
          by_cases m : (a, b) ∈ Ps
          · exact .inl ((h.mem a b).mp m)
          · refine .inr (List.mem_map.mpr ⟨b, List.mem_filter.mpr ⟨w2, ?_⟩, rfl⟩)
            simp [m, w3]
theorem UsP.len {A : List (List Int)} {s : List Int} {k : Nat} {Ps : List E2} (h : UsP A s k Ps) (hA : ∀ r ∈ s :: A, r.length ≤ 4 ∧ ∀ x ∈ r, x ≤ 10) : Ps.length ≤ 1600 := by
  have big : ∀ r ∈ s :: A, ∀ e ∈ entL r, e ∈ entL [10, 10, 10, 10] := fun r hr e he => by
    obtain ⟨x, y, rfl, hx, hy⟩ := mem_ent.mp he
    have hs' := hA r hr
    have := hs'.2 _ (gd_mem hx)
    refine mem_ent.mpr ⟨x, y, rfl, by show x < 4; omega, ?_⟩
    have x4 : x < 4 := by omega
    have : ([10, 10, 10, 10] : List Int).getD x 0 = 10 := by
      match x, x4 with
      | 0, _ => rfl
      | 1, _ => rfl
      | 2, _ => rfl
      | 3, _ => rfl
    omega
  have l40 : (entL [10, 10, 10, 10]).length = 40 := by decide
  refine Nat.le_trans (nodup_sub (m := (entL [10, 10, 10, 10]).flatMap fun e => (entL [10, 10, 10, 10]).map fun f => (e, f)) h.nd fun p hp => ?_) ?_
  · obtain ⟨e, f⟩ := p
    have m : ∃ r ∈ s :: A, e ∈ entL r ∧ f ∈ entL r := by
      rcases (h.mem e f).mp hp with ⟨r, hr, h1, h2, _⟩ | ⟨h1, h2, _⟩
      · exact ⟨r, List.mem_cons_of_mem _ hr, h1, h2⟩
      · exact ⟨s, List.mem_cons_self, List.mem_of_mem_take h1, h2⟩
    obtain ⟨r, hr, h1, h2⟩ := m
    exact List.mem_flatMap.mpr ⟨e, big r hr e h1, List.mem_map_of_mem (big r hr f h2)⟩
  · have : ∀ (l m : List (List Int)), (l.flatMap fun e => m.map fun f => (e, f)).length = l.length * m.length := by
      intro l m
      induction l with
      | nil => simp
      | cons a l ih => rw [List.flatMap_cons, List.length_append, ih, List.length_map, List.length_cons, Nat.succ_mul]; omega
    rw [this, l40]
    decide
end Lm


namespace Lm
open PySem PySem.Spec PyProof.Rows L2

/-! ### while -/
section
variable {c : Ct} {H0 H : Hp} {O : List Addr} {σ : L2.St} {Γ : List (Option Rs)} {P : Out → Prop} {tc : TT} {tb u : TS}
end

/-! ### levels: the mathematics -/
def bvI (own : List Int) (h : Int) (ls : List Int) : List Int := own.filter fun y => decide (wrtI h ls y = gw own h ls)
def bvL (C : List (List Int)) (f ls : List Int) : List (List Int) := (C.zip f).map fun p => bvI p.1 p.2 ls
def upS (c : Int) (p : Pk) (ls : List Int) : List Int := (List.range ls.length).map fun y => ls.getD y 0 + c * b1 (p y)
def bnd (as f : List Int) (C : List (List Int)) (ls : List Int) : Int := zs mulI as ls + gwS C f ls
theorem upS_get {c : Int} {p : Pk} {ls : List Int} {y : Nat} (h : y < ls.length) : (upS c p ls).getD y 0 = ls.getD y 0 + c * b1 (p y) := by
  unfold upS
  rw [List.getD_eq_getElem?_getD, List.getElem?_map, List.getElem?_range h]
  rfl
theorem sumM_add {α : Type} (g h : α → Int) : ∀ l : List α, (l.map fun x => g x + h x).sum = (l.map g).sum + (l.map h).sum
  | [] => rfl
  | a :: l => by simp only [List.map_cons, List.sum_cons, sumM_add g h l]; omega
theorem sumM_mul {α : Type} (c : Int) (h : α → Int) : ∀ l : List α, (l.map fun x => c * h x).sum = c * (l.map h).sum
  | [] => by simp
  | a :: l => by simp only [List.map_cons, List.sum_cons, sumM_mul c h l, Int.mul_add]
theorem zs_up {as ls : List Int} (c : Int) (p : Pk) (h : as.length = ls.length) : zs mulI as (upS c p ls) = zs mulI as ls + c * rmP as p := by
  unfold zs rmP
  rw [← sumM_mul, ← sumM_add]
  congr 1
  refine List.map_congr_left fun j hj => ?_
  have := List.mem_range.mp hj
  rw [upS_get (by omega)]
  unfold mulI b1
  rw [Int.mul_add]
  by_cases q : p j = true
  · rw [if_pos q, if_pos q, Int.mul_one, Int.mul_comm c]
  · rw [if_neg q, if_neg q]; simp
theorem wrt_up {h c : Int} {p : Pk} {ls : List Int} {y : Int} (y0 : 0 ≤ y) (yl : y < ls.length) : wrtI h (upS c p ls) y = wrtI h ls y - c * b1 (p y.toNat) := by
  unfold wrtI
  rw [upS_get (by omega)]
  omega
theorem gw_mem {own ls : List Int} {h : Int} (ne : own ≠ []) : ∃ y ∈ own, wrtI h ls y = gw own h ls := by
  obtain ⟨y, hy, e⟩ := List.mem_map.mp (mxL_mem (ns := own.map (wrtI h ls)) (by rw [List.length_map]; exact List.length_pos_iff.mpr ne))
  exact ⟨y, hy, e⟩
theorem mem_bvI {own ls : List Int} {h y : Int} : y ∈ bvI own h ls ↔ y ∈ own ∧ wrtI h ls y = gw own h ls := by
  unfold bvI
  rw [List.mem_filter, decide_eq_true_iff]
theorem ins_iff {p : Pk} {own : List Int} : insP p own = true ↔ ∀ y ∈ own, p y.toNat = true := by
  unfold insP
  rw [List.all_eq_true]
theorem b1_nn (b : Bool) : 0 ≤ b1 b ∧ b1 b ≤ 1 := by cases b <;> simp [b1]
theorem gw_step {own ls : List Int} {h : Int} {p : Pk} (ne : own ≠ []) (hr : ∀ y ∈ own, 0 ≤ y ∧ y < ls.length) : gw own h (upS 1 p ls) = gw own h ls - b1 (insP p (bvI own h ls)) := by
  have wr : ∀ y ∈ own, wrtI h (upS 1 p ls) y = wrtI h ls y - b1 (p y.toNat) := fun y hy => by
    rw [wrt_up (hr y hy).1 (hr y hy).2]; omega
  obtain ⟨y1, m1, e1⟩ := gw_mem (h := h) (ls := upS 1 p ls) ne
  by_cases hc : insP p (bvI own h ls) = true
  · rw [hc]
    have hp := ins_iff.mp hc
    obtain ⟨y0, m0, e0⟩ := gw_mem (h := h) (ls := ls) ne
    have g0 := gw_ge (ls := upS 1 p ls) (h := h) m0
    rw [wr y0 m0, hp y0 (mem_bvI.mpr ⟨m0, e0⟩), e0] at g0
    have g1 := gw_ge (ls := ls) (h := h) m1
    rw [wr y1 m1] at e1
    show gw own h (upS 1 p ls) = gw own h ls - 1
    have b11 : b1 true = 1 := rfl
    by_cases q : wrtI h ls y1 = gw own h ls
    · rw [hp y1 (mem_bvI.mpr ⟨m1, q⟩)] at e1
      omega
    · have := b1_nn (p y1.toNat)
      omega
  · have hc' : insP p (bvI own h ls) = false := by simpa using hc
    rw [hc']
    have : ∃ y ∈ bvI own h ls, p y.toNat = false := by
      unfold insP at hc'
      rw [List.all_eq_false] at hc'
      obtain ⟨y, hy, q⟩ := hc'
      exact ⟨y, hy, by simpa using q⟩
    obtain ⟨y0, hy0, q0⟩ := this
    obtain ⟨m0, e0⟩ := mem_bvI.mp hy0
    have g0 := gw_ge (ls := upS 1 p ls) (h := h) m0
    rw [wr y0 m0, q0, e0] at g0
    have g1 := gw_ge (ls := ls) (h := h) m1
    rw [wr y1 m1] at e1
    have := b1_nn (p y1.toNat)
    have b10 : b1 false = 0 := rfl
    omega
theorem bv_cons {own : List Int} {C : List (List Int)} {h : Int} {f ls : List Int} : bvL (own :: C) (h :: f) ls = bvI own h ls :: bvL C f ls := rfl
theorem gwS_cons {own : List Int} {C : List (List Int)} {h : Int} {f ls : List Int} : gwS (own :: C) (h :: f) ls = gw own h ls + gwS C f ls := by simp [gwS]
theorem gwS_step {p : Pk} {ls : List Int} : ∀ {C : List (List Int)} {f : List Int}, C.length = f.length → [] ∉ C → Rng C ls.length → gwS C f (upS 1 p ls) = gwS C f ls - cfP (bvL C f ls) p
  | [], [], _, _, _ => by simp [gwS, bvL, cfP]
  | own :: C, h :: f, hl, ne, hr => by
    have ih := gwS_step (p := p) (ls := ls) (C := C) (f := f) (by simpa using hl) (fun z => ne (List.mem_cons_of_mem _ z)) fun o ho => hr o (List.mem_cons_of_mem _ ho)
    rw [gwS_cons, gwS_cons, bv_cons, cf_cons, ih, gw_step (fun z => ne (by rw [z]; exact List.mem_cons_self)) (hr own List.mem_cons_self)]
    omega
  | [], _ :: _, h, _, _ => by simp at h
  | _ :: _, [], h, _, _ => by simp at h
theorem bnd_step {as f ls : List Int} {C : List (List Int)} {p : Pk} (hl : C.length = f.length) (ne : [] ∉ C) (hr : Rng C ls.length) (ha : as.length = ls.length) : bnd as f C (upS 1 p ls) = bnd as f C ls + rmP as p - cfP (bvL C f ls) p := by
  unfold bnd
  rw [zs_up 1 p ha, gwS_step hl ne hr]
  omega
end Lm


namespace Lm
open PySem PySem.Spec PyProof.Rows L2

/-! ### the first levels -/
/-- what the levels of a setting speak of -/
structure LvOk (as f : List Int) (C : List (List Int)) (v b : Nat) : Prop where
  asl : as.length = v
  fl : f.length = b
  cl : C.length = b
  mns : Mns C v
  pw : ∀ own ∈ C, own.Pairwise (· < ·)
  v5 : v ≤ 5
  b20 : b ≤ 20
  alc : Alc as (v : Int) (b : Int)
variable {as f : List Int} {C : List (List Int)} {v b : Nat}
theorem LvOk.hall_ps (h : LvOk as f C v b) : Hall as C ↔ ∃ r, r ∈ psL as v b C := by
  have hr : Rng C as.length := by rw [h.asl]; exact h.mns.rng
  have sum : as.sum = C.length := by rw [h.alc.sum, h.cl]
  constructor
  · intro ha
    exact ⟨_, (mem_ps h.asl h.cl h.mns.rng).mpr (grd_fit hr ha sum)⟩
  · rintro ⟨r, hm⟩
    exact fit_hall hr ((mem_ps h.asl h.cl h.mns.rng).mp hm)
theorem zs_b : ∀ {f r : List Int}, f.length = r.length → 0 ≤ zs ne1 f r ∧ zs ne1 f r ≤ f.length
  | [], [], _ => by simp [zs]
  | x :: f, y :: r, h => by
    have := zs_b (f := f) (r := r) (by simpa using h)
    have e : ne1 x y = if x = y then 0 else 1 := rfl
    rw [zs_cons, e, List.length_cons]
    split <;> omega
  | [], _ :: _, h => by simp at h
  | _ :: _, [], h => by simp at h
theorem LvOk.no_nil (h : LvOk as f C v b) (ha : Hall as C) : [] ∉ C := by
  obtain ⟨r, hr⟩ := h.hall_ps.mp ha
  exact (weak (ls := List.replicate v 0) h.cl h.fl (by simp) hr).1
theorem LvOk.nn (h : LvOk as f C v b) (ha : Hall as C) {ls : List Int} (hl : ls.length = v) : 0 ≤ bnd as f C ls := by
  obtain ⟨r, hr⟩ := h.hall_ps.mp ha
  have w := (weak (ls := ls) h.cl h.fl hl hr).2
  have rl := ((mem_psL (by omega)).mp hr).1
  have z := zs_b (f := f) (r := r) (by rw [h.fl, rl])
  have := h.fl
  unfold bnd
  omega
theorem LvOk.step (h : LvOk as f C v b) (ha : Hall as C) {ls : List Int} {s : List Nat} (hl : ls.length = v) (hs : shS as (bvL C f ls) = some s) : bnd as f C (upS 1 (inS s) ls) < bnd as f C ls := by
  rw [bnd_step (by rw [h.cl, h.fl]) (h.no_nil ha) (by rw [hl]; exact h.mns.rng) (by rw [h.asl, hl])]
  obtain ⟨h1, h2⟩ := sh_some hs
  rw [room_rm h1] at h2
  omega
end Lm


namespace Lm
open PySem PySem.Spec PyProof.Rows L2

/-! ### promises of keeping.py, for up to 20 buckets -/
structure ExcW (as f : List Int) (F P : List (List Int)) (v b : Nat) : Prop where
  v1 : 1 ≤ v
  v5 : v ≤ 5
  b6 : b ≤ 20
  asg : Asg f (v : Int)
  len : f.length = b
  alc : Alc as (v : Int) (b : Int)
  prd : Prd F v b
  pin : Pin P v b
theorem Exc.w {as f : List Int} {F P : List (List Int)} {v b : Nat} (h : Exc as f F P v b) : ExcW as f F P v b := ⟨h.v1, h.v5, by have := h.b6; omega, h.asg, h.len, h.alc, h.prd, h.pin⟩
variable {as f : List Int} {C : List (List Int)} {v b : Nat}
end Lm


namespace Lm
open PySem PySem.Spec PyProof.Rows L2
variable {as f : List Int} {C : List (List Int)} {v b : Nat}
theorem Prd.sub {F F' : List (List Int)} (h : Prd F v b) (s : F'.Sublist F) : Prd F' v b :=
  ⟨fun r hr => h.row r (s.subset hr), h.asc.sublist s, Nat.le_trans s.length_le h.len⟩
theorem Pin.sub {F F' : List (List Int)} (h : Pin F v b) (s : F'.Sublist F) : Pin F' v b :=
  ⟨h.toPrd.sub s, h.fst.sublist s⟩
end Lm


namespace Lm
open PySem PySem.Spec PyProof.Rows L2
section
variable {c : Ct} {H H' H0 H1 H2 H3 : Hp} {O : List Addr} {σ : L2.St} {Γ Γ' : List (Option Rs)} {te ta tx : TE} {k : Kd} {u : TS} {P : Out → Prop} {n : Nat} {x : PyData}
/-! ### where no list of one's own is alive, what a call answers may be kept, lists in it too -/
def bareB : List (Option Rs) → Bool
  | [] => true
  | some (.o _) :: _ => false
  | none :: Γ => bareB Γ
  | some (.v _) :: Γ => bareB Γ
  | some (.r _) :: Γ => bareB Γ
  | some (.d _) :: _ => false
  | some (.w _) :: _ => false
end

/-! ### any evidence (k80) -/
end Lm


namespace Lm
open PySem PySem.Spec PyProof.Rows L2

/-! ### buckets and variants renamed in a setting -/
structure RnS (as as' : List Int) (C C' : List (List Int)) (v b : Nat) (os io nm im : List Int) : Prop where
  o : IsOrd os (b : Int)
  oi : IsOrd io (b : Int)
  q : IsOrd nm (v : Int)
  qi : IsOrd im (v : Int)
  o1 : ∀ k < b, gI io (gI os ((k : Nat) : Int)) = (k : Int)
  o2 : ∀ k < b, gI os (gI io ((k : Nat) : Int)) = (k : Int)
  q1 : ∀ k < v, gI im (gI nm ((k : Nat) : Int)) = (k : Int)
  q2 : ∀ k < v, gI nm (gI im ((k : Nat) : Int)) = (k : Int)
  al : as.length = v
  al' : as'.length = v
  cl : C.length = b
  cl' : C'.length = b
  rg : Rng C v
  rg' : Rng C' v
  sh : ∀ y < v, gI as' (gI nm ((y : Nat) : Int)) = gI as (y : Int)
  mn : ∀ k < b, ∀ y < v, (gI nm ((y : Nat) : Int) ∈ C'.getD (gI os ((k : Nat) : Int)).toNat [] ↔ (y : Int) ∈ C.getD k [])
section
variable {as as' f f' os io nm im : List Int} {C C' : List (List Int)} {v b : Nat}
theorem ord_nat {os : List Int} {m : Nat} (o : IsOrd os (m : Int)) {k : Nat} (hk : k < m) : ∃ j : Nat, gI os (k : Int) = (j : Int) ∧ j < m := by
  have r := o.rng _ (gd_mem (l := os) (j := k) (by have := o.len; omega))
  exact ⟨(os.getD k 0).toNat, by show os.getD k 0 = _; omega, by omega⟩
theorem RnS.symm (h : RnS as as' C C' v b os io nm im) : RnS as' as C' C v b io os im nm := by
  refine ⟨h.oi, h.o, h.qi, h.q, h.o2, h.o1, h.q2, h.q1, h.al', h.al, h.cl', h.cl, h.rg', h.rg, fun y hy => ?_, fun k hk y hy => ?_⟩
  · obtain ⟨z, ez, hz⟩ := ord_nat h.qi hy
    have := h.sh z hz
    rw [← ez, h.q2 y hy] at this
    exact this.symm
  · obtain ⟨z, ez, hz⟩ := ord_nat h.qi hy
    obtain ⟨j, ej, hj⟩ := ord_nat h.oi hk
    have := h.mn j hj z hz
    rw [← ez, ← ej, h.q2 y hy, h.o2 k hk, Int.toNat_natCast, ez] at this
    rw [ez, ej, Int.toNat_natCast]
    exact this.symm
end
end Lm


namespace Lm
open PySem PySem.Spec PyProof.Rows L2
/-! ### a def that answers or raises -/
theorem fn_or {P : Program} {w : World} {K : PySem.W.Frag} {mg : Str → Option Value} {base : Heap} {CX : CXT} {k : Nat} {f : Addr} {fd : FuncData} {ps : List Str} {sp sp' : Sp} (F : FnOk P w K mg base CX k f fd ps sp) (G : FnOk P w K mg base CX k f fd ps sp') :
    FnOk P w K mg base CX k f fd ps (fun vs H Q E => sp vs H Q E ∨ sp' vs H Q E) :=
  ⟨fun vs H Q E h => h.elim (F.len vs H Q E) (G.len vs H Q E), fun A outer s H args us vs Q E hr he hb hv hs => hs.elim (F.run A outer s H args us vs Q E hr he hb hv) (G.run A outer s H args us vs Q E hr he hb hv)⟩
end Lm


/-! itertools.permutations(range(n), k), walked -/
namespace PrmK
open PySem PySem.Spec PyProof.Rows L2
end PrmK


/-! itertools.permutations(range(n), k): made, its turns -/
namespace PrmK
open PySem PySem.Spec PyProof.Rows L2
end PrmK


/-! itertools.permutations: its turns -/
namespace PrmK
open PySem PySem.Spec PyProof.Rows L2
section
variable {prog : Program} {w : World} {A : Around} {E : Value → Shared → Prop} {s : Shared} {it T : Addr} {bf : Value} {ns : List Nat} {r : Nat} {xs : Array Value}
end
end PrmK


/-! itertools.permutations(range(n), k): made, its turns -/
namespace PrmK
open PySem PySem.Spec PyProof.Rows L2
end PrmK


/-! list(permutations(range(n))) -/
namespace PrmK
open PySem PySem.Spec PyProof.Rows L2
end PrmK
namespace Lm
open PySem PySem.Spec PyProof.Rows L2 PrmK
section
variable {prog : Program} {w : World} {A : Around} {E : Value → Shared → Prop} {s : Shared} {it T : Addr} {n k : Nat} {seq : List PrS} {xs : Array Value}
end
section
variable {prog : Program} {w : World} {A : Around} {R : Result → Shared → Prop}
end
section
variable {prog : Program} {w : World} {A : Around} {E : Value → Shared → Prop} {s : Shared}
end
section
variable {c : Ct} {H H' : Hp} {Γ : List (Option Rs)} {te : TE} {kd : Kd}
end
end Lm


/-! sorted(xs), xs a list of data that can be compared -/
namespace L2
open PySem PySem.Spec PyProof.Rows
def rSortedD (K : PySem.W.Frag) : List V → Hp → VK → Prop := fun vs H Q => ∃ (a : Addr) (xs : List V) (ds : List PyData), vs = [V.ref a] ∧ SqL K H a xs ∧ DpAll K H xs ds ∧ PySem.W.AllAlike ds ∧ PySem.W.Sortable ds ∧ ds.length ≤ 1000000 ∧ (∀ d ∈ ds, d.depth ≤ 60) ∧
  ∀ (L : List (V × PyData)) (p : Addr), (∀ q ∈ L, q ∈ xs.zip ds) → L.map (·.2) = ds.mergeSort (PySem.W.dataLe false id) → H p = none → Q (.ref p) (upd H p (.lst (L.map (·.1))))
theorem each_zip : ∀ (vs : List Value) {β : Type} (bs : List β), vs.length = bs.length → PySem.W.EachIs (fun v (b : Value × β) => v = b.1) vs (vs.zip bs)
  | [], _, [], _ => .nil
  | v :: vs, _, b :: bs, h => .cons rfl (each_zip vs bs (by simpa using h))
  | [], _, _ :: _, h => by simp at h
  | _ :: _, _, [], h => by simp at h
theorem each_out {β : Type} : ∀ {out : List Value} {M : List (Value × β)}, PySem.W.EachIs (fun v (b : Value × β) => v = b.1) out M → out = M.map (·.1)
  | _, _, .nil => rfl
  | _, _, .cons h t => by rw [h, each_out t]; rfl
theorem dpAll_len {K : PySem.W.Frag} {H : Hp} : ∀ {xs : List V} {ds : List PyData}, DpAll K H xs ds → xs.length = ds.length
  | _, _, .nil => rfl
  | _, _, .cons _ t => by simp [dpAll_len t]
theorem vals_zip : ∀ {xs : List V} {us : List Value} {ds : List PyData}, Vals xs us → ∀ b ∈ us.zip (xs.zip ds), RelV b.2.1 b.1
  | _, _, [], .cons _ _, b, h => by simp at h
  | _, _, _, .nil, b, h => by simp at h
  | _, _, d :: ds, .cons r t, b, h => by
    rcases List.mem_cons.mp h with w | w
    · rw [w]; exact r
    · exact vals_zip t b w
theorem vals_map {M : List (Value × V × PyData)} : (∀ b ∈ M, RelV b.2.1 b.1) → Vals (M.map fun b => b.2.1) (M.map (·.1)) := by
  induction M with
  | nil => intro _; exact .nil
  | cons b M ih => intro h; exact .cons (h b (by simp)) (ih fun c hc => h c (by simp [hc]))
theorem cr_sortedD {X : Cx} (hu : X.A.units + 64 < cLine) : CallR X (.builtin "sorted") (rSortedD X.K) := by
  intro pins s σ H vs us Q I r h
  obtain ⟨a, xs, ds, rfl, hs, hd, hal, hso, hfew, hdp, q⟩ := h
  obtain ⟨its, rv, hl, hz⟩ := I.list hs
  rw [Vals.ref1 r]
  obtain ⟨as, hr⟩ := Dp.readsAll I ds _ its hd rv
  have lx := dpAll_len hd
  have li := rv.length
  obtain ⟨bs, eb⟩ : ∃ bs : List (Value × V × PyData), bs = its.zip (xs.zip ds) := ⟨_, rfl⟩
  have lb : bs.length = its.length := by rw [eb, List.length_zip, List.length_zip]; omega
  have e2 : bs.map (fun b => b.2.2) = ds := by
    rw [eb]
    apply List.ext_getElem
    · simp only [List.length_map, List.length_zip]; omega
    · intro i i1 i2; simp
  refine PySem.W.sorted_data (bs := bs) (enc := fun b => b.2.2) (R := fun v b => v = b.1) hl.isList (by rw [eb]; exact each_zip its _ (by rw [List.length_zip]; omega)) ?_ (by rw [e2]; exact hal) (by rw [e2]; exact hso) (by rw [lb, sizeLine_eq]; omega) (fun b hb => ?_) fun out lo eo => ?_
  · exact PySem.W.readsAll_each (fun b : Value × V × PyData => b.2.2) (by rw [e2]; exact hr)
  · have := hdp b.2.2 (by rw [← e2]; exact List.mem_map_of_mem hb)
    omega
  · obtain ⟨M, eM⟩ : ∃ M, M = bs.mergeSort (PySem.W.dataLe false fun b => b.2.2) := ⟨_, rfl⟩
    rw [← eM] at eo
    have mem : ∀ b ∈ M, b ∈ bs := fun b hb => by rw [eM] at hb; exact (List.mergeSort_perm _ _).mem_iff.mp hb
    have rel : ∀ b ∈ M, RelV b.2.1 b.1 := fun b hb => by
      have := mem b hb
      rw [eb] at this
      exact vals_zip rv b this
    have em : M.map (fun b => b.2.2) = ds.mergeSort (PySem.W.dataLe false id) := by
      rw [eM, PySem.W.sort_maps (r := PySem.W.dataLe false fun b : Value × V × PyData => b.2.2) (s := PySem.W.dataLe false id) (fun b : Value × V × PyData => b.2.2) (fun x _ y _ => rfl), e2]
    have sub : ∀ q ∈ M.map (fun b => b.2), q ∈ xs.zip ds := fun q hq => by
      obtain ⟨b, hb, rfl⟩ := List.mem_map.mp hq
      have := mem b hb
      rw [eb] at this
      exact (List.of_mem_zip this).2
    obtain ⟨n, hn⟩ := sortedAll_at s.heap its out.toArray
    have hp : H (s.heap.objs.size + 1) = none := I.hok.fresh (Nat.le_succ _)
    have eo' := each_out eo
    have ll : (M.map fun b => b.2.1).length ≤ sizeLine := by
      rw [List.length_map, ← List.length_map (as := M) (fun b => b.1), ← eo', lo, lb, sizeLine_eq]; omega
    have q' := q (M.map fun b => b.2) (s.heap.objs.size + 1) sub (by rw [List.map_map]; exact em) hp
    rw [List.map_map] at q'
    exact ⟨.ref (s.heap.objs.size + 1), upd H (s.heap.objs.size + 1) (.lst (M.map fun b => b.2.1)), I.laid (t' := s.toks) (fun b o e => sortedAll_old e) (Nat.le_succ _) ⟨ll, out, n, by rw [eo']; exact vals_map rel, by simpa using hn⟩, rfl, q'⟩
end L2
namespace Lm
open PySem PySem.Spec PyProof.Rows L2
section
variable {X : Cx} {K : PySem.W.Frag} (hK : X.K = K)
include hK
theorem k_sortedD (hu : X.A.units + 64 < cLine) : CallR X (.builtin "sorted") (L2.rSortedD K) := hK ▸ L2.cr_sortedD hu
end
theorem sort_named {ds S : List PyData} (pm : S.Perm ds) (asc : S.Pairwise fun a b => PySem.W.dataLt a b = true) : ds.mergeSort (PySem.W.dataLe false id) = S := by
  have T := PySem.W.sortLe_total (PyProof.Rows.listOrd PyProof.Rows.itemOrd) false fun b : PyData => PySem.W.keyToks b
  have p1 : (ds.mergeSort (PySem.W.dataLe false id)).Pairwise fun a b => PySem.W.dataLe false id a b = true := PySem.W.sort_pairwise T ds
  have le : ∀ a b, PySem.W.dataLt a b = true → PySem.W.dataLe false id a b = true := fun a b h => by
    rcases T.total a b with w | w
    · exact w
    · have w' : (!PySem.W.dataLt a b) = true := w
      rw [h] at w'; cases w'
  have p2 : S.Pairwise fun a b => PySem.W.dataLe false id a b = true := asc.imp fun h => le _ _ h
  have pm2 : (ds.mergeSort (PySem.W.dataLe false id)).Perm S := (List.mergeSort_perm _ _).trans pm.symm
  refine List.Perm.eq_of_pairwise (fun a b ha hb h1 h2 => ?_) p1 p2 pm2
  have ha' := pm2.mem_iff.mp ha
  have h1' : (!PySem.W.dataLt b a) = true := h1
  have h2' : (!PySem.W.dataLt a b) = true := h2
  rw [Bool.not_eq_true'] at h1' h2'
  apply Classical.byContradiction
  intro ne
  have key : ∀ {l : List PyData}, l.Pairwise (fun a b => PySem.W.dataLt a b = true) → a ∈ l → b ∈ l → PySem.W.dataLt a b = true ∨ PySem.W.dataLt b a = true := by
    intro l
    induction l with
    | nil => intro _ h; cases h
    | cons x l ih =>
      intro pw hx hy
      have ⟨q1, q2⟩ := List.pairwise_cons.mp pw
      rcases List.mem_cons.mp hx with w | w
      · rcases List.mem_cons.mp hy with z | z
        · exact absurd (w.trans z.symm) ne
        · rw [w]; exact .inl (q1 b z)
      · rcases List.mem_cons.mp hy with z | z
        · rw [z]; exact .inr (q1 a w)
        · exact ih q2 w z
  rcases key asc ha' hb with w | w
  · rw [h2'] at w; cases w
  · rw [h1'] at w; cases w
theorem bo_mem {c : Ct} {H : Hp} : ∀ {xs : List V} {ds : List PyData}, BoAll c H xs ds → ∀ q ∈ xs.zip ds, Bo c H q.1 q.2
  | _, _, .nil, q, h => by simp at h
  | _, _, .cons b t, q, h => by
    rcases List.mem_cons.mp h with w | w
    · rw [w]; exact b
    · exact bo_mem t q w
theorem boAll_map {c : Ct} {H : Hp} {L : List (V × PyData)} : (∀ q ∈ L, Bo c H q.1 q.2) → BoAll c H (L.map (·.1)) (L.map (·.2)) := by
  induction L with
  | nil => intro _; exact .nil
  | cons b L ih => intro h; exact .cons (h b (by simp)) (ih fun q hq => h q (by simp [hq]))
section
variable {c : Ct} {Γ : List (Option Rs)} {te : TE} {k : Kd}
/-- data that can be compared: sorted, they are the ascending ones -/
theorem e_sortedD {ds S : List PyData} (h : Ev c te Γ k (.list ds)) (fl : flatAll ds = true) (hl : ds.length ≤ 1000000) (al : PySem.W.AllAlike ds) (so : PySem.W.Sortable ds) (dp : ∀ d ∈ ds, d.depth ≤ 60) (pm : S.Perm ds) (asc : S.Pairwise fun a b => PySem.W.dataLt a b = true) :
    Ev c (tCB (L2.rSortedD c.K) (tCons te tNil)) Γ .o (.list S) := fun H0 O H σ e Q q =>
  h H0 O H σ e _ fun v H1 r1 s1 => by
    obtain ⟨p, xs, rfl, _, sl, ab⟩ := (Res.bo e s1).lst'
    refine ⟨p, xs, ds, rfl, sl, ab.dp, al, so, hl, dp, fun L b sub em hb => ?_⟩
    rw [sort_named pm asc] at em
    have sm1 : Same H1 (upd H1 b (.lst (L.map (·.1)))) := fun x o z => by rw [upd_ne (ne_of_none z hb)]; exact z
    refine q _ _ (r1.tr (Rr.same sm1)) ⟨[b], .lst upd_same ?_, by simp, fun x hx => by rw [List.mem_singleton.mp hx]; exact r1.back e.jH hb⟩
    have bo : BoAll c H1 (L.map (·.1)) S := by
      rw [← em]
      exact boAll_map fun q hq => bo_mem ab q (sub q hq)
    refine .leaves (flatAll_mem fun d hd => ?_) (bo.same sm1)
    have := pm.mem_iff.mp hd
    exact flatAll_one fl this
end
end Lm


/-! sets by size, and what shows that one is too small, for any value (k76) -/
namespace Lm
open PySem PySem.Spec PyProof.Rows L2
theorem dataLt_rows (xs ys : List Int) : PySem.W.dataLt (tupD xs) (tupD ys) = decide (xs < ys) := by
  unfold tupD
  rw [PySem.W.dataLt_tuple]
  exact PySem.W.dataLt_ints xs ys
theorem alike_rows (xs ys : List Int) : PySem.W.alike (tupD xs) (tupD ys) = true := by
  unfold tupD PySem.W.alike
  exact PySem.W.alike_ints xs ys
end Lm


/-! a comprehension whose items stay, lists in them too; a for loop over such things -/
namespace Lm
open PySem PySem.Spec PyProof.Rows L2
section
variable {c : Ct} {H H' H0 H1 H2 H3 H4 : Hp} {O : List Addr} {σ : L2.St} {Γ Γ' : List (Option Rs)} {te ta tb tx : TE} {tr : TA} {k ka kb : Kd} {u : TS} {P : Out → Prop} {n : Nat} {x d : PyData} {ds : List PyData} {fz : Bool}
theorem mns_own {D : Addr} {o : HO} (hD : H D = none) : mns (upd H D o) (D :: O) = mns H O := by
  funext a
  by_cases q : a = D
  · subst q
    rw [mns_in (by simp)]
    by_cases w : a ∈ O
    · rw [mns_in w]
    · rw [mns_out w, hD]
  · by_cases w : a ∈ O
    · rw [mns_in w, mns_in (by simp [w])]
    · rw [mns_out w, mns_out (by simp [w, q]), upd_ne q]
theorem mns_upd {D : Addr} {o : HO} : mns (upd H D o) (D :: O) = mns H (D :: O) := by
  funext a
  by_cases q : a = D
  · subst q
    rw [mns_in (by simp), mns_in (by simp)]
  · by_cases w : a ∈ O
    · rw [mns_in (by simp [w]), mns_in (by simp [w])]
    · rw [mns_out (by simp [w, q]), mns_out (by simp [w, q]), upd_ne q]
theorem rr_upd {D : Addr} {o : HO} (r : Rr c H1 H4) (hD : H1 D = none) : Rr c H1 (upd H4 D o) := by
  refine ⟨fun a o' ok z => ?_, fun jj => ?_⟩
  · rw [upd_ne (ne_of_none z hD)]; exact r.1 a o' ok z
  · intro st l eq
    obtain ⟨ns, x, k, g1, g2, g3, g4⟩ := r.2 jj st l eq
    have d1 : st ≠ D := fun z => by
      obtain ⟨ns', x', k', g1', _⟩ := jj st l eq
      rw [z, hD] at g1'; cases g1'
    have d2 : l ≠ D := fun z => by
      obtain ⟨ns', x', k', _, g2', _⟩ := jj st l eq
      rw [z, hD] at g2'; cases g2'
    exact ⟨ns, x, k, by rw [upd_ne d1]; exact g1, by rw [upd_ne d2]; exact g2, g3, g4⟩
/-- with one more list of one's own -/
theorem Env.own {D : Addr} {acc : List V} (e : Env c H0 O H σ Γ) (hD : H D = none) (r : Rr c H H') (h : H' D = some (.lst acc)) (rm : Rr c (mns H O) (mns H' (D :: O))) : Env c H0 (D :: O) H' σ Γ := by
  refine ⟨e.r0.tr rm, rm.2 e.j, fun a ha => ?_, fun a ha => ?_, ?_⟩
  · rcases List.mem_cons.mp ha with w | w
    · subst w
      refine e.back0 ?_
      by_cases z : a ∈ O
      · exact mns_in z
      · rw [mns_out z]; exact hD
    · exact e.fr a w
  · rcases List.mem_cons.mp ha with w | w
    · subst w; exact ⟨_, h, trivial⟩
    · obtain ⟨xs, q, hq⟩ := e.dm a w
      exact ⟨xs, r.1 a _ (e.okO a w) q, hq⟩
  · obtain ⟨fp, h, nd, sub⟩ := e.rep
    refine ⟨fp, h.map fun x s f q z => ?_, nd, fun a ha => List.mem_cons_of_mem _ (sub a ha)⟩
    cases s with
    | none => exact z
    | some s =>
      cases s with
      | v d => exact ⟨z.1, z.2.elim fun v hv => ⟨v, hv.1, hv.2.mono e.j rm⟩⟩
      | o d => exact z.elim fun v hv => ⟨v, hv.1, hv.2.up (fun _ _ s => r.tup e.jH s) fun a ha o ho => r.1 a o (e.okO a (sub a (q a ha))) ho⟩
      | r y => exact z
      | d u => exact z.elim fun a ⟨w1, w2, w3, w4⟩ => ⟨a, w1, w2, r.1 a _ (e.okO a (sub a (q a (by rw [w1]; simp)))) w3, w4⟩
      | w ds => exact z.elim fun a ⟨xs, w1, w2, w3, w4⟩ => ⟨a, xs, w1, w2, r.1 a _ (e.okO a (sub a (q a (by rw [w1]; simp)))) w3, w4.mono e.j rm⟩
end
end Lm
namespace Lm
open PySem PySem.Spec PyProof.Rows L2
/-! ### any value: what shows that a set is too small -/
def intsD : PyData → List Int
  | .tuple ds => ds.map fun d => match d with
    | .int i => i
    | _ => 0
  | _ => []
def SmF (x : PyData) : Prop := ∀ es, x = .tuple es → es.length < 64
theorem SmF.t {x : PyData} (h : SmF x) : SmallT x := fun es e => by have := h es e; omega
end Lm
namespace Lm
open PySem PySem.Spec PyProof.Rows L2
end Lm
namespace Lm
open PySem PySem.Spec PyProof.Rows L2
end Lm


namespace Lm
open PySem PySem.Spec PyProof.Rows L2
section
variable {c : Ct} {H H' H0 H1 H2 H3 H4 : Hp} {O : List Addr} {σ : L2.St} {Γ Γ' : List (Option Rs)} {te ta tb tx : TE} {tt : TT} {tr : TA} {k ka kb : Kd} {u : TS} {n : Nat} {x d : PyData} {ds : List PyData} {fz : Bool}
end
theorem smf_len {es : List PyData} (h : es.length < 64) : SmF (.tuple es) := fun es' e => by cases e; exact h
theorem smf_tup {ns : List Int} (h : ns.length < 64) : SmF (tupD ns) := smf_len (by simpa using h)
theorem smf_no {x : PyData} (h : ∀ es, x ≠ .tuple es) : SmF x := fun es e => absurd e (h es)
end Lm


/-! displays of which some items are drawn -/
namespace Lm
open PySem PySem.Spec PyProof.Rows L2
def EvAN (c : Ct) (ta : TA) (Γ : List (Option Rs)) (Pd : List PyData → Prop) : Prop :=
  ∀ H0 O H σ, Env c H0 O H σ Γ → ∀ Q : List V → Hp → Prop, (∀ vs ds H2, Pd ds → Rr c H H2 → BoAll c (mns H2 O) vs ds → Q vs H2) → ta σ H Q
section
variable {c : Ct} {H H' H0 H1 H2 H3 H4 : Hp} {O : List Addr} {σ : L2.St} {Γ Γ' : List (Option Rs)} {te ta tb tx : TE} {tr : TA} {k ka kb : Kd} {u : TS} {n : Nat} {x d : PyData} {ds : List PyData} {P P' : PyData → Prop} {Pd : List PyData → Prop}
theorem an_nil : EvAN c tNil Γ (fun ds => ds = []) := fun H0 O H σ e Q q => q [] [] H rfl Rr.rf .nil
theorem an_cons {P2 : List PyData → Prop} (h : EvN c te Γ .v P) (t : EvAN c tr Γ P2) : EvAN c (tCons te tr) Γ (fun ds => ∃ d es, ds = d :: es ∧ P d ∧ P2 es) := fun H0 O H σ e Q q =>
  h H0 O H σ e _ fun v d H1 pd r1 s1 => t H0 O H1 σ (e.on r1) _ fun vs es H2 pe r2 s2 => by
    have b1 : Bo c (mns H2 O) v d := Res.on (k := .v) e r1 r2 s1
    exact q (v :: vs) (d :: es) H2 ⟨d, es, rfl, pd, pe⟩ (r1.tr r2) (.cons b1 s2)
theorem an_consD (h : Ev c te Γ .v d) {P2 : List PyData → Prop} (t : EvAN c tr Γ P2) : EvAN c (tCons te tr) Γ (fun ds => ∃ d' es, ds = d' :: es ∧ d' = d ∧ P2 es) := an_cons h.n t
theorem n_lstVN (h : EvAN c tr Γ Pd) (hl : ∀ ds, Pd ds → ds.length ≤ 1000000) : EvN c (tLst tr) Γ .v (fun d => ∃ ds, d = .list ds ∧ Pd ds) := fun H0 O H σ e Q q =>
  h H0 O H σ e _ fun vs ds H1 pd r s => by
    refine ⟨by rw [s.len]; exact sizeOk (hl ds pd), fun p hp => q _ _ _ ⟨ds, rfl, pd⟩ (r.tr (Rr.same fun b u z => by rw [upd_ne (ne_of_none z hp)]; exact z)) (newV (H := H1) (e.on r) s hp)⟩
theorem n_tupVN (h : EvAN c tr Γ Pd) (hl : ∀ ds, Pd ds → ds.length ≤ 1000000) : EvN c (tTupN tr) Γ .v (fun d => ∃ ds, d = .tuple ds ∧ Pd ds) := fun H0 O H σ e Q q =>
  h H0 O H σ e _ fun vs ds H1 pd r s => by
    refine ⟨by rw [s.len]; exact sizeOk (hl ds pd), newTk (c := c) fun p H2 hp sm tp => q _ _ H2 ⟨ds, rfl, pd⟩ (r.tr (Rr.same sm)) ?_⟩
    have r2 : Rr c H H2 := r.tr (Rr.same sm)
    exact .tup (tpN_mns e r2 tp) (s.mono (e.on r).j ((Rr.same sm : Rr c H1 H2).mns (e.on r).j e.okO))
theorem EvAN.imp {P2 : List PyData → Prop} (h : EvAN c tr Γ Pd) (i : ∀ ds, Pd ds → P2 ds) : EvAN c tr Γ P2 := fun H0 O H σ e Q q => h H0 O H σ e Q fun vs ds H2 p => q vs ds H2 (i ds p)
end
theorem smf_i {i : Int} : SmF (.int i) := smf_no fun es e => by cases e
end Lm


/-! sorted(xs, key=len), xs a list of lists -/
namespace L2
open PySem PySem.Spec PyProof.Rows
end L2
namespace L2
open PySem PySem.Spec PyProof.Rows
end L2
namespace Lm
open PySem PySem.Spec PyProof.Rows L2
def lenI (a b : List Int) : Bool := decide ((a.length : Int) ≤ (b.length : Int))
section
variable {c : Ct} {Γ : List (Option Rs)} {te : TE} {k : Kd}
end
end Lm
namespace Lm
open PySem PySem.Spec PyProof.Rows L2
end Lm
namespace Lm
open PySem PySem.Spec PyProof.Rows L2
end Lm
namespace Lm
open PySem PySem.Spec PyProof.Rows L2
end Lm
namespace Lm
open PySem PySem.Spec PyProof.Rows L2
def SmL (x : PyData) : Prop := ∀ es, x = .tuple es → es.length ≤ 1000 ∧ ∀ r ∈ es, SmF r
end Lm


/-! lists by whomever (k56) -/
namespace Lm
open PySem PySem.Spec PyProof.Rows L2
/-! ### rules: a slice whose end is drawn, tuples of which one is drawn -/
section
variable {c : Ct} {H H' H0 H1 H2 H3 : Hp} {O : List Addr} {Γ Γ' Γ1 : List (Option Rs)}
variable {te ta tb tx : TE} {tl th : TO} {k ka kb : Kd} {d x y z : PyData} {i j : Int} {a b : Bool} {ds es : List PyData}
end
/-! ### the mathematics -/
inductive RwX : PyData → Prop
  | row {ns : List Int} : ns.length ≤ 60 → RwX (tupD ns)
  | bad {ns : List Int} : ns.length ≤ 60 → RwX (.tuple (ns.map .int ++ [.bool true]))
  | int (i : Int) : RwX (.int i)
def LsX (x : PyData) : Prop := x = .none ∨ (∃ xs, x = .list xs) ∨ ∃ es, x = .tuple es ∧ es.length ≤ 10 ∧ ∀ e ∈ es, RwX e
theorem RwX.sm {e : PyData} (h : RwX e) : SmF e := by
  cases h with
  | row h => exact smf_tup (by omega)
  | bad h => exact smf_len (by simp; omega)
  | int i => exact smf_i
theorem LsX.sm {x : PyData} (h : LsX x) : SmL x := fun es e => by
  subst e
  rcases h with h | ⟨xs, h⟩ | ⟨es', h, hl, hr⟩
  · cases h
  · cases h
  · cases h
    exact ⟨by omega, fun r hr' => (hr r hr').sm⟩
/-! ### the promises -/
end Lm


/-! a dict of one's own whose values are scalars -/
namespace Lm
open PySem PySem.Spec PyProof.Rows L2
section
variable {c : Ct} {H H' H0 H1 H2 H3 : Hp} {O : List Addr} {σ : L2.St} {Γ Γ' : List (Option Rs)} {te ta tb tx : TE} {k ka kb : Kd} {u : TS} {P : Out → Prop} {n : Nat} {x d : PyData} {i : Int}
/-- a slot is given a new dict -/
theorem Env.setD (e : Env c H0 O H σ Γ) {i : Nat} {p : Addr} {u : HO} (hp : H p = none) (hu : OwnU u) : Env c H0 (p :: O) (upd H p u) (σ.set i (some (.ref p))) (Γ.set i (some (.d u))) := by
  have sm : Same H (upd H p u) := fun b o z => by rw [upd_ne (ne_of_none z hp)]; exact z
  have r : Rr c H (upd H p u) := Rr.same sm
  have e' := e.on r
  have hO : p ∉ O := new_notO e hp
  have hn : mns H O p = none := by rw [mns_out hO]; exact hp
  have em : mns (upd H p u) (p :: O) = mns H O := by
    funext a
    by_cases q : a = p
    · subst q
      rw [mns_in (by simp), hn]
    · by_cases w : a ∈ O
      · rw [mns_in w, mns_in (by simp [w])]
      · rw [mns_out w, mns_out (by simp [w, q]), upd_ne q]
  refine ⟨by rw [em]; exact e.r0, by rw [em]; exact e.j, fun a ha => ?_, fun a ha => ?_, ?_⟩
  · rcases List.mem_cons.mp ha with q | q
    · rw [q]; exact e.back0 hn
    · exact e.fr a q
  · rcases List.mem_cons.mp ha with q | q
    · rw [q]; exact ⟨u, upd_same, hu⟩
    · exact e'.dm a q
  · obtain ⟨fp, hr, nd, sub⟩ := e.rep
    have keep : ∀ y t g, (∀ a ∈ g, a ∈ O) → RepO c O H y t g → RepO c (p :: O) (upd H p u) y t g := fun y t g hg z => by
      cases t with
      | none => exact z
      | some t =>
        cases t with
        | v d => exact ⟨z.1, z.2.elim fun v hv => ⟨v, hv.1, by rw [em]; exact hv.2⟩⟩
        | o d => exact z.elim fun v hv => ⟨v, hv.1, hv.2.up (fun _ _ s => r.tup e.jH s) fun a ha o ho => r.1 a o (e.okO a (hg a ha)) ho⟩
        | r y => exact z
        | d u => exact z.elim fun a ⟨w1, w2, w3, w4⟩ => ⟨a, w1, w2, r.1 a _ (e.okO a (hg a (by rw [w1]; simp))) w3, w4⟩
        | w ds => exact z.elim fun a ⟨xs, w1, w2, w3, w4⟩ => ⟨a, xs, w1, w2, r.1 a _ (e.okO a (hg a (by rw [w1]; simp))) w3, by rw [em]; exact w4⟩
    by_cases hi : i < Γ.length
    · obtain ⟨x, g, pre, post, h1, h2, h3, h4⟩ := hr.nth (s := Γ[i]) (List.getElem?_eq_getElem hi)
      subst h3
      refine ⟨pre ++ ([p] ++ post), h4 _ _ _ _ [p] (fun y t g' q z => keep y t g' (fun a ha => sub a (by have := q a ha; simp at this ⊢; rcases this with w | w <;> simp [w])) z) ⟨p, rfl, rfl, upd_same, hu⟩, ?_, fun a ha => ?_⟩
      · have n0 : (pre ++ post).Nodup := nd.sublist (by simp)
        rw [List.nodup_append] at n0 ⊢
        refine ⟨n0.1, ?_, ?_⟩
        · rw [List.nodup_append]
          refine ⟨by simp, n0.2.1, fun a ha b' hb q => ?_⟩
          subst q
          rw [List.mem_singleton.mp ha] at hb
          exact hO (sub p (by simp [hb]))
        · intro a ha b' hb q
          subst q
          rcases List.mem_append.mp hb with w | w
          · rw [List.mem_singleton.mp w] at ha
            exact hO (sub p (by simp [ha]))
          · exact n0.2.2 a ha a w rfl
      · simp only [List.mem_append, List.mem_cons, List.not_mem_nil, or_false] at ha ⊢
        rcases ha with q | q | q
        · exact .inr (sub a (by simp [q]))
        · exact .inl q
        · exact .inr (sub a (by simp [q]))
    · have hs : ¬ i < σ.length := by rw [hr.len]; exact hi
      rw [List.set_eq_of_length_le (by omega), List.set_eq_of_length_le (by omega)]
      exact ⟨fp, hr.map fun x s g q z => keep x s g (fun a ha => sub a (q a ha)) z, nd, fun a ha => by simp [sub a ha]⟩
/-- a dict of one's own is written -/
theorem Env.writeD (e : Env c H0 O H σ Γ) {i : Nat} {u w : HO} (h : Γ[i]? = some (some (.d u))) (hw : OwnU w) : ∃ p, σ[i]? = some (some (.ref p)) ∧ H p = some u ∧ p ∈ O ∧ Env c H0 O (upd H p w) σ (Γ.set i (some (.d w))) := by
  obtain ⟨fp, hr, nd, sub⟩ := e.rep
  obtain ⟨x, f0, pre, post, h1, h2, h3, h4⟩ := hr.nth h
  obtain ⟨p, rfl, rfl, hp, hu⟩ := h2
  subst h3
  have hpO : p ∈ O := sub p (by simp)
  have n2 := (List.nodup_append.mp nd).2.1
  refine ⟨p, h1, hp, hpO, ?_⟩
  have em : mns (upd H p w) O = mns H O := by
    funext a
    by_cases ha : a ∈ O
    · rw [mns_in ha, mns_in ha]
    · rw [mns_out ha, mns_out ha, upd_ne (fun z => ha (by rw [z]; exact hpO))]
  refine ⟨by rw [em]; exact e.r0, by rw [em]; exact e.j, e.fr, fun a ha => ?_, ?_⟩
  · by_cases q : a = p
    · rw [q]; exact ⟨_, upd_same, hw⟩
    · rw [upd_ne q]; exact e.dm a ha
  · have hσ : σ.set i (some (.ref p)) = σ := by
      obtain ⟨hlt, e1⟩ := List.getElem?_eq_some_iff.mp h1
      rw [← e1]
      exact List.set_getElem_self hlt
    have np : ∀ a, a ∈ pre ++ post → a ≠ p := fun a hm z => by
      subst z
      rcases List.mem_append.mp hm with v | v
      · exact (List.nodup_append.mp nd).2.2 a v a (by simp) rfl
      · exact (List.nodup_append.mp n2).2.2 a (by simp) a v rfl
    have := h4 O (upd H p w) (some (.ref p)) (some (.d w)) [p] (fun y t g q z => ?_) ⟨p, rfl, rfl, upd_same, hw⟩
    · rw [hσ] at this
      exact ⟨_, this, nd, sub⟩
    · cases t with
      | none => exact z
      | some t =>
        cases t with
        | v d => exact ⟨z.1, z.2.elim fun v hv => ⟨v, hv.1, by rw [em]; exact hv.2⟩⟩
        | o d =>
          refine z.elim fun v hv => ⟨v, hv.1, hv.2.up (fun _ _ s => sqT_updO hp hu s) fun a ha o ho => ?_⟩
          rw [upd_ne (np a (q a ha))]
          exact ho
        | r y => exact z
        | d u2 =>
          refine z.elim fun a ⟨w1, w2, w3, w4⟩ => ⟨a, w1, w2, ?_, w4⟩
          rw [upd_ne (np a (q a (by rw [w1]; simp)))]
          exact w3
        | w ds =>
          refine z.elim fun a ⟨xs, w1, w2, w3, w4⟩ => ⟨a, xs, w1, w2, ?_, by rw [em]; exact w4⟩
          rw [upd_ne (np a (q a (by rw [w1]; simp)))]
          exact w3
/-! ### rules -/
end
end Lm
namespace Lm
open PySem PySem.Spec PyProof.Rows L2
end Lm


/-! the first list that serves (k55, k20) -/
namespace Lm
open PySem PySem.Spec PyProof.Rows L2
/-! ### sets that grow, each ascending -/
def addF (acc row : List Int) : List Int := acc ++ row.filter fun x => !decide (x ∈ acc)
structure Grow (acc : List Int) (R : List (List Int)) : Prop where
  nd : acc.Nodup
  asc : ∀ S ∈ R, S.Pairwise (· < ·)
  sub : ∀ S ∈ R, ∀ x ∈ acc, x ∈ S
  pw : R.Pairwise fun S T => ∀ x ∈ S, x ∈ T
theorem asc_nd {S : List Int} (h : S.Pairwise (· < ·)) : S.Nodup := h.imp fun w e => by omega
theorem add_perm {acc S : List Int} (nd : acc.Nodup) (ns : S.Nodup) (sub : ∀ x ∈ acc, x ∈ S) : (addF acc S).Perm S := by
  unfold addF
  refine (List.perm_ext_iff_of_nodup ?_ ns).mpr fun x => ?_
  · rw [List.nodup_append]
    exact ⟨nd, ns.filter _, fun a ha b hb e => by
      have := (List.mem_filter.mp hb).2
      rw [e] at ha
      simp [ha] at this⟩
  · rw [List.mem_append, List.mem_filter]
    constructor
    · rintro (h | h)
      · exact sub x h
      · exact h.1
    · intro h
      by_cases q : x ∈ acc
      · exact .inl q
      · exact .inr ⟨h, by simp [q]⟩
theorem Grow.step {acc S : List Int} {R : List (List Int)} (h : Grow acc (S :: R)) : (addF acc S).Perm S ∧ Grow (addF acc S) R := by
  have p1 := List.pairwise_cons.mp h.pw
  have p := add_perm h.nd (asc_nd (h.asc S (by simp))) (h.sub S (by simp))
  exact ⟨p, ⟨p.nodup_iff.mpr (asc_nd (h.asc S (by simp))), fun T hT => h.asc T (by simp [hT]), fun T hT x hx => p1.1 T hT x (p.mem_iff.mp hx), p1.2⟩⟩
theorem Grow.fold : ∀ {R : List (List Int)} {acc : List Int}, Grow acc R → acc <+: R.foldl addF acc ∧ (R.foldl addF acc).Nodup ∧ (∀ S ∈ R, ((R.foldl addF acc).take S.length).Perm S) ∧ ∀ S, R.getLast? = some S → (R.foldl addF acc).Perm S
  | [], acc, h => ⟨List.prefix_refl _, h.nd, (fun S hS => nomatch hS), fun S hS => nomatch hS⟩
  | S :: R, acc, h => by
    obtain ⟨p, g⟩ := h.step
    obtain ⟨i1, i2, i3, i4⟩ := g.fold
    rw [List.foldl_cons]
    refine ⟨(List.prefix_append _ _).trans i1, i2, fun T hT => ?_, fun T hT => ?_⟩
    · rcases List.mem_cons.mp hT with w | w
      · obtain ⟨t, ht⟩ := i1
        rw [w, ← ht, List.take_append_of_le_length (by rw [p.length_eq]; exact Nat.le_refl _), List.take_of_length_le (by rw [p.length_eq]; exact Nat.le_refl _)]
        exact p
      · exact i3 T w
    · cases R with
      | nil =>
        have : T = S := by simpa using hT.symm
        rw [this]; exact p
      | cons U R => exact i4 T (by simpa using hT)
end Lm
namespace Lm
open PySem PySem.Spec PyProof.Rows L2
/-- sets of which any two are one in the other, by size -/
structure Chn (M : List (List Int)) : Prop where
  asc : ∀ S ∈ M, S.Pairwise (· < ·)
  sub : ∀ S ∈ M, ∀ T ∈ M, S.length ≤ T.length → ∀ x ∈ S, x ∈ T
theorem sort_mem {M : List (List Int)} {S : List Int} : S ∈ M.mergeSort lenI ↔ S ∈ M := (List.mergeSort_perm _ _).mem_iff
theorem sort_len (M : List (List Int)) : (M.mergeSort lenI).Pairwise fun S T => S.length ≤ T.length := by
  have := List.pairwise_mergeSort (le := lenI) (fun a b c h1 h2 => by unfold lenI at *; simp at *; omega) (fun a b => by unfold lenI; simp; omega) M
  exact this.imp fun h => by unfold lenI at h; simp at h; omega
theorem Chn.grow {M : List (List Int)} (h : Chn M) : Grow [] (M.mergeSort lenI) := ⟨List.nodup_nil, fun S hS => h.asc S (sort_mem.mp hS), (fun S _ x hx => nomatch hx), by
  have := sort_len M
  exact this.imp_of_mem fun {S T} hS hT l => h.sub S (sort_mem.mp hS) T (sort_mem.mp hT) l⟩
def slM (M : List (List Int)) : List Int := (M.mergeSort lenI).foldl addF []
theorem Chn.nd {M : List (List Int)} (h : Chn M) : (slM M).Nodup := h.grow.fold.2.1
theorem Chn.take {M : List (List Int)} (h : Chn M) {S : List Int} (hS : S ∈ M) : ((slM M).take S.length).Perm S := h.grow.fold.2.2.1 S (sort_mem.mpr hS)
/-- as long as the greatest, and nothing besides -/
theorem Chn.whole {M : List (List Int)} (h : Chn M) : (slM M = [] ∧ M = []) ∨ ∃ S ∈ M, (slM M).Perm S ∧ ∀ T ∈ M, T.length ≤ S.length := by
  cases e : (M.mergeSort lenI).getLast? with
  | none =>
    left
    have e := List.getLast?_eq_none_iff.mp e
    have : M = [] := List.eq_nil_of_length_eq_zero (by rw [← List.length_mergeSort (le := lenI) M, e]; rfl)
    exact ⟨by unfold slM; rw [e]; rfl, this⟩
  | some S =>
    right
    have hm := List.mem_of_getLast? e
    refine ⟨S, sort_mem.mp hm, h.grow.fold.2.2.2 S e, fun T hT => ?_⟩
    have hT := sort_mem.mpr hT
    obtain ⟨ys, ey⟩ := List.getLast?_eq_some_iff.mp e
    rw [ey] at hT
    have pw := sort_len M
    rw [ey, List.pairwise_append] at pw
    rcases List.mem_append.mp hT with w | w
    · exact pw.2.2 T w S (by simp)
    · rw [List.mem_singleton.mp w]; exact Nat.le_refl _
theorem Chn.mem {M : List (List Int)} (h : Chn M) {x : Int} (hx : x ∈ slM M) : ∃ S ∈ M, x ∈ S := by
  rcases h.whole with ⟨e, _⟩ | ⟨S, hS, p, _⟩
  · rw [e] at hx; cases hx
  · exact ⟨S, hS, p.mem_iff.mp hx⟩
/-! ### the first list of a rule (k55) -/
end Lm


/-! first lists of a table (k20, k21) -/
namespace Lm
open PySem PySem.Spec PyProof.Rows L2
/-! ### the full lists -/
def rngI (b : Nat) : List Int := (List.range b).map fun (i : Nat) => (i : Int)
theorem rngI_asc (b : Nat) : (rngI b).Pairwise (· < ·) := by
  unfold rngI
  rw [List.pairwise_map]
  exact List.pairwise_lt_range.imp fun w => by omega
theorem mem_rngI {b : Nat} {x : Int} : x ∈ rngI b ↔ 0 ≤ x ∧ x < b := by
  unfold rngI
  rw [List.mem_map]
  constructor
  · rintro ⟨i, hi, rfl⟩
    have := List.mem_range.mp hi
    omega
  · intro h
    exact ⟨x.toNat, List.mem_range.mpr (by omega), by omega⟩
theorem Chn.full {M : List (List Int)} {b : Nat} (h : Chn M) (hM : ∀ S ∈ M, ∀ x ∈ S, 0 ≤ x ∧ x < b) : Grow [] (M.mergeSort lenI ++ [rngI b]) := by
  have g := h.grow
  refine ⟨List.nodup_nil, fun S hS => ?_, (fun S _ x hx => nomatch hx), ?_⟩
  · rcases List.mem_append.mp hS with w | w
    · exact g.asc S w
    · rw [List.mem_singleton.mp w]; exact rngI_asc b
  · rw [List.pairwise_append]
    refine ⟨g.pw, List.pairwise_singleton .., fun S hS T hT x hx => ?_⟩
    rw [List.mem_singleton.mp hT]
    exact mem_rngI.mpr (hM S (sort_mem.mp hS) x hx)
/-! ### the promises -/
end Lm


/-! defs that answer or raise: promises, and what raises within a body -/
namespace Lm
open PySem PySem.Spec PyProof.Rows L2
def spRef (K : PySem.W.Frag) (C : Addr) (R : List PyData → Str → Prop) : Sp := fun vs H Q E => ∃ ds nm, BoAll (pc K) H vs ds ∧ R ds nm ∧ ∀ dx H1, Same H H1 → H1 dx = some (.xd [("name", .str nm)]) → E (.ref C) (some dx) H1
abbrev spDR (K : PySem.W.Frag) (C : Addr) (sp : Sp) (R : List PyData → Str → Prop) : Sp := fun vs H Q E => sp vs H Q E ∨ spRef K C R vs H Q E
section
variable {K : PySem.W.Frag} {C : Addr} {H0 : Hp} {Γ : List (Option Rs)} {σ : L2.St} {te tf : TE} {ta : TA} {tt : TT} {t u : TS} {k kb : Kd} {d x : PyData} {n : Nat} {nm : Str} {ds : List PyData} {R : List PyData → Str → Prop} {sp : Sp} {E : XK} {W : L2.St → XK} {a : Bool}
/-- te raises -/
def EvRz (c : Ct) (H0 : Hp) (te : TE) (Γ : List (Option Rs)) : Prop := ∀ O H σ Q, Env c H0 O H σ Γ → te σ H Q
theorem same_of {H H1 : Hp} (e : Env (pc K) H0 O H σ Γ) (r : Rr (pc K) H H1) {H2 : Hp} (sm : Same H1 H2) : Same H0 H2 := fun a o w => sm a o ((e.rH.tr r).1 a o (fun _ _ w => nomatch w) w)
theorem x_ref (ha : EvA (pc K) ta Γ false ds) (hr : R ds nm) (hE : ∀ dx H1, Same H0 H1 → H1 dx = some (.xd [("name", .str nm)]) → E (.ref C) (some dx) H1) : EvRz (pc K) H0 (tCall (spDR K C sp R) [] E ta) Γ := fun O H σ Q e =>
  ha H0 O H σ e _ fun vs H1 r s => .inr ⟨ds, nm, by rw [List.append_nil]; exact s, hr, fun dx H2 sm z => hE dx H2 (same_of e r sm) z⟩
theorem x_good {pre : Pre} (h : EvA (pc K) ta Γ false ds) (hp : pre ds k d) : Ev (pc K) (tCall (spDR K C (spD K pre) R) [] E ta) Γ k d := fun H0 O H σ e Q q =>
  h H0 O H σ e _ fun vs H1 r s => by
    refine .inl ⟨ds, k, d, by rw [List.append_nil]; exact s.pure, hp, fun v H2 sm rt => q v H2 (r.tr (Rr.same sm)) ?_⟩
    have r2 : Rr (pc K) H H2 := r.tr (Rr.same sm)
    cases k with
    | v => exact (Bo.flat (c := pc K) (c' := pc K) rfl rt.1 rt.2).flatM e r2 rt.1
    | o =>
      obtain ⟨fp, f, nd, new⟩ := rt
      exact ⟨fp, f, nd, fun a ha => r.back e.jH (new a ha)⟩
    | b => obtain ⟨⟨_, e⟩, _⟩ := rt; exact nomatch e
theorem xl_req (hz : nm.length ≤ 1000) (hE : ∀ dx H1, Same H0 H1 → H1 dx = some (.xd [("name", .str nm)]) → E (.ref C) (some dx) H1) (h : Ev (pc K) te Γ k (.bool false)) : SdX (pc K) H0 (tDrop (tCall (spReq C) [] E (tCons te (tCons (tC (.str nm)) tNil)))) Γ := fun O H σ D e =>
  h H0 O H σ e _ fun v H1 r s => ⟨false, nm, by rw [(Res.bo e s).bl']; rfl, hz, (fun w => nomatch w), fun _ dx hdx => hE dx _ (fun a o z => by
    have z1 : H1 a = some o := (e.rH.tr r).1 a o (fun _ _ w => nomatch w) z
    rw [upd_ne (ne_of_none z1 hdx)]
    exact z1) upd_same⟩
theorem x_okreq (hz : nm.length ≤ 1000) (h : Ev (pc K) te Γ k (.bool true)) (p : SdX (pc K) H0 u Γ) : SdX (pc K) H0 (tSeq (tDrop (tCall (spReq C) [] E (tCons te (tCons (tC (.str nm)) tNil)))) u) Γ := fun O H σ D e =>
  h H0 O H σ e _ fun v H1 r s => ⟨true, nm, by rw [(Res.bo e s).bl']; rfl, hz, (fun _ => p O H1 σ D (e.on r)), fun w => nomatch w⟩
theorem x_seq {c : Ct} (h : SdX c H0 t Γ) : SdX c H0 (tSeq t u) Γ := fun O H σ D e => h O H σ _ e
theorem x_dropE {c : Ct} (h : EvRz c H0 te Γ) : SdX c H0 (tDrop te) Γ := fun O H σ D e => h O H σ _ e
theorem x_retE {c : Ct} (h : EvRz c H0 te Γ) : SdX c H0 (tRet te) Γ := fun O H σ D e => h O H σ _ e
theorem run_ref {N : List Str} {t : TS} {vs : List V} {H : Hp} {Q : VK}
    (hs : ∀ ds nm, R ds nm → (∀ dx H1, Same H H1 → H1 dx = some (.xd [("name", .str nm)]) → E (.ref C) (some dx) H1) → SdX (pc K) H t (argsG ds N.length)) (h : spRef K C R vs H Q E) : t { nx := fun _ H' => Q .non H', rt := Q } (start N vs) H := by
  obtain ⟨ds, nm, hb, hd, hE⟩ := h
  exact hs ds nm hd hE [] H (start N vs) _ (env_args Ji.pc hb)
/-! under try, where nothing is assigned -/
def SdY (c : Ct) (H0 : Hp) (σ : L2.St) (t : TS) (Γ : List (Option Rs)) : Prop := ∀ O H D, Env c H0 O H σ Γ → t D σ H
theorem y_if {c : Ct} (h : EvT c tt Γ a) (h1 : a = true → SdY c H0 σ t Γ) (h2 : a = false → SdY c H0 σ u Γ) : SdY c H0 σ (tIfS tt t u) Γ := fun O H D e => h H0 O H σ e _ fun H1 r => by
  show if a = true then t D σ H1 else u D σ H1
  cases a with
  | true => rw [if_pos rfl]; exact h1 rfl O H1 D (e.on r)
  | false => rw [if_neg (by decide)]; exact h2 rfl O H1 D (e.on r)
theorem y_yes {c : Ct} (h : EvT c tt Γ true) (h1 : SdY c H0 σ t Γ) : SdY c H0 σ (tIfS tt t u) Γ := y_if h (fun _ => h1) fun w => nomatch w
theorem y_no {c : Ct} (h : EvT c tt Γ false) (h1 : SdY c H0 σ u Γ) : SdY c H0 σ (tIfS tt t u) Γ := y_if h (fun w => nomatch w) fun _ => h1
theorem y_drop (ha : EvA (pc K) ta Γ false ds) (hr : R ds nm) (hE : ∀ dx H1, Same H0 H1 → H1 dx = some (.xd [("name", .str nm)]) → W σ (.ref C) (some dx) H1) : SdY (pc K) H0 σ (tDrop (tCallS (spDR K C sp R) W ta)) Γ := fun O H D e =>
  ha H0 O H σ e _ fun vs H1 r s => .inr ⟨ds, nm, s, hr, fun dx H2 sm z => hE dx H2 (same_of e r sm) z⟩
theorem d_callS {pre : Pre} (h : EvA (pc K) ta Γ false ds) (hp : pre ds k d) : Ev (pc K) (tCallS (spDR K C (spD K pre) R) W ta) Γ k d := fun H0 O H σ e Q q =>
  h H0 O H σ e _ fun vs H1 r s => by
    refine .inl ⟨ds, k, d, s.pure, hp, fun v H2 sm rt => q v H2 (r.tr (Rr.same sm)) ?_⟩
    have r2 : Rr (pc K) H H2 := r.tr (Rr.same sm)
    cases k with
    | v => exact (Bo.flat (c := pc K) (c' := pc K) rfl rt.1 rt.2).flatM e r2 rt.1
    | o =>
      obtain ⟨fp, f, nd, new⟩ := rt
      exact ⟨fp, f, nd, fun a ha => r.back e.jH (new a ha)⟩
    | b => obtain ⟨⟨_, e⟩, _⟩ := rt; exact nomatch e
end
/-- a slice of a list that stays -/
theorem e_slLV {c : Ct} {tl th : TO} {lo hi : Option Int} (h : Ev c te Γ .v (.list ds)) (h1 : Eo c tl Γ lo) (h2 : Eo c th Γ hi) : Ev c (tSl (rSlU c.K) te tl th) Γ .v (.list (Lm.cutD ds lo hi)) := fun H0 O H σ e Q q =>
  h H0 O H σ e _ fun v H1 r1 s1 => h1 H0 O H1 σ (e.on r1) _ fun H2 r2 => h2 H0 O H2 σ ((e.on r1).on r2) _ fun H3 r3 => .inr <| by
    have r : Rr c H H3 := (r1.tr r2).tr r3
    have bv : Bo c (mns H3 O) v (.list ds) := Res.on (k := .v) e r1 (r2.tr r3) s1
    obtain ⟨p, xs, rfl, _, s, al⟩ := bv.lst'
    refine ⟨p, xs, rfl, mns_same.seq s, fun p' hp => ?_⟩
    exact q _ _ (r.tr (Rr.same fun b u z => by rw [upd_ne (ne_of_none z hp)]; exact z)) (newV (H := H) (e.on r) al.cut hp)
/-! ### who raises what -/
/-! ### k26 -/
end Lm


/-! what lists give, told or refused (k22) -/
namespace Lm
open PySem PySem.Spec PyProof.Rows L2
section
variable {K : PySem.W.Frag} {C : Addr} {σ : L2.St} {nm : Str}
end
/-! ### any value as an allocation -/
def balB (x : PyData) : Bool := areInts x 0 20 && ((decide (1 ≤ lenT x) && decide (lenT x ≤ 5)) && decide (sumT x ≤ 20))
theorem Alc.bal {ns : List Int} {v b : Int} (h : Alc ns v b) (v1 : 1 ≤ v) (v5 : v ≤ 5) (b20 : b ≤ 20) : balB (tupD ns) = true := by
  have l := h.len
  unfold balB
  rw [areInts_of fun n hn => ⟨h.nn n hn, by have := h.le n hn; omega⟩, lenT_ints, sumT_ints, h.sum, decide_eq_true (show 1 ≤ ns.length by omega), decide_eq_true (show ns.length ≤ 5 by omega), decide_eq_true b20]
  rfl
def sp_is_bounded_allocationX (K : PySem.W.Frag) : Sp := spD K fun ds k d => ∃ x, ds = [x] ∧ SmallT x ∧ k = .v ∧ d = .bool (balB x)
/-! ### what is due -/
/-! ### lists of distinct buckets -/
structure Dst (r : List Int) : Prop where
  nd : r.Nodup
  rg : ∀ x ∈ r, 0 ≤ x ∧ x < 20
theorem Dst.len {r : List Int} (h : Dst r) : r.length ≤ 20 := by
  have := List.Nodup.length_le_of_subset (l₁ := r) (l₂ := rngI 20) h.nd fun x hx => by
    have := h.rg x hx
    exact mem_rngI.mpr (by omega)
  unfold rngI at this
  simpa using this
end Lm


/-! a comprehension of two clauses -/
namespace Lm
open PySem PySem.Spec PyProof.Rows L2
section
variable {c : Ct} {H H' H0 H1 H2 H3 H4 : Hp} {O : List Addr} {σ σ1 : L2.St} {Γ Γ1 Γ' : List (Option Rs)} {te : TE} {fz : Bool} {k : Kd} {u : TS} {P : Out → Prop} {n : Nat}
theorem Reps.bareM {fp : List Addr} {D : Addr} (j : Ji c (mns H O)) (rm : Rr c (mns H O) (mns H' O)) (h : Reps c O H σ Γ fp) : bareB Γ = true → Reps c O H' σ Γ [] := by
  induction h with
  | nil => intro _; exact .nil
  | @cons x s f fs σ Γ a b ih =>
    intro hb
    cases s with
    | none => exact .cons (f := []) (fs := []) rfl (ih hb)
    | some s =>
      cases s with
      | o d => cases hb
      | d u => cases hb
      | w ds => cases hb
      | v d =>
        obtain ⟨_, v, hv, bo⟩ := a
        exact .cons (f := []) (fs := []) ⟨rfl, v, hv, bo.mono j rm⟩ (ih hb)
      | r y => exact .cons (f := []) (fs := []) ⟨rfl, a.2⟩ (ih hb)
end
end Lm
namespace Lm
open PySem PySem.Spec PyProof.Rows L2
/-! ### all tables of a plan (k39 to k43, k52) -/
def stepT (b : Nat) (rows : List (List (List Int))) (a : List Int) : List (List (List Int)) := rows.flatMap fun t => (asgN a b).map fun r => t ++ [r]
def tbF (b : Nat) (rows : List (List (List Int))) (A : List (List Int)) : List (List (List Int)) := A.foldl (stepT b) rows
/-- which tables there are -/
theorem mem_tbF {b : Nat} : ∀ {A : List (List Int)} {t : List (List Int)}, t ∈ tbF b [[]] A ↔ t.length = A.length ∧ ∀ i < A.length, t.getD i [] ∈ asgN (A.getD i []) b := by
  have gen : ∀ {A : List (List Int)} {rows : List (List (List Int))} {t : List (List Int)}, t ∈ tbF b rows A ↔ ∃ p ∈ rows, ∃ s, t = p ++ s ∧ s.length = A.length ∧ ∀ i < A.length, s.getD i [] ∈ asgN (A.getD i []) b := by
    intro A
    induction A with
    | nil =>
      intro rows t
      constructor
      · intro h
        exact ⟨t, h, [], by simp, rfl, by simp⟩
      · rintro ⟨p, hp, s, rfl, hs, _⟩
        have : s = [] := List.length_eq_zero_iff.mp hs
        subst this
        rw [List.append_nil]
        exact hp
    | cons a A ih =>
      intro rows t
      show t ∈ tbF b (stepT b rows a) A ↔ _
      rw [ih]
      constructor
      · rintro ⟨p, hp, s, rfl, hs, hm⟩
        obtain ⟨p0, hp0, hp1⟩ := List.mem_flatMap.mp hp
        obtain ⟨r, hr, rfl⟩ := List.mem_map.mp hp1
        refine ⟨p0, hp0, r :: s, by simp, by simp [hs], fun i hi => ?_⟩
        cases i with
        | zero => exact hr
        | succ i => exact hm i (by simpa using hi)
      · rintro ⟨p, hp, s, rfl, hs, hm⟩
        cases s with
        | nil => simp at hs
        | cons r s =>
          exact ⟨p ++ [r], List.mem_flatMap.mpr ⟨p, hp, List.mem_map.mpr ⟨r, hm 0 (by simp), rfl⟩⟩, s, by simp, by simpa using hs, fun i hi => hm (i + 1) (by simpa using hi)⟩
  intro A t
  rw [gen]
  constructor
  · rintro ⟨p, hp, s, rfl, h1, h2⟩
    rw [List.mem_singleton.mp hp]
    exact ⟨h1, h2⟩
  · rintro ⟨h1, h2⟩
    exact ⟨[], by simp, t, rfl, h1, h2⟩
/-! ### buckets may be told in another order -/
/-- what is found behind any start is found behind the ascending one -/
theorem Tbl.of {A : List (List Int)} {v b : Int} {s : List Int} {t : List (List Int)} (hA : Ser A v b) (hs : s ∈ asgN (A.getD 0 []) b.toNat) (ht : t ∈ tbF b.toNat [[]] (A.drop 1)) : Tbl (s :: t) A v b := by
  obtain ⟨h1, h2⟩ := mem_tbF.mp ht
  have l1 := hA.l1
  rw [List.length_drop] at h1 h2
  have okp : ∀ {a r : List Int}, Alc a v b → r ∈ asgN a b.toNat → OkP (a, r) v b := fun {a r} ha hr => by
    obtain ⟨c1, c2, c3⟩ := asgN_cnt ha hr
    exact ⟨ha, c1, c2, c3⟩
  refine ⟨hA, by rw [List.length_cons]; omega, fun i hi => ?_⟩
  cases i with
  | zero => exact okp (hA.alc _ (gL_mem hi)) hs
  | succ i =>
    have := h2 i (by omega)
    have e : (A.drop 1).getD i [] = A.getD (i + 1) [] := by simp [List.getD_eq_getElem?_getD, Nat.add_comm]
    rw [e] at this
    exact okp (hA.alc _ (gL_mem hi)) this
/-! ### how many there are -/
/-! ### the promises -/
/-! ### plans that go round -/
end Lm


/-! a list of one's own whose items stay, lists in them too -/
namespace Lm
open PySem PySem.Spec PyProof.Rows L2
section
variable {c : Ct} {H H' H0 H1 H2 H3 : Hp} {O : List Addr} {σ : L2.St} {Γ Γ' : List (Option Rs)} {te ta tb tx : TE} {tr : TA} {k ka kb : Kd} {u t : TS} {P : Out → Prop} {n m : Nat} {x d : PyData} {ds es : List PyData} {i : Int} {fz : Bool} {tt : TT}
/-- a list of one's own that is kept in a slot is a list whose items stay, and back -/
theorem Env.dw (e : Env c H0 O H σ Γ) {i : Nat} {xs : List V} {ds : List PyData} (h : Γ[i]? = some (some (.d (.lst xs)))) (b : BoAll c (mns H O) xs ds) : Env c H0 O H σ (Γ.set i (some (.w ds))) := by
  obtain ⟨fp, hr, nd, sub⟩ := e.rep
  obtain ⟨x, f, pre, post, h1, h2, h3, h4⟩ := hr.nth h
  obtain ⟨a, rfl, rfl, ha, _⟩ := h2
  subst h3
  have hσ : σ.set i (some (.ref a)) = σ := by
    obtain ⟨hlt, e1⟩ := List.getElem?_eq_some_iff.mp h1
    rw [← e1]
    exact List.set_getElem_self hlt
  have := h4 O H (some (.ref a)) (some (.w ds)) [a] (fun y t g q z => z) ⟨a, xs, rfl, rfl, ha, b⟩
  rw [hσ] at this
  exact ⟨e.r0, e.j, e.fr, e.dm, _, this, nd, sub⟩
theorem Env.wd (e : Env c H0 O H σ Γ) {i : Nat} {ds : List PyData} (h : Γ[i]? = some (some (.w ds))) : ∃ a xs, σ[i]? = some (some (.ref a)) ∧ H a = some (.lst xs) ∧ a ∈ O ∧ BoAll c (mns H O) xs ds ∧ Env c H0 O H σ (Γ.set i (some (.d (.lst xs)))) := by
  obtain ⟨fp, hr, nd, sub⟩ := e.rep
  obtain ⟨x, f, pre, post, h1, h2, h3, h4⟩ := hr.nth h
  obtain ⟨a, xs, rfl, rfl, ha, b⟩ := h2
  subst h3
  have hσ : σ.set i (some (.ref a)) = σ := by
    obtain ⟨hlt, e1⟩ := List.getElem?_eq_some_iff.mp h1
    rw [← e1]
    exact List.set_getElem_self hlt
  have := h4 O H (some (.ref a)) (some (.d (.lst xs))) [a] (fun y t g q z => z) ⟨a, rfl, rfl, ha, trivial⟩
  rw [hσ] at this
  exact ⟨a, xs, h1, ha, sub a (by simp), b, e.r0, e.j, e.fr, e.dm, _, this, nd, sub⟩
/-- a slot is given a new list D whose items stay -/
theorem Env.newW (e : Env c H0 O H σ Γ) {i : Nat} {D : Addr} {xs : List V} (hD : H D = none) (r : Rr c H H') (h : H' D = some (.lst xs)) (rm : Rr c (mns H O) (mns H' (D :: O))) (b : BoAll c (mns H' (D :: O)) xs ds) : Env c H0 (D :: O) H' (σ.set i (some (.ref D))) (Γ.set i (some (.w ds))) := by
  have hO : D ∉ O := new_notO e hD
  refine ⟨e.r0.tr rm, rm.2 e.j, fun a ha => ?_, fun a ha => ?_, ?_⟩
  · rcases List.mem_cons.mp ha with q | q
    · rw [q]; exact e.back0 (by rw [mns_out hO]; exact hD)
    · exact e.fr a q
  · rcases List.mem_cons.mp ha with q | q
    · rw [q]; exact ⟨_, h, trivial⟩
    · obtain ⟨u, w, hw⟩ := e.dm a q
      exact ⟨u, r.1 a _ (e.okO a q) w, hw⟩
  · obtain ⟨fp, hr, nd, sub⟩ := e.rep
    have keep : ∀ y t g, (∀ a ∈ g, a ∈ O) → RepO c O H y t g → RepO c (D :: O) H' y t g := fun y t g hg z => by
      cases t with
      | none => exact z
      | some t =>
        cases t with
        | v d => exact ⟨z.1, z.2.elim fun v hv => ⟨v, hv.1, hv.2.mono e.j rm⟩⟩
        | o d => exact z.elim fun v hv => ⟨v, hv.1, hv.2.up (fun _ _ s => r.tup e.jH s) fun a ha o ho => r.1 a o (e.okO a (hg a ha)) ho⟩
        | r y => exact z
        | d u => exact z.elim fun a ⟨w1, w2, w3, w4⟩ => ⟨a, w1, w2, r.1 a _ (e.okO a (hg a (by rw [w1]; simp))) w3, w4⟩
        | w ds => exact z.elim fun a ⟨xs, w1, w2, w3, w4⟩ => ⟨a, xs, w1, w2, r.1 a _ (e.okO a (hg a (by rw [w1]; simp))) w3, w4.mono e.j rm⟩
    by_cases hi : i < Γ.length
    · obtain ⟨x, g, pre, post, h1, h2, h3, h4⟩ := hr.nth (s := Γ[i]) (List.getElem?_eq_getElem hi)
      subst h3
      refine ⟨pre ++ ([D] ++ post), h4 _ _ _ _ [D] (fun y t g' q z => keep y t g' (fun a ha => sub a (by have := q a ha; simp at this ⊢; rcases this with w | w <;> simp [w])) z) ⟨D, xs, rfl, rfl, h, b⟩, ?_, fun a ha => ?_⟩
      · have n0 : (pre ++ post).Nodup := nd.sublist (by simp)
        rw [List.nodup_append] at n0 ⊢
        refine ⟨n0.1, ?_, ?_⟩
        · rw [List.nodup_append]
          refine ⟨by simp, n0.2.1, fun a ha b' hb q => ?_⟩
          subst q
          rw [List.mem_singleton.mp ha] at hb
          exact hO (sub D (by simp [hb]))
        · intro a ha b' hb q
          subst q
          rcases List.mem_append.mp hb with w | w
          · rw [List.mem_singleton.mp w] at ha
            exact hO (sub D (by simp [ha]))
          · exact n0.2.2 a ha a w rfl
      · simp only [List.mem_append, List.mem_cons, List.not_mem_nil, or_false] at ha ⊢
        rcases ha with q | q | q
        · exact .inr (sub a (by simp [q]))
        · exact .inl q
        · exact .inr (sub a (by simp [q]))
    · have hs : ¬ i < σ.length := by rw [hr.len]; exact hi
      rw [List.set_eq_of_length_le (by omega), List.set_eq_of_length_le (by omega)]
      exact ⟨fp, hr.map fun x s g q z => keep x s g (fun a ha => sub a (q a ha)) z, nd, fun a ha => by simp [sub a ha]⟩
/-- te makes a new list whose items stay -/
def EvW (c : Ct) (te : TE) (Γ : List (Option Rs)) (ds : List PyData) : Prop :=
  ∀ H0 O H σ, Env c H0 O H σ Γ → ∀ Q : VK, (∀ p xs H2, H p = none → Rr c H H2 → H2 p = some (.lst xs) → Rr c (mns H O) (mns H2 (p :: O)) → BoAll c (mns H2 (p :: O)) xs ds → Q (.ref p) H2) → te σ H Q
theorem q_asgW (h : EvW c te Γ ds) (p : Sd c u (Γ.set n (some (.w ds))) P) : Sd c (tSeq (tAsg te (gName n)) u) Γ P := fun H0 O H σ D e s =>
  h H0 O H σ e _ fun a xs H2 ha r h2 rm b => p H0 (a :: O) H2 _ D (e.newW ha r h2 rm b) s
theorem newW1 {H1 : Hp} {xs : List V} {p : Addr} (e : Env c H0 O H σ Γ) (r : Rr c H H1) (hp : H1 p = none) (b : BoAll c (mns H1 O) xs ds) {Q : VK} (q : ∀ p xs H2, H p = none → Rr c H H2 → H2 p = some (.lst xs) → Rr c (mns H O) (mns H2 (p :: O)) → BoAll c (mns H2 (p :: O)) xs ds → Q (.ref p) H2) : Q (.ref p) (upd H1 p (.lst xs)) :=
  q p xs _ (r.back e.jH hp) (r.tr (Rr.same fun b u z => by rw [upd_ne (ne_of_none z hp)]; exact z)) upd_same (by rw [mns_own hp]; exact r.mns e.j e.okO) (by rw [mns_own hp]; exact b)
theorem w_lst (h : EvA c tr Γ true ds) (hl : ds.length ≤ 1000000) : EvW c (tLst tr) Γ ds := fun H0 O H σ e Q q =>
  h H0 O H σ e _ fun vs H1 r s => by
    have s' := BoAll.vm s
    exact ⟨by rw [s'.len]; exact sizeOk hl, fun p hp => newW1 e r hp s' q⟩
theorem w_list (h : Ev c te Γ .v (.list ds)) : EvW c (tCB (rListA c.K) (tCons te tNil)) Γ ds := fun H0 O H σ e Q q =>
  h H0 O H σ e _ fun v H1 r s => by
    have bv : Bo c (mns H1 O) v (.list ds) := s
    obtain ⟨p, xs, rfl, _, sl, al⟩ := bv.lst'
    exact ⟨p, xs, rfl, .inl (mns_same.seq sl), fun l hl => newW1 e r hl al q⟩
/-- x.append(v) -/
theorem s_appW (hx : Γ[n]? = some (some (.w ds))) (h : Ev c te Γ .v d) (hl : ds.length < 1000000) (p : P (.nx (Γ.set n (some (.w (ds ++ [d])))))) : Sd c (tDrop (tBM c.K "list" rAppend (tVar n) (tCons te tNil))) Γ P := fun H0 O H σ D e s => by
  obtain ⟨a, xs, ha, hH, hO, b, _⟩ := e.wd hx
  refine ⟨.ref a, ha, .inl ⟨rfl, xs, .inl (.inl hH)⟩, h H0 O H σ e _ fun v H2 r rs => ?_⟩
  have e2 := e.on r
  obtain ⟨a', xs', ha', hH', hO', b', ed⟩ := e2.wd hx
  have : a' = a := by rw [ha] at ha'; cases ha'; rfl
  subst this
  have bv : Bo c (mns H2 O) v d := rs
  have hn : n < Γ.length := (List.getElem?_eq_some_iff.mp hx).1
  obtain ⟨p2, hp2, hq2, hq3, ew⟩ := ed.writeD (w := .lst (xs' ++ [v])) (List.getElem?_set_self hn) trivial
  have : p2 = a' := by rw [ha] at hp2; cases hp2; rfl
  subst this
  have em : mns (upd H2 p2 (.lst (xs' ++ [v]))) O = mns H2 O := by
    funext z
    by_cases hz : z ∈ O
    · rw [mns_in hz, mns_in hz]
    · rw [mns_out hz, mns_out hz, upd_ne (fun w => hz (by rw [w]; exact hq3))]
  refine ⟨p2, xs', v, rfl, rfl, hH', by rw [b'.len, sizeLine_eq]; omega, s _ p O _ σ ?_⟩
  rw [List.set_set] at ew
  have := ew.dw (ds := ds ++ [d]) (List.getElem?_set_self hn) (by rw [em]; exact b'.app (.cons bv .nil))
  rwa [List.set_set] at this
/-- from now on it is not written -/
theorem Env.freezeW (e : Env c H0 O H σ Γ) {i : Nat} (h : Γ[i]? = some (some (.w ds))) : ∃ O', Env c H0 O' H σ (Γ.set i (some (.v (.list ds)))) := by
  obtain ⟨fp, hr, nd, sub⟩ := e.rep
  obtain ⟨x, f, pre, post, h1, h2, h3, h4⟩ := hr.nth h
  obtain ⟨a, xs, rfl, rfl, ha, b⟩ := h2
  subst h3
  have hm : ∀ z, z ∈ O.filter (fun z => !decide (z = a)) ↔ z ∈ O ∧ z ≠ a := fun z => by simp
  have sm : Same (mns H O) (mns H (O.filter fun z => !decide (z = a))) := mns_sub fun z hz => ((hm z).mp hz).1
  have dis : ∀ z ∈ pre ++ post, z ≠ a := fun z hz w => by
    subst w
    have n2 := (List.nodup_append.mp nd).2.1
    rcases List.mem_append.mp hz with u | u
    · exact (List.nodup_append.mp nd).2.2 z u z (by simp) rfl
    · exact (List.nodup_append.mp n2).2.2 z (by simp) z u rfl
  refine ⟨O.filter fun z => !decide (z = a), ⟨e.r0.tr (Rr.same sm), e.j.same sm, fun z hz => e.fr z ((hm z).mp hz).1, fun z hz => e.dm z ((hm z).mp hz).1, ?_⟩⟩
  have hσ : σ.set i (some (.ref a)) = σ := by
    obtain ⟨hlt, e1⟩ := List.getElem?_eq_some_iff.mp h1
    rw [← e1]
    exact List.set_getElem_self hlt
  have hb : Bo c (mns H (O.filter fun z => !decide (z = a))) (.ref a) (.list ds) := by
    refine .lst (e.okO a (sub a (by simp))) (.inl (.inl ?_)) (b.same sm)
    rw [mns_out fun z => ((hm a).mp z).2 rfl]
    exact ha
  have := h4 (O.filter fun z => !decide (z = a)) H (some (.ref a)) (some (.v (.list ds))) [] (fun y t g q z => ?_) ⟨rfl, .ref a, rfl, hb⟩
  · rw [hσ] at this
    exact ⟨_, this, nd.sublist (by simp), fun z hz => (hm z).mpr ⟨sub z (by simp at hz ⊢; rcases hz with w | w <;> simp [w]), dis z (by simpa using hz)⟩⟩
  · cases t with
    | none => exact z
    | some t =>
      cases t with
      | v d => exact ⟨z.1, z.2.elim fun v hv => ⟨v, hv.1, hv.2.same sm⟩⟩
      | o d => exact z
      | r y => exact z
      | d u => exact z
      | w ds => exact z.elim fun a ⟨xs, w1, w2, w3, w4⟩ => ⟨a, xs, w1, w2, w3, w4.same sm⟩
theorem s_freezeW (h : Γ[n]? = some (some (.w ds))) (hs : Sd c t (Γ.set n (some (.v (.list ds)))) P) : Sd c t Γ P := fun H0 O H σ D e s => by
  obtain ⟨O', e'⟩ := e.freezeW h
  exact hs H0 O' H σ D e' s
/-- a comprehension whose items stay: a list of one's own -/
theorem w_lc {α : Type} {wi : TI} {g : TG} {vs : List Nat} {l : List α} {en : α → Im} (m : α → PyData) (hi : EvI c wi Γ fz (l.map en)) (hl : l.length ≤ 1000000)
    (hb : ∀ a ∈ l, ∃ Γ' js, EvG c g (en a) (wipeG Γ vs) Γ' js ∧ (∀ j ∈ js, j ∈ vs) ∧ Ev c te Γ' .v (m a)) :
    EvW c (tLc wi g tYes te vs) Γ (l.map m) := fun H0 O H σ e Q q =>
  hi H0 O H σ e _ fun J H1 r1 w D hD => by
    obtain ⟨jF, w⟩ := w
    have e1 := e.on r1
    have okD : okA c D := okA.fresh e1.jH hD
    have okO : ∀ a ∈ D :: O, okA c a := fun a ha => by
      rcases List.mem_cons.mp ha with w | w
      · rw [w]; exact okD
      · exact e1.okO a w
    refine lc_it w (fun n H' => Rr c H1 H' ∧ Rr c (mns H1 O) (mns H' (D :: O)) ∧ ∃ acc, H' D = some (.lst acc) ∧ BoAll c (mns H' (D :: O)) acc ((l.take n).map m)) ?_ ?_ ?_ ?_
    · exact ⟨Rr.same fun b o z => by rw [upd_ne (ne_of_none z hD)]; exact z, by rw [mns_own hD]; exact Rr.rf, [], upd_same, .nil⟩
    · intro n H' _ p
      exact (ifFz (F := H) e r1 p.1).1
    · rintro n x H' H'' hn ⟨p1, pm, acc, p2, p3⟩ ⟨sm, im, him, lo⟩
      rw [List.getElem?_map] at him
      cases ha : l[n]? with
      | none => rw [ha] at him; cases him
      | some a =>
      rw [ha] at him
      have ea : en a = im := Option.some.inj him
      subst ea
      have tk : l.take (n + 1) = l.take n ++ [a] := by rw [List.take_add_one, ha]; rfl
      have ln : n < l.length := (List.getElem?_eq_some_iff.mp ha).1
      have j1 : Ji c (mns H' (D :: O)) := pm.2 e1.j
      have pm2 : Rr c (mns H1 O) (mns H'' (D :: O)) := pm.tr ((Rr.same sm : Rr c H' H'').mns j1 okO)
      have p1' : Rr c H1 H'' := p1.tr (Rr.same sm)
      have e2 : Env c H0 (D :: O) H'' σ Γ := e1.own hD p1' (sm _ _ p2) pm2
      obtain ⟨Γ', js, hg, hjs, hy⟩ := hb a (List.mem_of_getElem? ha)
      refine hg H0 (D :: O) H'' _ _ fz x (e2.wipe vs) jF (ifFz (F := H) e r1 p1').1 (fun hf => ?_) lo _ fun σ2 e3 hw => ⟨(hw vs hjs).trans (wipe_wipe fun _ h => h), t_yes H0 (D :: O) H'' σ2 e3 _ fun H3 r3 => iteT ?_⟩
      · subst hf; exact pm2
      · refine hy H0 (D :: O) H3 σ2 (e3.on r3) _ fun v H4 r4 s4 => ?_
        have s4' : Bo c (mns H4 (D :: O)) v (m a) := s4
        have D3 : H3 D = some (.lst acc) := r3.1 D _ okD (sm _ _ p2)
        have D4 : H4 D = some (.lst acc) := r4.1 D _ okD D3
        have j2 : Ji c (mns H'' (D :: O)) := pm2.2 e1.j
        have m34 : Rr c (mns H'' (D :: O)) (mns H4 (D :: O)) := (r3.tr r4).mns j2 okO
        have p3' : BoAll c (mns H4 (D :: O)) acc ((l.take n).map m) := p3.mono j1 (((Rr.same sm : Rr c H' H'').mns j1 okO).tr m34)
        have lacc : acc.length = n := by rw [p3.len, List.length_map, List.length_take]; omega
        refine ⟨acc, D4, by rw [lacc, sizeLine_eq]; omega, rr_upd (p1'.tr (r3.tr r4)) hD, ?_, acc ++ [v], upd_same, ?_⟩
        · rw [mns_upd]; exact pm2.tr m34
        · rw [mns_upd, tk, List.map_append]
          exact p3'.app (.cons s4' .nil)
    · rintro H' ⟨p1, pm, acc, p2, p3⟩
      rw [List.length_map, List.take_length] at p3
      exact q D acc H' (r1.back e.jH hD) (r1.tr p1) p2 ((r1.mns e.j e.okO).tr pm) p3
end
end Lm


/-! who raises what among the changes (k18) -/
namespace Lm
open PySem PySem.Spec PyProof.Rows L2
theorem xl_reqE {K : PySem.W.Frag} {C : Addr} {H0 : Hp} {Γ : List (Option Rs)} {te tn : TE} {k kn : Kd} {nm : Str} {E : XK} (hz : nm.length ≤ 1000) (hE : ∀ dx H1, Same H0 H1 → H1 dx = some (.xd [("name", .str nm)]) → E (.ref C) (some dx) H1) (h : Ev (pc K) te Γ k (.bool false)) (hn : Ev (pc K) tn Γ kn (.str nm)) : SdX (pc K) H0 (tDrop (tCall (spReq C) [] E (tCons te (tCons tn tNil)))) Γ := fun O H σ D e =>
  h H0 O H σ e _ fun v H1 r s => hn H0 O H1 σ (e.on r) _ fun u H2 r2 s2 => ⟨false, nm, by rw [(Res.bo e s).bl', (Res.bo (e.on r) s2).str']; rfl, hz, (fun w => nomatch w), fun _ dx hdx => hE dx _ (fun a o z => by
    have z1 : H2 a = some o := (e.rH.tr (r.tr r2)).1 a o (fun _ _ w => nomatch w) z
    rw [upd_ne (ne_of_none z1 hdx)]
    exact z1) upd_same⟩
def RcAl (ds : List PyData) (nm : Str) : Prop := ∃ x, ds = [x, .str nm] ∧ nm.length ≤ 1000 ∧ SmallT x ∧ balB x = false
theorem RcAl_len {ds nm} (h : RcAl ds nm) : ds.length = 2 := by obtain ⟨x, rfl, _⟩ := h; rfl
/-! ### the law's rows -/
end Lm


/-! assignments that are laid out by cores -/
namespace Lm
open PySem PySem.Spec PyProof.Rows L2
variable {v b : Int} {as bs cs ms : List Int} {z : List (Int × Int)} {p q : List (Option Int)}
def preR : List (Int × Int) → Nat → List (Option Int)
  | [], _ => []
  | (s, c) :: r, i => List.replicate (min s c).toNat (some (i : Int)) ++ (List.replicate (c - s).toNat none ++ preR r (i + 1))
def overR : List (Int × Int) → Nat → List Int
  | [], _ => []
  | (s, c) :: r, i => List.replicate (s - c).toNat (i : Int) ++ overR r (i + 1)
def fullR (z : List (Int × Int)) (m : Nat) : List (Option Int) := preR z 0 ++ List.replicate (m - (preR z 0).length) none
theorem pre_len : ∀ {z : List (Int × Int)} {i : Nat}, (∀ p ∈ z, 0 ≤ p.1 ∧ 0 ≤ p.2) → ((preR z i).length : Int) = (z.map (·.2)).sum
  | [], _, _ => rfl
  | (s, c) :: r, i, h => by
    have h0 := h (s, c) (by simp)
    have ih := pre_len (z := r) (i := i + 1) fun p hp => h p (List.mem_cons_of_mem _ hp)
    unfold preR
    simp only [List.length_append, List.length_replicate, List.map_cons, List.sum_cons, Int.natCast_add, ih]
    simp only at h0
    omega
theorem pre_none : ∀ {z : List (Int × Int)} {i : Nat}, ((preR z i).count none : Int) = (z.map fun p => max (p.2 - p.1) 0).sum
  | [], _ => rfl
  | (s, c) :: r, i => by
    have ih := pre_none (z := r) (i := i + 1)
    unfold preR
    simp only [List.count_append, List.count_replicate, List.map_cons, List.sum_cons, Int.natCast_add, ih]
    have e : ((some (i : Int)) == none) = false := rfl
    simp only [e]
    simp
    try omega
theorem over_len : ∀ {z : List (Int × Int)} {i : Nat}, ((overR z i).length : Int) = (z.map fun p => max (p.1 - p.2) 0).sum
  | [], _ => rfl
  | (s, c) :: r, i => by
    have ih := over_len (z := r) (i := i + 1)
    unfold overR
    simp only [List.length_append, List.length_replicate, List.map_cons, List.sum_cons, Int.natCast_add, ih]
    omega
theorem zip_nn (h1 : ∀ n ∈ as, 0 ≤ n) (h2 : ∀ n ∈ cs, 0 ≤ n) : ∀ p ∈ as.zip cs, 0 ≤ p.1 ∧ 0 ≤ p.2 := fun p hp => ⟨h1 _ (List.of_mem_zip hp).1, h2 _ (List.of_mem_zip hp).2⟩
theorem zip_2 : ∀ {as cs : List Int}, as.length = cs.length → (as.zip cs).map (·.2) = cs
  | [], [], _ => rfl
  | a :: as, c :: cs, h => by rw [List.zip_cons_cons, List.map_cons, zip_2 (by simpa using h)]
  | [], _ :: _, h => by simp at h
  | _ :: _, [], h => by simp at h
theorem zip_mm : ∀ {as cs : List Int}, as.length = cs.length → ((as.zip cs).map fun p => max (p.1 - p.2) 0).sum - ((as.zip cs).map fun p => max (p.2 - p.1) 0).sum = as.sum - cs.sum
  | [], [], _ => rfl
  | a :: as, c :: cs, h => by
    have := zip_mm (as := as) (cs := cs) (by simpa using h)
    simp only [List.zip_cons_cons, List.map_cons, List.sum_cons]
    omega
  | [], _ :: _, h => by simp at h
  | _ :: _, [], h => by simp at h
/-- cores for an allocation -/
structure Crs (as cs : List Int) (v b : Int) : Prop where
  a : Alc as v b
  len : cs.length = as.length
  nn : ∀ n ∈ cs, 0 ≤ n
  le : cs.sum ≤ b
theorem Crs.full (h : Crs as cs v b) : (fullR (as.zip cs) as.sum.toNat).length = b.toNat ∧ ((preR (as.zip cs) 0).length : Int) = cs.sum := by
  have l := pre_len (i := 0) (zip_nn h.a.nn h.nn)
  rw [zip_2 h.len.symm] at l
  have := h.le
  have := h.a.sum
  unfold fullR
  rw [List.length_append, List.length_replicate]
  exact ⟨by omega, l⟩
theorem Crs.bal (h : Crs as cs v b) : (fullR (as.zip cs) as.sum.toNat).count none = (overR (as.zip cs) 0).length := by
  have l := h.full.2
  have n := pre_none (z := as.zip cs) (i := 0)
  have o := over_len (z := as.zip cs) (i := 0)
  have m := zip_mm h.len.symm
  have := h.le
  have := h.a.sum
  unfold fullR
  rw [List.count_append, List.count_replicate_self]
  omega
/-! ### cores that give up what the medians are too many -/
end Lm


/-! xs[i] = ys.pop(k); [rows[x].pop(0) for x in ..] -/
namespace Lm
open PySem PySem.Spec PyProof.Rows L2
section
variable {c : Ct} {H H' H0 H1 H2 H3 : Hp} {O : List Addr} {σ : L2.St} {Γ Γ' Γ1 : List (Option Rs)}
variable {te ta tb tx : TE} {tr : TA} {u : TS} {k ka kb : Kd} {d x y z : PyData} {i j : Int} {ds es : List PyData} {P : Out → Prop}
theorem Env.bareR (e : Env c H0 O H σ Γ) (hb : bareB Γ = true) : Reps c O H σ Γ [] := let ⟨_, hr, _⟩ := e.rep; hr.bareM (D := 0) e.j Rr.rf hb
theorem Env.take (e : Env c H0 O H σ Γ) (hb : bareB Γ = true) {n : Nat} {a : Addr} {ns : List Int} (ha : a ∈ O) (h : H a = some (.lst (ns.map V.int))) : Env c H0 O H (σ.set n (some (.ref a))) (Γ.set n (some (.o (.list (ns.map .int))))) := by
  have hr := e.bareR hb
  refine ⟨e.r0, e.j, e.fr, e.dm, ?_⟩
  by_cases hi : n < Γ.length
  · obtain ⟨x, f, pre, post, h1, h2, h3, h4⟩ := hr.nth (s := Γ[n]) (List.getElem?_eq_getElem hi)
    have h3' := h3.symm
    rw [List.append_eq_nil_iff, List.append_eq_nil_iff] at h3'
    obtain ⟨rfl, rfl, rfl⟩ := h3'
    exact ⟨[a], h4 O H _ _ [a] (fun _ _ _ _ z => z) ⟨.ref a, rfl, .lst h (FoAll.leaves (flatAll_ints _) (BoAll.ofInts _))⟩, by simp, fun b hb => by cases List.mem_singleton.mp hb; exact ha⟩
  · have hs : ¬ n < σ.length := by rw [hr.len]; exact hi
    rw [List.set_eq_of_length_le (by omega), List.set_eq_of_length_le (by omega)]
    exact ⟨[], hr, List.nodup_nil, fun a h => nomatch h⟩
/-! ### rows from which the first ones are taken -/
end
end Lm


/-! returns (k30, k31) -/
namespace Lm
open PySem PySem.Spec PyProof.Rows L2
variable {v b : Int} {as bs cs f F G : List Int}
/-! ### any value as an assignment of an allocation, as a table -/
def asoB (x : PyData) (as : List Int) : Bool := isAsgB x as.length as.sum && decide (countsI (intsD x) as.length = as)
end Lm


/-! who raises what among the triples (k34) -/
namespace Lm
open PySem PySem.Spec PyProof.Rows L2
def RcLk (ds : List PyData) (nm : Str) : Prop := ∃ (x : PyData) (as : List Int) (v b : Int), ds = [x, tupD as, .str nm] ∧ nm.length ≤ 1000 ∧ Alc as v b ∧ SmallT x ∧ isAlloc x v b = false
theorem RcLk_len {ds nm} (h : RcLk ds nm) : ds.length = 3 := by obtain ⟨x, as, v, b, rfl, _⟩ := h; rfl
def RcM (n1 n2 n3 : Str) (ds : List PyData) (nm : Str) : Prop := ∃ a x y, ds = [a, x, y] ∧ ((SmallT a ∧ balB a = false ∧ nm = n1) ∨ ∃ (as : List Int) (v b : Int), a = tupD as ∧ Alc as v b ∧ 1 ≤ v ∧ v ≤ 5 ∧ b ≤ 20 ∧ ((SmallT x ∧ isAlloc x v b = false ∧ nm = n2) ∨ ∃ cs : List Int, x = tupD cs ∧ Alc cs v b ∧ SmallT y ∧ isAlloc y v b = false ∧ nm = n3))
abbrev RcM1 := RcM "first" "second" "third"
abbrev RcLB := RcM "middle" "first" "second"
theorem RcM_len {n1 n2 n3 ds nm} (h : RcM n1 n2 n3 ds nm) : ds.length = 3 := by obtain ⟨x, y, z, rfl, _⟩ := h; rfl
theorem RcM1_len {ds nm} (h : RcM1 ds nm) : ds.length = 3 := RcM_len h
def RcR4 (ds : List PyData) (nm : Str) : Prop := ∃ a x y z, ds = [a, x, y, z] ∧ (RcM1 [a, x, y] nm ∨ ∃ (as bs cs : List Int) (v b : Int), a = tupD as ∧ x = tupD bs ∧ y = tupD cs ∧ Alc as v b ∧ Alc bs v b ∧ Alc cs v b ∧ 1 ≤ v ∧ v ≤ 5 ∧ b ≤ 20 ∧ SmallT z ∧ asoB z as = false ∧ nm = "assignment")
def R34 (w : Nat) (ds : List PyData) (nm : Str) : Prop := ∃ a x y z, ds = [a, x, y, z] ∧ if w = 8 then RcLB [a, x, y] nm else if w = 7 then RcR4 [a, x, y, z] nm else RcM1 [a, x, y] nm
section
variable {K : PySem.W.Frag} {C : Addr} {H0 : Hp} {Γ : List (Option Rs)} {σ : L2.St} {te : TE} {tt : TT} {t u : TS} {nm : Str}
end
/-! what is no allocation, no assignment of it -/
end Lm


/-! isinstance of a caught error that keeps a text; a handler for its base class -/
namespace Lm
open PySem PySem.Spec PyProof.Rows L2
/-- isinstance(e, c): a the caught error, cls its class, d its dict -/
def rIsX (K : PySem.W.Frag) (D a : Addr) (cls : Value) (d : Option Addr) : List V → Hp → VK → Prop := fun xs H Q => ∃ (c : V) (cv : Value) (b : Bool) (dd : Addr) (fs : List (Str × V)), xs = [.ref a, c] ∧ cls = .ref D ∧ d = some dd ∧ H dd = some (.xd fs) ∧ (∀ u, RelV c u → u = cv) ∧ PySem.W.kitOne K (.ref D) cv = some b ∧ Q (.bl b) H
theorem call_isX {X : Cx} {a D : Addr} {oe : Obj} {cls : Value} {d : Option Addr} {pn : List (Addr × Obj)} (C : ExcC X.K D) (hz : Zc cls d oe) (hf : ∃ vs, oe.data = .fields vs) : CallR (X.suite a ((a, oe) :: pn)) (.builtin "isinstance") (rIsX X.K D a cls d) := by
  intro pins s σ H xs us Q I r h
  obtain ⟨c, cv, b, dd, fs, rfl, rfl, rfl, ea, hcv, e, q⟩ := h
  cases r with
  | cons rx rr =>
    cases rr with
    | cons rt rr =>
      cases rr
      cases rx
      have ec := hcv _ rt
      subst ec
      obtain ⟨hget, _⟩ := I.pin (a, oe) (List.mem_append.mpr (.inl List.mem_cons_self))
      obtain ⟨vs, hv⟩ := hf
      have hx : ObjOk X.prog X.w H s.heap dd (.xd fs) := I.hok dd _ ea
      obtain ⟨mA, hns, hr⟩ := hx
      obtain ⟨od, ho, hl⟩ := lookIn_ns hns
      have J : PySem.W.InstAt s.heap a oe D (some od) := ⟨hget, hz.1, by unfold PySem.W.notCls; rw [hv] <;> rfl, by rw [hz.2]; exact ho⟩
      have cl : (PySem.W.clsIn X.K D).isSome = true := by obtain ⟨cd, hc, _⟩ := PySem.W.any_some C.hd; rw [hc]; rfl
      exact PySem.W.kia_one (PySem.W.kitx_exc (od := some od) cl C.hg C.hk C.hs C.ha C.hn C.ht C.hm) I.kIn J e (fun z => nomatch z) fun tk => ⟨.bl b, H, I.kept (t' := tk) fun _ _ z => z, rfl, q⟩
/-- what a handler for the base class asks of the error's class C and of the base class L -/
structure ExcH (K : PySem.W.Frag) (mg : Str → Option Value) (C L : Addr) : Prop where
  isC : ExcC K C
  hL : mg "LeastError" = some (.ref L)
  exL : PySem.W.exmOne K (.ref C) (.ref L) = some true
  kV : PySem.W.kitOne K (.ref C) (.type "ValueError") = some true
theorem kit_val {K : PySem.W.Frag} {C : Addr} (h : PySem.W.subIn K (.ref C) (.type "ValueError") = some true) : PySem.W.kitOne K (.ref C) (.type "ValueError") = some true := by
  unfold PySem.W.kitOne
  rw [if_neg (by simp)]
  unfold PySem.W.kitCls
  show (if PySem.W.kitMeta "ValueError" = true then _ else _) = _
  rw [if_pos (by decide +kernel)]
  exact h
/-! a call of what answers or raises, in a body -/
section
variable {K : PySem.W.Frag} {C : Addr} {R : List PyData → Str → Prop} {pre : Pre} {E : XK} {W : WX} {te : TE} {ta : TA} {Γ : List (Option Rs)} {ds es : List PyData} {d : PyData} {P : Out → Prop} {c : Ct}
end
/-! who raises what among the rules (k61) -/
end Lm


/-! lists of one's own with drawn items; the rule of k61 and what is none -/
namespace Lm
open PySem PySem.Spec PyProof.Rows L2
section
variable {c : Ct} {Γ : List (Option Rs)} {te : TE} {tr : TA} {u : TS} {n : Nat} {ds : List PyData} {P : Out → Prop} {Pd : List PyData → Prop} {Pe : PyData → Prop}
/-- te makes a new list whose items stay: one of several -/
def EvWN (c : Ct) (te : TE) (Γ : List (Option Rs)) (Pd : List PyData → Prop) : Prop :=
  ∀ H0 O H σ, Env c H0 O H σ Γ → ∀ Q : VK, (∀ p xs ds H2, Pd ds → H p = none → Rr c H H2 → H2 p = some (.lst xs) → Rr c (mns H O) (mns H2 (p :: O)) → BoAll c (mns H2 (p :: O)) xs ds → Q (.ref p) H2) → te σ H Q
theorem s_appWN (hx : Γ[n]? = some (some (.w ds))) (h : EvN c te Γ .v Pe) (hl : ds.length < 1000000) (p : ∀ d, Pe d → P (.nx (Γ.set n (some (.w (ds ++ [d])))))) : Sd c (tDrop (tBM c.K "list" rAppend (tVar n) (tCons te tNil))) Γ P := fun H0 O H σ D e s => by
  obtain ⟨a, xs, ha, hH, hO, b, _⟩ := e.wd hx
  refine ⟨.ref a, ha, .inl ⟨rfl, xs, .inl (.inl hH)⟩, h H0 O H σ e _ fun v d H2 pd r rs => ?_⟩
  have e2 := e.on r
  obtain ⟨a', xs', ha', hH', hO', b', ed⟩ := e2.wd hx
  have : a' = a := by rw [ha] at ha'; cases ha'; rfl
  subst this
  have bv : Bo c (mns H2 O) v d := rs
  have hn : n < Γ.length := (List.getElem?_eq_some_iff.mp hx).1
  obtain ⟨p2, hp2, hq2, hq3, ew⟩ := ed.writeD (w := .lst (xs' ++ [v])) (List.getElem?_set_self hn) trivial
  have : p2 = a' := by rw [ha] at hp2; cases hp2; rfl
  subst this
  have em : mns (upd H2 p2 (.lst (xs' ++ [v]))) O = mns H2 O := by
    funext z
    by_cases hz : z ∈ O
    · rw [mns_in hz, mns_in hz]
    · rw [mns_out hz, mns_out hz, upd_ne (fun w => hz (by rw [w]; exact hq3))]
  refine ⟨p2, xs', v, rfl, rfl, hH', by rw [b'.len, sizeLine_eq]; omega, s _ (p d pd) O _ σ ?_⟩
  rw [List.set_set] at ew
  have := ew.dw (ds := ds ++ [d]) (List.getElem?_set_self hn) (by rw [em]; exact b'.app (.cons bv .nil))
  rwa [List.set_set] at this
end
/-! the rule of two pairs -/
def zr (n : Nat) : List Int := List.replicate n 0
/-! rows of arguments -/
end Lm


/-! itertools.combinations(list, k) -/
namespace CmbK
open PySem PySem.Spec PyProof.Rows L2
end CmbK


/-! cliques: the mathematics (k63) -/
namespace Lm
open PySem PySem.Spec PyProof.Rows L2
def enE (x y : Nat) : List Int := [((x + 1 : Nat) : Int), (y : Int)]
theorem us_en {r : List Int} {x y : Nat} : usB r (enE x y) = decide ((y : Int) < r.getD x 0) := by
  unfold usB enE
  simp
theorem en_inj {x y x' y' : Nat} : enE x y = enE x' y' ↔ x = x' ∧ y = y' := by
  unfold enE
  simp
  omega
theorem tog_iff {F : List (List Int)} {x y x' y' : Nat} : togB F (enE x y) (enE x' y') = true ↔ ¬ (x = x' ∧ y = y') ∧ ∃ r ∈ F, (y : Int) < r.getD x 0 ∧ (y' : Int) < r.getD x' 0 := by
  unfold togB
  rw [Bool.and_eq_true, Bool.not_eq_true', decide_eq_false_iff_not, en_inj, List.any_eq_true]
  refine and_congr Iff.rfl ⟨fun ⟨b, hb, w⟩ => ?_, fun ⟨r, hr, h1, h2⟩ => ⟨true, List.mem_map.mpr ⟨r, hr, ?_⟩, rfl⟩⟩
  · obtain ⟨r, hr, e⟩ := List.mem_map.mp hb
    rw [us_en, us_en] at e
    have : b = true := w
    rw [this, Bool.and_eq_true, decide_eq_true_eq, decide_eq_true_eq] at e
    exact ⟨r, hr, e⟩
  · rw [us_en, us_en, decide_eq_true h1, decide_eq_true h2]
    rfl
theorem tog_comm {F : List (List Int)} {a b : List Int} : togB F a b = togB F b a := by
  unfold togB
  congr 1
  · congr 1
    rw [decide_eq_decide]
    exact eq_comm
  · congr 2
    funext r
    exact Bool.and_comm _ _
end Lm


/-! min of a list, max of a tuple, of any data that can be compared -/
namespace Lm
open PySem PySem.Spec PyProof.Rows L2
def rMinDL (K : PySem.W.Frag) : List V → Hp → VK → Prop := fun vs H Q => ∃ (a : Addr) (xs : List V) (d : PyData) (ds : List PyData), vs = [V.ref a] ∧ SqL K H a xs ∧ DpAll K H xs (d :: ds) ∧ PySem.W.AlikeAll (d :: ds) ∧ PyData.depthAll (d :: ds) ≤ 60 ∧
  ∀ q ∈ xs.zip (d :: ds), q.2 = PySem.W.minD d ds → Q q.1 H
def rMaxTU (K : PySem.W.Frag) : List V → Hp → VK → Prop := fun vs H Q => ∃ (a : Addr) (xs : List V) (d : PyData) (ds : List PyData), vs = [V.ref a] ∧ SqT K H a xs ∧ DpAll K H xs (d :: ds) ∧ PySem.W.AlikeAll (d :: ds) ∧ PyData.depthAll (d :: ds) ≤ 60 ∧
  ∀ q ∈ xs.zip (d :: ds), q.2 = PySem.W.maxD d ds → Q q.1 H
theorem dp_item {X : Cx} {pins : List (Addr × Obj)} {σ : L2.St} {H : Hp} {s : Shared} (I : Inv X pins σ H s) {xs : List V} {us : List Value} {ds : List PyData} {i : Nat} {u : Value} {m : PyData} {h' : Heap} {bs : List Addr} (hd : DpAll X.K H xs ds) (rv : Vals xs us) (hu : us[i]? = some u) (rm : Reads h' u m bs) (k : ∀ b o, s.heap.get? b = some o → h'.get? b = some o) : ∃ q ∈ xs.zip ds, q.2 = m ∧ RelV q.1 u := by
  have lx := dpAll_len hd
  have lu := rv.length
  have iu := (List.getElem?_eq_some_iff.mp hu).1
  obtain ⟨x, hx⟩ : ∃ x, xs[i]? = some x := ⟨_, List.getElem?_eq_getElem (by omega)⟩
  obtain ⟨u1, hu1, rx⟩ := rv.get hx
  rw [hu] at hu1
  cases Option.some.inj hu1
  obtain ⟨d, hdi⟩ : ∃ d, ds[i]? = some d := ⟨_, List.getElem?_eq_getElem (by omega)⟩
  obtain ⟨as, ra⟩ := Dp.readsAll I ds xs us hd rv
  obtain ⟨bs1, r1, _, _, _⟩ := PySem.W.readsAll_at ra i u hu
  rw [List.getD_eq_getElem?_getD, hdi, Option.getD_some] at r1
  have e := (Reads.unique (PySem.W.reads_keeps k r1) _ _ rm).1
  refine ⟨(x, d), ?_, e, rx⟩
  exact List.mem_of_getElem? (i := i) (List.getElem?_zip_eq_some (z := (x, d)).mpr ⟨hx, hdi⟩)
section
variable {X : Cx}
theorem cr_minDL (hc : X.calm = true) (hu : X.A.units + 64 < cLine) : CallR X (.builtin "min") (rMinDL X.K) := by
  intro pins s σ H vs us Q I r h
  obtain ⟨a, xs, d, ds, rfl, hs, hd, al, dp, q⟩ := h
  obtain ⟨its, rv, hl, hz⟩ := I.list hs
  rw [Vals.ref1 r]
  obtain ⟨as, ra⟩ := Dp.readsAll I _ _ its hd rv
  refine PySem.W.min_list_data (I.ok.hd hc) hl.isList (by simpa using ra) al (by omega) fun i v h' tk bs hv rm k => ?_
  obtain ⟨z, hz, e, rz⟩ := dp_item I hd rv (by simpa using hv) rm k
  exact ⟨z.1, H, I.kept k, rz, q z hz e⟩
theorem cr_maxTU (hc : X.calm = true) (hu : X.A.units + 64 < cLine) : CallR X (.builtin "max") (rMaxTU X.K) := by
  intro pins s σ H vs us Q I r h
  obtain ⟨a, xs, d, ds, rfl, hs, hd, al, dp, q⟩ := h
  obtain ⟨its, rv, hl, hz⟩ := I.tuple hs
  rw [Vals.ref1 r]
  obtain ⟨as, ra⟩ := Dp.readsAll I _ _ its hd rv
  refine PySem.W.max_tuple_data (I.ok.hd hc) (show s.heap.IsTuple a its.toArray from hl) (by simpa using ra) al (by omega) fun i v h' tk bs hv rm k => ?_
  obtain ⟨z, hz, e, rz⟩ := dp_item I hd rv (by simpa using hv) rm k
  exact ⟨z.1, H, I.kept k, rz, q z hz e⟩
theorem k_maxTU {K : PySem.W.Frag} (hK : X.K = K) (hc : X.calm = true) (hu : X.A.units + 64 < cLine) : CallR X (.builtin "max") (rMaxTU K) := hK ▸ cr_maxTU hc hu
end
section
variable {c : Ct} {Γ : List (Option Rs)} {te : TE} {k : Kd}
theorem e_maxTU {d m : PyData} {ds : List PyData} (h : Ev c te Γ k (.tuple (d :: ds))) (fl : flatAll (d :: ds) = true) (al : PySem.W.AlikeAll (d :: ds)) (dp : PyData.depthAll (d :: ds) ≤ 60) (em : PySem.W.maxD d ds = m) : Ev c (tCB (rMaxTU c.K) (tCons te tNil)) Γ .v m := fun H0 O H σ e Q q =>
  h H0 O H σ e _ fun v H1 r1 s1 => by
    obtain ⟨p, xs, rfl, sl, ab⟩ := (Res.bo e s1).tup'
    refine ⟨p, xs, d, ds, rfl, sl.sq, ab.dp, al, dp, fun z hz ez => ?_⟩
    have bz := bo_mem ab z hz
    have fz : flatD z.2 = true := flatAll_one fl (List.of_mem_zip hz).2
    rw [ez, em] at bz fz
    exact q _ H1 r1 (Bo.flatM e r1 fz bz)
/-- max of a tuple of ints -/
theorem e_maxTI {x : Int} {ns : List Int} (h : Ev c te Γ k (.tuple ((x :: ns).map .int))) : Ev c (tCB (rMaxTU c.K) (tCons te tNil)) Γ .v (.int (ns.foldl max x)) := by
  have dz : ∀ ms : List Int, PyData.depthAll (ms.map PyData.int) ≤ 1 := fun ms => by
    induction ms with
    | nil => exact Nat.zero_le _
    | cons m ms ih =>
      show max (PyData.depth (.int m)) _ ≤ 1
      exact Nat.max_le.mpr ⟨by simp [PyData.depth], ih⟩
  refine e_maxTU h (flatAll_ints (x :: ns)) ⟨fun a ha b hb => ?_, fun a ha => ?_⟩ (Nat.le_trans (dz (x :: ns)) (by decide)) (PySem.W.maxD_ints x ns)
  · obtain ⟨i, _, rfl⟩ := List.mem_map.mp (show a ∈ (x :: ns).map PyData.int from ha)
    obtain ⟨j, _, rfl⟩ := List.mem_map.mp (show b ∈ (x :: ns).map PyData.int from hb)
    rfl
  · obtain ⟨i, _, rfl⟩ := List.mem_map.mp (show a ∈ (x :: ns).map PyData.int from ha)
    exact PyData.noConfusion
end
end Lm


/-! calm histories, all of them, in order (k48) -/
namespace Lm
open PySem PySem.Spec PyProof.Rows L2
variable {v b : Int} {s : List Int} {A : List (List Int)} {k : Nat} {t : List (List Int)} {r : List Int}
/-- tables in order -/
def TLe : List (List Int) → List (List Int) → Prop
  | [], [] => True
  | a :: h, b :: t => (a.length = b.length ∧ lexLe a b ∧ a ≠ b) ∨ (a = b ∧ TLe h t)
  | _, _ => False
theorem TLe.rf : ∀ {h : List (List Int)}, TLe h h
  | [] => trivial
  | _ :: _ => .inr ⟨rfl, TLe.rf⟩
theorem TLe.app {x y : List Int} : ∀ {h t : List (List Int)}, TLe h t → h.length = t.length → (h = t → TLe [x] [y]) → TLe (h ++ [x]) (t ++ [y])
  | [], [], _, _, e => e rfl
  | a :: h, b :: t, w, l, e => by
    rcases w with w | ⟨rfl, w⟩
    · exact .inl w
    · exact .inr ⟨rfl, TLe.app w (by simpa using l) fun q => e (by rw [q])⟩
  | [], _ :: _, w, _, _ => w.elim
  | _ :: _, [], w, _, _ => w.elim
end Lm


/-! the first colouring: x = xs.pop() + 1, the search, its end (k65, k67) -/
namespace Lm
open PySem PySem.Spec PyProof.Rows L2
section
variable {c : Ct} {Γ : List (Option Rs)} {P : Out → Prop} {u : TS}
end
/-! ### colourings, in order -/
/-- what coexists has different numbers -/
def okC (tg : Nat → Nat → Bool) (c : List Nat) : Bool := (List.range c.length).all fun k => (List.range k).all fun j => !(decide (c.getD j 0 = c.getD k 0) && tg k j)
/-- c, as far as it goes, is not behind d -/
def PLe : List Nat → List Nat → Prop
  | [], _ => True
  | _ :: _, [] => False
  | a :: c, x :: d => a < x ∨ (a = x ∧ PLe c d)
/-- c is before d, at some place that both have -/
def PLt : List Nat → List Nat → Prop
  | a :: c, x :: d => a < x ∨ (a = x ∧ PLt c d)
  | _, _ => False
theorem ple_split : ∀ {c d : List Nat} {p : Nat}, PLe (c ++ [p]) d → (∃ x r, d = c ++ x :: r ∧ p ≤ x) ∨ PLt c d
  | [], [], p, h => h.elim
  | [], x :: d, p, h => by
    rcases h with h | ⟨h, _⟩
    · exact .inl ⟨x, d, rfl, by omega⟩
    · exact .inl ⟨x, d, rfl, by omega⟩
  | a :: c, [], p, h => h.elim
  | a :: c, x :: d, p, h => by
    rcases h with h | ⟨rfl, h⟩
    · exact .inr (.inl h)
    · rcases ple_split h with ⟨y, r, rfl, w⟩ | w
      · exact .inl ⟨y, r, rfl, w⟩
      · exact .inr (.inr ⟨rfl, w⟩)
theorem plt_snoc : ∀ {c d : List Nat} {a : Nat}, PLt (c ++ [a]) d → PLe (c ++ [a + 1]) d
  | [], [], _, h => h.elim
  | [], x :: d, a, h => by
    rcases h with h | ⟨_, h⟩
    · by_cases e : a + 1 = x
      · exact .inr ⟨e, trivial⟩
      · exact .inl (by omega)
    · cases d <;> exact h.elim
  | b :: c, [], _, h => h.elim
  | b :: c, x :: d, a, h => by
    rcases h with h | ⟨e, h⟩
    · exact .inl h
    · exact .inr ⟨e, plt_snoc h⟩
theorem ple_pre : ∀ {c d r : List Nat}, d = c ++ r → PLe c d
  | [], _, _, _ => trivial
  | a :: c, _, r, rfl => .inr ⟨rfl, ple_pre rfl⟩
theorem plt_ple : ∀ {c d : List Nat}, PLt c d → PLe c d
  | [], _, h => h.elim
  | a :: c, [], h => h.elim
  | a :: c, x :: d, h => by
    rcases h with h | ⟨e, h⟩
    · exact .inl h
    · exact .inr ⟨e, plt_ple h⟩
variable {n m : Nat} {tg : Nat → Nat → Bool} {c d : List Nat}
theorem okC_iff : okC tg c = true ↔ ∀ k, k < c.length → ∀ j, j < k → c.getD j 0 = c.getD k 0 → tg k j = false := by
  unfold okC
  rw [List.all_eq_true]
  constructor
  · intro h k hk j hj e
    have := List.all_eq_true.mp (h k (List.mem_range.mpr hk)) j (List.mem_range.mpr hj)
    rw [decide_eq_true e, Bool.true_and, Bool.not_eq_true'] at this
    exact this
  · intro h k hk
    refine List.all_eq_true.mpr fun j hj => ?_
    by_cases e : c.getD j 0 = c.getD k 0
    · rw [h k (List.mem_range.mp hk) j (List.mem_range.mp hj) e, Bool.and_false]; rfl
    · rw [decide_eq_false e, Bool.false_and]; rfl
theorem gd_app {c r : List Nat} {j : Nat} (h : j < c.length) : (c ++ r).getD j 0 = c.getD j 0 := by
  rw [List.getD_eq_getElem?_getD, List.getElem?_append_left h, ← List.getD_eq_getElem?_getD]
theorem okC_pre {r : List Nat} (h : okC tg (c ++ r) = true) : okC tg c = true := okC_iff.mpr fun k hk j hj e => okC_iff.mp h k (by simp; omega) j hj (by rw [gd_app (by omega), gd_app hk]; exact e)
/-! ### the search, place by place -/
/-- where the search stands: c so far, numbers from p on are tried next -/
structure SrC (n m : Nat) (tg : Nat → Nat → Bool) (c : List Nat) (p : Nat) : Prop where
  len : c.length ≤ n
  rng : ∀ x ∈ c, x < m
  ok : okC tg c = true
  pm : p ≤ m
  le : ∀ d, d.length = n → (∀ x ∈ d, x < m) → okC tg d = true → PLe c d ∧ (c.length < n → PLe (c ++ [p]) d)
/-- the first number from p on that fits -/
def freC (tg : Nat → Nat → Bool) (c : List Nat) (p m : Nat) : Option Nat := ((List.range (m - p)).map (· + p)).find? fun b => okC tg (c ++ [b])
theorem freC_none {p : Nat} (h : freC tg c p m = none) {b : Nat} (h1 : p ≤ b) (h2 : b < m) : okC tg (c ++ [b]) = false := by
  unfold freC at h
  have := List.find?_eq_none.mp h b (List.mem_map.mpr ⟨b - p, List.mem_range.mpr (by omega), by omega⟩)
  exact Bool.eq_false_iff.mpr this
theorem SrC.back {a : Nat} {p : Nat} (h : SrC n m tg (c ++ [a]) p) (hl : (c ++ [a]).length < n) (f : freC tg (c ++ [a]) p m = none) : SrC n m tg c (a + 1) := by
  have am := h.rng a (by simp)
  have cl : c.length < n := by simp at hl; omega
  refine ⟨by omega, fun x hx => h.rng x (by simp [hx]), okC_pre h.ok, by omega, fun d h1 h2 h3 => ?_⟩
  have key : PLe (c ++ [a + 1]) d := by
    rcases ple_split ((h.le d h1 h2 h3).2 hl) with ⟨x, r, rfl, hx⟩ | w
    · have xm := h2 x (by simp)
      have := freC_none f hx xm
      rw [okC_pre (c := (c ++ [a]) ++ [x]) (r := r) (by simpa using h3)] at this
      cases this
    · exact plt_snoc w
  refine ⟨?_, fun _ => key⟩
  rcases ple_split key with ⟨x, r, e, hx⟩ | w
  · exact ple_pre e
  · exact plt_ple w
/-- how far the search has come, as a number -/
def valC (M : Nat) : Nat → List Nat → Nat
  | 0, _ => 0
  | _ + 1, [] => 0
  | k + 1, x :: d => x * M ^ k + valC M k d
theorem valC_lt {M : Nat} : ∀ {k : Nat} {d : List Nat}, (∀ x ∈ d, x < M) → 0 < M → valC M k d < M ^ k
  | 0, _, _, _ => by simp [valC]
  | k + 1, [], _, h => by simp [valC]; exact Nat.pow_pos h
  | k + 1, x :: d, h, hM => by
    have ih := valC_lt (k := k) (d := d) (fun y hy => h y (by simp [hy])) hM
    have hx := h x (by simp)
    unfold valC
    rw [Nat.pow_succ]
    have : (x + 1) * M ^ k ≤ M * M ^ k := Nat.mul_le_mul_right _ hx
    rw [Nat.add_mul, Nat.one_mul] at this
    rw [Nat.mul_comm (M ^ k) M]
    omega
theorem SrC.small {p : Nat} (h : SrC n m tg c p) : valC (m + 1) (n + 1) (c ++ [p]) * (n + 2) + c.length < (m + 1) ^ (n + 1) * (n + 2) := by
  have hl := h.len
  have := valC_lt (M := m + 1) (k := n + 1) (d := c ++ [p]) (fun x hx => by
    rcases List.mem_append.mp hx with w | w
    · have := h.rng x w; omega
    · rw [List.mem_singleton.mp w]; have := h.pm; omega) (by omega)
  have : (valC (m + 1) (n + 1) (c ++ [p]) + 1) * (n + 2) ≤ (m + 1) ^ (n + 1) * (n + 2) := Nat.mul_le_mul_right _ this
  rw [Nat.add_mul, Nat.one_mul] at this
  omega
end Lm


/-! raise C("..") of any class that keeps a text; promises of fewest (k65) -/
namespace Lm
open PySem PySem.Spec PyProof.Rows L2
section
variable {c : Ct} {Γ : List (Option Rs)} {te : TE} {P : Out → Prop} {ds : List PyData} {d : PyData} {n m : Nat}
end
section
variable {c : Ct} {H0 : Hp} {Γ : List (Option Rs)} {K : PySem.W.Frag}
end
theorem EvI.to {c : Ct} {wi : TI} {Γ : List (Option Rs)} {fz : Bool} {a b : List Im} (h : EvI c wi Γ fz a) (e : a = b) : EvI c wi Γ fz b := e ▸ h
end Lm


/-! a, b = xs.pop(); enumerate of a list or a tuple; promises of fewest and of case trees (k65) -/
namespace Lm
open PySem PySem.Spec PyProof.Rows L2
theorem k_notT {X : Cx} {K : PySem.W.Frag} (hK : X.K = K) {a : Expr} {ta : TE} {pos : Pos} (ha : PE X a ta) : PE X (.UnaryOp .Not a pos) (tNotT K ta) := hK ▸ pe_notT ha
section
variable {c : Ct} {Γ : List (Option Rs)} {P : Out → Prop} {u : TS} {g : TG}
theorem e_notL {te : TE} {k : Kd} {ds : List PyData} (h : Ev c te Γ k (.list ds)) : Ev c (tNotT c.K te) Γ .v (.bool ds.isEmpty) := fun H0 O H σ e Q q =>
  h H0 O H σ e _ fun v H1 r s => by
    obtain ⟨p, xs, rfl, _, sl, al⟩ := (Res.bo e s).lst'
    have hl := al.len
    refine ⟨!xs.isEmpty, .inl ⟨xs, sl, rfl⟩, ?_⟩
    have : (!!xs.isEmpty) = ds.isEmpty := by
      cases xs <;> cases ds <;> simp at hl ⊢
    rw [this]
    exact q _ H1 r (.bl _)
end
/-! ### the answer of fewest -/
/-! ### case trees: a clique at the root -/
end Lm


/-! things grouped in a dict of lists (k72, k74) -/
namespace Lm
open PySem PySem.Spec PyProof.Rows L2
/-! ### groups -/
abbrev GE := (Int × Int) × List Int
abbrev GA := GE × Addr
/-- the lists of the groups, each one's own -/
structure Grp (F : Hp) (O : List Addr) (H : Hp) (G : List GA) : Prop where
  nd : (G.map (·.2)).Nodup
  fr : ∀ g ∈ G, F g.2 = none ∧ g.2 ∉ O
  lst : ∀ g ∈ G, H g.2 = some (.lst (g.1.2.map V.int))
theorem Grp.on {F H H' : Hp} {O : List Addr} {G : List GA} (h : Grp F O H G) (sm : ∀ g ∈ G, H' g.2 = H g.2) : Grp F O H' G := ⟨h.nd, h.fr, fun g hg => by rw [sm g hg]; exact h.lst g hg⟩
/-! ### one turn: moving.setdefault((old, new), []).append(bucket) -/
end Lm


/-! who raises what about thresholds (k74) -/
namespace Lm
open PySem PySem.Spec PyProof.Rows L2
def RcOd (ds : List PyData) (nm : Str) : Prop := ∃ a x, ds = [a, x] ∧ ((SmallT a ∧ balB a = false ∧ nm = "allocation") ∨ ∃ (as : List Int) (v b : Int), a = tupD as ∧ Alc as v b ∧ 1 ≤ v ∧ v ≤ 5 ∧ b ≤ 20 ∧ SmallT x ∧ isOrdB x v = false ∧ nm = "order")
theorem RcOd_len {ds nm} (h : RcOd ds nm) : ds.length = 2 := by obtain ⟨a, x, rfl, _⟩ := h; rfl
end Lm


/-! a tuple of what other defs return, where no list of one's own is about; wrong arguments of thresholds (k74) -/
namespace Lm
open PySem PySem.Spec PyProof.Rows L2
def noOwn : Option Rs → Bool
  | some (.o _) => false
  | some (.d _) => false
  | some (.w _) => false
  | _ => true
section
variable {c : Ct} {H H' H0 H1 H2 : Hp} {O : List Addr} {σ : L2.St} {Γ : List (Option Rs)} {te : TE} {tr : TA} {k : Kd} {u : TS} {n : Nat} {P : PyData → Prop} {P' : Out → Prop} {Pd : List PyData → Prop}
theorem Reps.zero {fp : List Addr} (h : Reps c O H σ Γ fp) (hf : Γ.all noOwn = true) : fp = [] := by
  induction h with
  | nil => rfl
  | cons a b ih =>
    rename_i x s f fs σ Γ
    rw [List.all_cons, Bool.and_eq_true] at hf
    have e := ih hf.2
    subst e
    have : f = [] := by
      cases s with
      | none => exact a
      | some s =>
        cases s with
        | v d => exact a.1
        | r y => exact a.1
        | o d => exact absurd hf.1 (by simp [noOwn])
        | d u => exact absurd hf.1 (by simp [noOwn])
        | w ds => exact absurd hf.1 (by simp [noOwn])
    rw [this]; rfl
theorem Env.drop0 (e : Env c H0 O H σ Γ) (hf : Γ.all noOwn = true) : Env c H0 [] H σ Γ := by
  have sm : Same (mns H O) (mns H []) := mns_sub fun z hz => by simp at hz
  obtain ⟨fp, hr, nd, sub⟩ := e.rep
  have z := hr.zero hf
  subst z
  refine ⟨e.r0.tr (Rr.same sm), e.j.same sm, fun a ha => by simp at ha, fun a ha => by simp at ha, [], ?_, List.nodup_nil, fun a ha => by simp at ha⟩
  refine hr.map fun x s f q z => ?_
  cases s with
  | none => exact z
  | some s =>
    cases s with
    | v d => exact ⟨z.1, let ⟨v, e, b⟩ := z.2; ⟨v, e, b.same sm⟩⟩
    | r y => exact z
    | o d => exact z
    | d u => exact z
    | w ds =>
      obtain ⟨a, xs, h1, h2, h3, h4⟩ := z
      exact ⟨a, xs, h1, h2, h3, h4.same sm⟩
def Ev0 (c : Ct) (te : TE) (Γ : List (Option Rs)) (P : PyData → Prop) : Prop :=
  ∀ H0 H σ, Env c H0 [] H σ Γ → ∀ Q : VK, (∀ v d H2, P d → Rr c H H2 → Bo c H2 v d → Q v H2) → te σ H Q
end
section
variable {K : PySem.W.Frag} {C : Addr}
end
/-! good and wrong arguments -/
theorem small_of {es : List PyData} (h : es.length ≤ 1000000) : SmallT (.tuple es) := fun es' e => by cases e; exact h
theorem small_no {x : PyData} (h : isTupTy x = false) : SmallT x := fun es e => by rw [e] at h; cases h
theorem noal_len {ds : List PyData} {v b : Int} (h : (ds.length : Int) ≠ v) : isAlloc (.tuple ds) v b = false := by
  unfold isAlloc
  rw [show (lenT (.tuple ds)) = ds.length from rfl, decide_eq_false h]
  simp
end Lm
namespace Lm
open PySem PySem.Spec PyProof.Rows L2
end Lm


namespace Lm
/-! nearest allocations (k04): what is rounded up and down -/
def sR (n : Nat) (f : Nat → Int) : Int := ((List.range n).map f).sum
theorem sR_succ {n : Nat} {f : Nat → Int} : sR (n + 1) f = sR n f + f n := by
  unfold sR; rw [List.range_succ, List.map_append, List.sum_append]; simp
theorem sR_le {n : Nat} {f g : Nat → Int} (h : ∀ k < n, f k ≤ g k) : sR n f ≤ sR n g := by
  induction n with
  | zero => exact Int.le_refl _
  | succ n ih => rw [sR_succ, sR_succ]; have := ih fun k hk => h k (by omega); have := h n (by omega); omega
theorem sR_add {n : Nat} {f g : Nat → Int} : sR n (fun k => f k + g k) = sR n f + sR n g := by
  induction n with
  | zero => rfl
  | succ n ih => rw [sR_succ, sR_succ, sR_succ, ih]; omega
theorem sR_mul {n : Nat} {f : Nat → Int} {a : Int} : sR n (fun k => a * f k) = a * sR n f := by
  induction n with
  | zero => exact (Int.mul_zero a).symm
  | succ n ih => rw [sR_succ, sR_succ, ih, Int.mul_add]
theorem sR_congr {n : Nat} {f g : Nat → Int} (h : ∀ k < n, f k = g k) : sR n f = sR n g := by
  induction n with
  | zero => rfl
  | succ n ih => rw [sR_succ, sR_succ, ih fun k hk => h k (by omega), h n (by omega)]
theorem sR_eq {n : Nat} {f g : Nat → Int} (h : ∀ k < n, f k ≤ g k) (e : sR n f = sR n g) : ∀ k < n, f k = g k := by
  induction n with
  | zero => intro k hk; omega
  | succ n ih =>
    rw [sR_succ, sR_succ] at e
    have h1 := sR_le (n := n) fun k hk => h k (by omega)
    have h2 := h n (by omega)
    intro k hk
    by_cases q : k = n
    · subst q; omega
    · exact ih (fun k hk => h k (by omega)) (by omega) k (by omega)
section
variable {n : Nat} {W p : Int} {c x r : Nat → Int}
end
end Lm
namespace Lm
open PySem PySem.Spec PyProof.Rows L2
theorem sR_list : ∀ L : List Int, L.sum = sR L.length (fun k => L.getD k 0)
  | [] => rfl
  | x :: L => by
    have ih := sR_list L
    unfold sR at ih ⊢
    rw [List.length_cons, List.range_succ_eq_map, List.map_cons, List.map_map, List.sum_cons, List.sum_cons, ih]
    rfl
/-! by the rests: greatest first -/
def rLt (r : List Int) (i j : Nat) : Prop := r.getD j 0 < r.getD i 0 ∨ (r.getD i 0 = r.getD j 0 ∧ i < j)
def rLe (r : List Int) (i j : Nat) : Bool := decide (r.getD j 0 < r.getD i 0) || (decide (r.getD i 0 = r.getD j 0) && decide (i ≤ j))
def grR (r : List Int) : List Nat := (List.range r.length).mergeSort (rLe r)
theorem grr_perm (r : List Int) : (grR r).Perm (List.range r.length) := List.mergeSort_perm _ _
theorem grr_nd (r : List Int) : (grR r).Nodup := (grr_perm r).nodup_iff.mpr List.nodup_range
theorem grr_mem {r : List Int} {k : Nat} : k ∈ grR r ↔ k < r.length := by rw [(grr_perm r).mem_iff, List.mem_range]
theorem grr_len (r : List Int) : (grR r).length = r.length := by rw [(grr_perm r).length_eq, List.length_range]
theorem grr_asc (r : List Int) : (grR r).Pairwise (rLt r) := by
  have pw : (grR r).Pairwise fun a b => rLe r a b = true := List.pairwise_mergeSort (le := rLe r) (fun a b c h1 h2 => by
    simp only [rLe, Bool.or_eq_true, Bool.and_eq_true, decide_eq_true_eq] at h1 h2 ⊢
    omega) (fun a b => by
    simp only [rLe, Bool.or_eq_true, Bool.and_eq_true, decide_eq_true_eq]
    omega) (List.range r.length)
  have nd := grr_nd r
  refine (List.Pairwise.and pw nd).imp fun {a b} h => ?_
  obtain ⟨h1, h2⟩ := h
  simp only [rLe, Bool.or_eq_true, Bool.and_eq_true, decide_eq_true_eq] at h1
  unfold rLt
  omega
/-! weights -/
structure Wts (ws : List Int) : Prop where
  l1 : 1 ≤ ws.length
  l5 : ws.length ≤ 5
  rng : ∀ x ∈ ws, 0 ≤ x ∧ x ≤ 1000000
  pos : 0 < ws.sum
def floL (ws : List Int) (b : Int) : List Int := ws.map fun x => b * x / ws.sum
def rstL (ws : List Int) (b : Int) : List Int := ws.map fun x => b * x % ws.sum
def upN (ws : List Int) (b : Int) : Nat := (b - (floL ws b).sum).toNat
def topR (ws : List Int) (b : Int) : List Nat := (grR (rstL ws b)).take (upN ws b)
def appL (ws : List Int) (b : Int) : List Int := (List.range ws.length).map fun k => (floL ws b).getD k 0 + if k ∈ topR ws b then 1 else 0
theorem flo_len {ws : List Int} {b : Int} : (floL ws b).length = ws.length := by simp [floL]
theorem rst_len {ws : List Int} {b : Int} : (rstL ws b).length = ws.length := by simp [rstL]
theorem gD_map {ws : List Int} {f : Int → Int} {k : Nat} (hk : k < ws.length) : (ws.map f).getD k 0 = f (ws.getD k 0) := by
  simp [List.getD_eq_getElem?_getD, hk]
theorem flo_at {ws : List Int} {b : Int} {k : Nat} (hk : k < ws.length) : (floL ws b).getD k 0 = b * ws.getD k 0 / ws.sum := gD_map hk
theorem rst_at {ws : List Int} {b : Int} {k : Nat} (hk : k < ws.length) : (rstL ws b).getD k 0 = b * ws.getD k 0 % ws.sum := gD_map hk
theorem sum_bd {M : Int} : ∀ {ws : List Int}, (∀ x ∈ ws, x ≤ M) → ws.sum ≤ M * ws.length
  | [], _ => by simp
  | x :: ws, h => by
    have := sum_bd (ws := ws) fun y hy => h y (by simp [hy])
    have := h x (by simp)
    rw [List.sum_cons, List.length_cons, Int.natCast_add, Int.mul_add]
    omega
theorem Wts.sum5 {ws : List Int} (h : Wts ws) : ws.sum ≤ 5000000 := by
  have := sum_bd fun x hx => (h.rng x hx).2
  have := h.l5
  omega
section
variable {ws as : List Int} {b : Int}
theorem spl_at (h : Wts ws) {k : Nat} (hk : k < ws.length) : b * ws.getD k 0 = (floL ws b).getD k 0 * ws.sum + (rstL ws b).getD k 0 := by
  rw [flo_at hk, rst_at hk, Int.mul_comm (b * ws.getD k 0 / ws.sum)]
  exact (Int.mul_ediv_add_emod _ _).symm
theorem rst_rng (h : Wts ws) {k : Nat} (hk : k < ws.length) : 0 ≤ (rstL ws b).getD k 0 ∧ (rstL ws b).getD k 0 < ws.sum := by
  rw [rst_at hk]
  exact ⟨Int.emod_nonneg _ (by have := h.pos; omega), Int.emod_lt_of_pos _ h.pos⟩
theorem up_int (h : Wts ws) : sR ws.length (fun k => (rstL ws b).getD k 0) = (b - (floL ws b).sum) * ws.sum ∧ 0 ≤ b - (floL ws b).sum ∧ b - (floL ws b).sum ≤ ws.length := by
  have e1 : sR ws.length (fun k => b * ws.getD k 0) = b * ws.sum := by rw [sR_mul, ← sR_list]
  have e2 : sR ws.length (fun k => b * ws.getD k 0) = sR ws.length (fun k => ws.sum * (floL ws b).getD k 0) + sR ws.length (fun k => (rstL ws b).getD k 0) := by
    rw [← sR_add]
    exact sR_congr fun k hk => by rw [spl_at h hk, Int.mul_comm]
  have e3 : sR ws.length (fun k => ws.sum * (floL ws b).getD k 0) = ws.sum * (floL ws b).sum := by
    rw [sR_mul, sR_list (floL ws b), flo_len]
  have e4 : sR ws.length (fun k => (rstL ws b).getD k 0) = (b - (floL ws b).sum) * ws.sum := by
    rw [Int.sub_mul, Int.mul_comm (floL ws b).sum]
    omega
  have z0 : 0 ≤ sR ws.length (fun k => (rstL ws b).getD k 0) := by
    have := sR_le (n := ws.length) (f := fun _ => 0) fun k hk => (rst_rng (b := b) h hk).1
    have z : sR ws.length (fun _ => (0 : Int)) = 0 := by
      generalize ws.length = n
      induction n with
      | zero => rfl
      | succ n ih => rw [sR_succ, ih]; rfl
    omega
  have z1 : sR ws.length (fun k => (rstL ws b).getD k 0) ≤ (ws.length : Int) * ws.sum := by
    have := sR_le (n := ws.length) (g := fun _ => ws.sum) fun k hk => Int.le_of_lt (rst_rng (b := b) h hk).2
    have z : sR ws.length (fun _ => ws.sum) = (ws.length : Int) * ws.sum := by
      generalize ws.length = n
      induction n with
      | zero => exact (Int.zero_mul _).symm
      | succ n ih => rw [sR_succ, ih, Int.natCast_add, Int.add_mul]; omega
    omega
  rw [e4] at z0 z1
  refine ⟨e4, ?_, Int.le_of_mul_le_mul_right z1 h.pos⟩
  exact Int.nonneg_of_mul_nonneg_left z0 h.pos
theorem up_is (h : Wts ws) : ((upN ws b : Nat) : Int) = b - (floL ws b).sum := by have := (up_int (b := b) h).2.1; unfold upN; omega
theorem up_le (h : Wts ws) : upN ws b ≤ ws.length := by have := (up_int (b := b) h).2; unfold upN; omega
def ovL (ws as : List Int) : List Int := (ws.zip as).map fun p => p.2 * ws.sum - as.sum * p.1
def devI (ws as : List Int) : Int := ((ovL ws as).map fun x => (x.natAbs : Int)).sum
theorem ov_len (hl : as.length = ws.length) : (ovL ws as).length = ws.length := by simp [ovL, hl]
theorem ov_at (h : Wts ws) (hl : as.length = ws.length) {k : Nat} (hk : k < ws.length) : (ovL ws as).getD k 0 = (as.getD k 0 - (floL ws as.sum).getD k 0) * ws.sum - (rstL ws as.sum).getD k 0 := by
  have e : (ovL ws as).getD k 0 = as.getD k 0 * ws.sum - as.sum * ws.getD k 0 := by
    unfold ovL
    have z : (ws.zip as)[k]? = some (ws[k], as[k]'(by omega)) := List.getElem?_zip_eq_some.mpr ⟨List.getElem?_eq_getElem hk, List.getElem?_eq_getElem (by omega)⟩
    rw [List.getD_eq_getElem?_getD, List.getElem?_map, z]
    simp [List.getD_eq_getElem?_getD, hk, hl]
  rw [e, spl_at h hk, Int.sub_mul]
  omega
end
end Lm


/-! lowest terms; what is rounded as it should be; promises about weights (k04, k09) -/
namespace Lm
open PySem PySem.Spec PyProof.Rows L2
def gcI (n d : Int) : Int := ((Nat.gcd n.natAbs d.natAbs : Nat) : Int)
def lowD (n d : Int) : PyData := .tuple [.int (n / gcI n d), .int (d / gcI n d)]
theorem gc_pos {n d : Int} (hd : 0 < d) : 0 < gcI n d := by
  have : 0 < Nat.gcd n.natAbs d.natAbs := Nat.gcd_pos_of_pos_right _ (by omega)
  unfold gcI; omega
theorem gc_le {n d : Int} (hd : 0 < d) : gcI n d ≤ d := by
  have : Nat.gcd n.natAbs d.natAbs ≤ d.natAbs := Nat.gcd_le_right _ (by omega)
  unfold gcI; omega
theorem zip_rng04 {L M : List Int} (h : M.length = L.length) : L.zip M = (List.range L.length).map fun k => (L.getD k 0, M.getD k 0) := by
  apply List.ext_getElem
  · simp [h]
  · intro k h1 h2
    simp at h1 h2
    simp [List.getD_eq_getElem?_getD, h2, h]
def uprL (ws as : List Int) : List Int := (((rstL ws as.sum).zip (ovL ws as)).filter fun p => decide (0 < p.2)).map (·.1)
def dwnL (ws as : List Int) : List Int := (((rstL ws as.sum).zip (ovL ws as)).filter fun p => decide (p.2 < 0)).map (·.1)
def nearB (ws as : List Int) : Bool := decide (mxL ((ovL ws as).map fun x => (x.natAbs : Int)) < ws.sum) && (decide (uprL ws as = []) || decide (mxL (dwnL ws as) ≤ mnL (uprL ws as)))
section
variable {ws as : List Int} {b : Int}
theorem mem_uprL (hl : as.length = ws.length) {x : Int} : x ∈ uprL ws as ↔ ∃ k < ws.length, x = (rstL ws as.sum).getD k 0 ∧ 0 < (ovL ws as).getD k 0 := by
  unfold uprL
  rw [zip_rng04 (by rw [ov_len hl, rst_len]), rst_len]
  simp only [List.mem_map, List.mem_filter, List.mem_range, decide_eq_true_eq]
  constructor
  · rintro ⟨p, ⟨⟨k, hk, rfl⟩, hp⟩, rfl⟩; exact ⟨k, hk, rfl, hp⟩
  · rintro ⟨k, hk, rfl, hp⟩; exact ⟨_, ⟨⟨k, hk, rfl⟩, hp⟩, rfl⟩
theorem mem_dwnL (hl : as.length = ws.length) {x : Int} : x ∈ dwnL ws as ↔ ∃ k < ws.length, x = (rstL ws as.sum).getD k 0 ∧ (ovL ws as).getD k 0 < 0 := by
  unfold dwnL
  rw [zip_rng04 (by rw [ov_len hl, rst_len]), rst_len]
  simp only [List.mem_map, List.mem_filter, List.mem_range, decide_eq_true_eq]
  constructor
  · rintro ⟨p, ⟨⟨k, hk, rfl⟩, hp⟩, rfl⟩; exact ⟨k, hk, rfl, hp⟩
  · rintro ⟨k, hk, rfl, hp⟩; exact ⟨_, ⟨⟨k, hk, rfl⟩, hp⟩, rfl⟩
theorem ov_sum (h : Wts ws) (hl : as.length = ws.length) : sR ws.length (fun k => (ovL ws as).getD k 0) = 0 := by
  have e : sR ws.length (fun k => (ovL ws as).getD k 0) + sR ws.length (fun k => as.sum * ws.getD k 0) = sR ws.length (fun k => ws.sum * as.getD k 0) := by
    rw [← sR_add]
    refine sR_congr fun k hk => ?_
    rw [ov_at h hl hk, spl_at (b := as.sum) h hk, Int.sub_mul, Int.mul_comm (as.getD k 0)]
    omega
  rw [sR_mul, sR_mul, ← sR_list, ← hl, ← sR_list as, Int.mul_comm] at e
  rw [← hl]
  omega
theorem dwn_some (h : Wts ws) (hl : as.length = ws.length) (hu : uprL ws as ≠ []) : 0 < (dwnL ws as).length := by
  apply Classical.byContradiction
  intro n
  have z : dwnL ws as = [] := List.length_eq_zero_iff.mp (by omega)
  have nn : ∀ k < ws.length, (0 : Int) ≤ (ovL ws as).getD k 0 := fun k hk => by
    apply Classical.byContradiction
    intro w
    have : (rstL ws as.sum).getD k 0 ∈ dwnL ws as := (mem_dwnL hl).mpr ⟨k, hk, rfl, by omega⟩
    rw [z] at this; cases this
  have s := ov_sum h hl
  have z0 : sR ws.length (fun _ => (0 : Int)) = 0 := by
    generalize ws.length = n
    induction n with
    | zero => rfl
    | succ n ih => rw [sR_succ, ih]; rfl
  have all := sR_eq (n := ws.length) (f := fun _ => 0) nn (by rw [z0, s])
  obtain ⟨x, hx⟩ := List.exists_mem_of_ne_nil _ hu
  obtain ⟨k, hk, _, hp⟩ := (mem_uprL hl).mp hx
  have := all k hk
  omega
end
/-! promises -/
def wtsB (x : PyData) : Bool := areInts x 0 1000000 && ((decide (1 ≤ lenT x) && decide (lenT x ≤ 5)) && decide (0 < sumT x))
theorem Wts.isB {ws : List Int} (h : Wts ws) : wtsB (tupD ws) = true := by
  unfold wtsB
  rw [areInts_of h.rng, lenT_ints, sumT_ints, decide_eq_true h.l1, decide_eq_true h.l5, decide_eq_true h.pos]
  rfl
def sp_in_lowest_terms (K : PySem.W.Frag) : Sp := spD K fun ds k d => ∃ n m : Int, ds = [.int n, .int m] ∧ 0 < m ∧ m < 1073741824 ∧ k = .v ∧ d = lowD n m
def sp_are_weights (K : PySem.W.Frag) : Sp := spD K fun ds k d => ∃ x, ds = [x] ∧ SmallT x ∧ k = .v ∧ d = .bool (wtsB x)
def sp_check_weighted (K : PySem.W.Frag) : Sp := spD K fun ds k d => ∃ (ws as : List Int) (b : Int), ds = [tupD ws, tupD as] ∧ Wts ws ∧ Alc as (ws.length : Int) b ∧ b ≤ 20 ∧ k = .v ∧ d = .none
def sp_rests_of (K : PySem.W.Frag) : Sp := spD K fun ds k d => ∃ (ws : List Int) (b : Int), ds = [tupD ws, .int b] ∧ Wts ws ∧ 0 ≤ b ∧ b ≤ 20 ∧ k = .o ∧ d = .list ((rstL ws b).map .int)
def sp_by_largest_rests (K : PySem.W.Frag) : Sp := spD K fun ds k d => ∃ (ws : List Int) (b : Int), ds = [tupD ws, .int b] ∧ Wts ws ∧ 0 ≤ b ∧ b ≤ 20 ∧ k = .v ∧ d = tupD (appL ws b)
def sp_apportioned (K : PySem.W.Frag) : Sp := spD K fun ds k d => ∃ (ws : List Int) (b : Int), ds = [tupD ws, .int b] ∧ Wts ws ∧ 0 ≤ b ∧ b ≤ 20 ∧ k = .v ∧ d = tupD (appL ws b)
def sp_surpluses (K : PySem.W.Frag) : Sp := spD K fun ds k d => ∃ (ws as : List Int) (b : Int), ds = [tupD ws, tupD as] ∧ Wts ws ∧ Alc as (ws.length : Int) b ∧ b ≤ 20 ∧ k = .o ∧ d = .list ((ovL ws as).map .int)
def sp_deviation (K : PySem.W.Frag) : Sp := spD K fun ds k d => ∃ (ws as : List Int) (b : Int), ds = [tupD ws, tupD as] ∧ Wts ws ∧ Alc as (ws.length : Int) b ∧ b ≤ 20 ∧ k = .v ∧ d = lowD (devI ws as) ws.sum
def sp_is_nearest (K : PySem.W.Frag) : Sp := spD K fun ds k d => ∃ (ws as : List Int) (b : Int), ds = [tupD ws, tupD as] ∧ Wts ws ∧ Alc as (ws.length : Int) b ∧ b ≤ 20 ∧ k = .v ∧ d = .bool (nearB ws as)
end Lm


/-! gcd, abs, zip of two lists that stay, max of a list of any data; k04's readings -/
namespace Lm
open PySem PySem.Spec PyProof.Rows L2
section
variable {c : Ct} {Γ : List (Option Rs)} {te ta tb : TE} {k ka kb k1 k2 : Kd} {i j : Int}
theorem e_gcd (ha : Ev c ta Γ ka (.int i)) (hb : Ev c tb Γ kb (.int j)) : Ev c (tCB rGcd (tCons ta (tCons tb tNil))) Γ .v (.int (gcI i j)) :=
  d_cb (a_cons ha (a_cons hb a_nil)) fun H O vs Q s q => by
    obtain ⟨x, y, rfl, b1, b2⟩ := s.two
    exact ⟨i, j, by rw [b1.int', b2.int'], q _ H Rr.rf (.int _)⟩
theorem e_absI (ha : Ev c ta Γ ka (.int i)) : Ev c (tCB (fun xs H Q => ∃ i, xs = [V.int i] ∧ Q (.int (if i < 0 then -i else i)) H) (tCons ta tNil)) Γ .v (.int (i.natAbs : Int)) :=
  d_cb (a_cons ha a_nil) fun H O vs Q s q => by
    obtain ⟨x, rfl, b1⟩ := s.one
    refine ⟨i, by rw [b1.int'], ?_⟩
    have : (if i < 0 then -i else i) = (i.natAbs : Int) := by split <;> omega
    rw [this]
    exact q _ H Rr.rf (.int _)
theorem i_zipLV {ds es : List PyData} (h1 : Ev c ta Γ k1 (.list ds)) (n1 : k1 ≠ .b) (h2 : Ev c tb Γ k2 (.list es)) (n2 : k2 ≠ .b) : EvI c (RZ.iZipA c.K (tCons ta (tCons tb tNil))) Γ true (zipD ds es) := fun H0 O H σ e R q =>
  h1 H0 O H σ e _ fun v1 H1 r1 s1 => h2 H0 O H1 σ (e.on r1) _ fun v2 H2 r2 s2 => by
    have r : Rr c H H2 := r1.tr r2
    have b1 : Bo c (mns H2 O) v1 (.list ds) := Res.frozen e r (Res.on e r1 r2 s1) n1
    have b2 : Bo c (mns H2 O) v2 (.list es) := Res.frozen (e.on r1) r2 s2 n2
    obtain ⟨p, xs, rfl, ok1, sl, al⟩ := b1.lst'
    obtain ⟨p2, ys, rfl, ok2, sl2, al2⟩ := b2.lst'
    refine ⟨p, p2, xs, ys, rfl, .inl ⟨mns_same.seq sl, mns_same.seq sl2, q _ H2 r ⟨(e.on r).j, ?_⟩⟩⟩
    have hl : (zipD ds es).length = min xs.length ys.length := by rw [al.len, al2.len]; simp [zipD]
    refine (walk_zipLs hl).mono (fun H h => ⟨h.lst ok1 sl, h.lst ok2 sl2⟩) fun i H v H' hi g w => ?_
    obtain ⟨T, u1, u2, rfl, hT, rfl, g1, g2⟩ := w
    obtain ⟨d1, hd1, bd1⟩ := al.get g1
    obtain ⟨d2, hd2, bd2⟩ := al2.get g2
    have sm : Same H (upd H T (.tup [u1, u2])) := fun b o z => by rw [upd_ne (ne_of_none z hT)]; exact z
    refine ⟨sm, .t [.d d1, .d d2], ?_, .tup (.inl (.inl upd_same)) (.cons (.leaf (.inr ⟨rfl, bd1⟩)) (.cons (.leaf (.inr ⟨rfl, bd2⟩)) .nil))⟩
    have : (ds.zip es)[i]? = some (d1, d2) := by rw [List.getElem?_zip_eq_some]; exact ⟨hd1, hd2⟩
    simp [zipD, this]
theorem i_zipLVI {ns ms : List Int} (h1 : Ev c ta Γ k1 (.list (ns.map .int))) (n1 : k1 ≠ .b) (h2 : Ev c tb Γ k2 (.list (ms.map .int))) (n2 : k2 ≠ .b) : EvI c (RZ.iZipA c.K (tCons ta (tCons tb tNil))) Γ true ((ns.zip ms).map zipI) := by
  have e : zipD (ns.map .int) (ms.map .int) = (ns.zip ms).map zipI := by
    unfold zipD
    rw [List.zip_map, List.map_map]
    rfl
  exact e ▸ i_zipLV h1 n1 h2 n2
end
end Lm
namespace L2
open PySem PySem.Spec PyProof.Rows Lm
section
variable {X : Cx}
end
end L2
namespace Lm
open PySem PySem.Spec PyProof.Rows L2
/-! rows of two ints -/
theorem lt2 {a b c d : Int} : PySem.W.dataLt (tupD [a, b]) (tupD [c, d]) = decide (a < c ∨ (a = c ∧ b < d)) := by
  rw [dataLt_rows, decide_eq_decide]
  constructor
  · intro h
    rcases List.cons_lt_cons_iff.mp h with w | ⟨w, z⟩
    · exact .inl w
    · rcases List.cons_lt_cons_iff.mp z with z | ⟨_, z⟩
      · exact .inr ⟨w, z⟩
      · cases z
  · rintro (w | ⟨rfl, w⟩)
    · exact List.cons_lt_cons_iff.mpr (.inl w)
    · exact List.cons_lt_cons_iff.mpr (.inr ⟨rfl, List.cons_lt_cons_iff.mpr (.inl w)⟩)
def prR (r : List Int) (k : Nat) : List Int := [-(r.getD k 0), (k : Int)]
theorem gr_sorted (r : List Int) : ((grR r).map fun k => tupD (prR r k)).Pairwise fun a b => PySem.W.dataLt a b = true := by
  rw [List.pairwise_map]
  refine (grr_asc r).imp fun {a b} h => ?_
  unfold prR
  rw [lt2, decide_eq_true_eq]
  unfold rLt at h
  omega
def appT (ws : List Int) (b : Int) (t : Nat) : List Int := (List.range ws.length).map fun k => (floL ws b).getD k 0 + if k ∈ (grR (rstL ws b)).take t then 1 else 0
theorem appT_zero {ws : List Int} {b : Int} : appT ws b 0 = floL ws b := by
  apply List.ext_getElem
  · simp [appT, flo_len]
  · intro k h1 h2
    rw [flo_len] at h2
    simp [appT, List.getD_eq_getElem?_getD, flo_len, h2]
theorem appT_up {ws : List Int} {b : Int} : appT ws b (upN ws b) = appL ws b := rfl
theorem appT_len {ws : List Int} {b : Int} {t : Nat} : (appT ws b t).length = ws.length := by simp [appT]
theorem appT_step {ws : List Int} {b : Int} {t g : Nat} (ht : t < ws.length) (eg : g = (grR (rstL ws b)).getD t 0) : (appT ws b t).set g ((appT ws b t).getD g 0 + 1) = appT ws b (t + 1) := by
  have gl : (grR (rstL ws b)).length = ws.length := by rw [grr_len, rst_len]
  have gt : g = (grR (rstL ws b))[t]'(by omega) := by rw [eg]; simp [List.getD_eq_getElem?_getD, gl, ht]
  have sp : (grR (rstL ws b)).take (t + 1) = (grR (rstL ws b)).take t ++ [g] := by
    rw [List.take_add_one, List.getElem?_eq_getElem (by omega), gt]; rfl
  have nd := grr_nd (rstL ws b)
  rw [← List.take_append_drop (t + 1) (grR (rstL ws b)), sp] at nd
  have gn : g ∉ (grR (rstL ws b)).take t := fun w => (List.nodup_append.mp (List.nodup_append.mp nd).1).2.2 g w g (by simp) rfl
  have gw : g < ws.length := by
    have : g ∈ grR (rstL ws b) := by rw [gt]; exact List.getElem_mem _
    have := grr_mem.mp this
    rwa [rst_len] at this
  have at_ : ∀ t k, k < ws.length → (appT ws b t).getD k 0 = (floL ws b).getD k 0 + if k ∈ (grR (rstL ws b)).take t then 1 else 0 := fun t k hk => by
    simp [appT, List.getD_eq_getElem?_getD, hk]
  apply List.ext_getElem
  · rw [List.length_set, appT_len, appT_len]
  · intro k h1 h2
    rw [appT_len] at h2
    rw [List.getElem_set]
    have e2 : (appT ws b (t + 1))[k]'(by rw [appT_len]; exact h2) = (appT ws b (t + 1)).getD k 0 := by simp [List.getD_eq_getElem?_getD, appT_len, h2]
    rw [e2, at_ (t + 1) k h2, sp]
    by_cases q : g = k
    · subst q
      rw [if_pos rfl, at_ t g gw, if_neg gn, if_pos (by simp)]
      omega
    · rw [if_neg q]
      have e1 : (appT ws b t)[k]'(by rw [appT_len]; exact h2) = (appT ws b t).getD k 0 := by simp [List.getD_eq_getElem?_getD, appT_len, h2]
      rw [e1, at_ t k h2]
      congr 1
      have : (k ∈ (grR (rstL ws b)).take t ++ [g]) ↔ k ∈ (grR (rstL ws b)).take t := by
        rw [List.mem_append, List.mem_singleton]
        exact ⟨fun w => w.resolve_right fun e => q e.symm, .inl⟩
      simp only [this]
end Lm


/-! rules for all allowed shares (k84): those of fewest's lists are steady, and fewer buckets give none -/
namespace Lm
open PySem PySem.Spec PyProof.Rows L2
/-! allowed shares, each once -/
/-! lists that are long enough give each allocation its buckets -/
/-- the pair that lists give for shares -/
def alc84 (b : Int) (s : List Int) : List Int := (b - s.sum) :: s
end Lm


/-! steady rules for all allowed shares: how many, and that fewer buckets than a clique give none (k84) -/
namespace Lm
open PySem PySem.Spec PyProof.Rows L2
def stdB (r : List Pr) (p : Pr) (b : Nat) : Bool := r.all fun o => (List.range b).all fun y => !(leftB o p y || leftB p o y)
/-- the assignments with these counts -/
def asg84 (v : Int) (b : Nat) (as : List Int) : List (List Int) := (allL v b).filter fun f => decide (countsI f v = as)
def stepS (v : Int) (b : Nat) (R : List (List Pr)) (s : List Int) : List (List Pr) := (asg84 v b (alc84 (b : Int) s)).flatMap fun f => (R.filter fun r => stdB r (alc84 (b : Int) s, f) b).map fun r => r ++ [(alc84 (b : Int) s, f)]
def fndS (v : Int) (b : Nat) (A : List (List Int)) : List (List Pr) := A.foldl (stepS v b) [[]]
theorem fndS_snoc {v : Int} {b : Nat} {A : List (List Int)} {s : List Int} : fndS v b (A ++ [s]) = stepS v b (fndS v b A) s := by unfold fndS; rw [List.foldl_append]; rfl
theorem std_iff {r : List Pr} {p : Pr} {b : Nat} : stdB r p b = true ↔ ∀ o ∈ r, ∀ y < b, leftB o p y = false ∧ leftB p o y = false := by
  unfold stdB
  simp only [List.all_eq_true, List.mem_range, Bool.not_eq_true', Bool.or_eq_false_iff]
theorem left_iff {p q : Pr} {y : Nat} : leftB p q y = false ↔ (p.2.getD y 0 ≠ 0 → p.1.getD (p.2.getD y 0).toNat 0 ≤ q.1.getD (p.2.getD y 0).toNat 0 → q.2.getD y 0 = p.2.getD y 0) := by
  unfold leftB
  rw [← Bool.not_eq_true]
  simp only [Bool.and_eq_true, Bool.not_eq_true', decide_eq_false_iff_not, decide_eq_true_eq]
  constructor
  · intro h h1 h2
    apply Classical.byContradiction
    intro h3
    exact h ⟨h1, h3, h2⟩
  · rintro h ⟨h1, h3, h2⟩
    exact h3 (h h1 h2)
/-- what is found: one pair for each of the shares, all of them steady -/
theorem fnd_mem {v : Int} {b : Nat} (hv : 0 ≤ v) : ∀ (A : List (List Int)) {r : List Pr}, r ∈ fndS v b A →
    r.length = A.length ∧ (∀ i (p : Pr), r[i]? = some p → p.1 = alc84 (b : Int) (A.getD i []) ∧ p.2 ∈ asg84 v b p.1) ∧ (∀ p ∈ r, ∀ q ∈ r, ∀ y < b, leftB p q y = false) := by
  have main : ∀ (n : Nat) (A : List (List Int)), A.length = n → ∀ {r : List Pr}, r ∈ fndS v b A → r.length = A.length ∧ (∀ i (p : Pr), r[i]? = some p → p.1 = alc84 (b : Int) (A.getD i []) ∧ p.2 ∈ asg84 v b p.1) ∧ (∀ p ∈ r, ∀ q ∈ r, ∀ y < b, leftB p q y = false) := fun n => ?_
  · exact fun A r hr => main A.length A rfl hr
  induction n with
  | zero =>
    intro A hA r hr
    have := List.length_eq_zero_iff.mp hA
    subst this
    have : r = [] := by simpa [fndS] using hr
    subst this
    exact ⟨rfl, fun i p h => by simp at h, fun p h => by simp at h⟩
  | succ n ih' =>
    intro A0 hA r hr
    obtain ⟨A, s, rfl⟩ : ∃ A s, A0 = A ++ [s] := by
      rcases List.eq_nil_or_concat A0 with e | ⟨A, s, e⟩
      · rw [e] at hA; simp at hA
      · exact ⟨A, s, by rw [e, List.concat_eq_append]⟩
    have ih := @ih' A (by simpa using hA)
    rw [fndS_snoc] at hr
    obtain ⟨f, hf, hr⟩ := List.mem_flatMap.mp hr
    obtain ⟨r0, h0, rfl⟩ := List.mem_map.mp hr
    obtain ⟨h0, hs⟩ := List.mem_filter.mp h0
    obtain ⟨l0, p0, q0⟩ := ih h0
    have st := std_iff.mp hs
    have self : ∀ y < b, leftB (alc84 (b : Int) s, f) (alc84 (b : Int) s, f) y = false := fun y _ => left_iff.mpr fun _ _ => rfl
    refine ⟨by simp [l0], fun i p h => ?_, fun p hp q hq y hy => ?_⟩
    · by_cases e : i < r0.length
      · rw [List.getElem?_append_left e] at h
        have := p0 i p h
        have g : (A ++ [s]).getD i [] = A.getD i [] := by
          rw [List.getD_eq_getElem?_getD, List.getElem?_append_left (by omega), List.getD_eq_getElem?_getD]
        rw [g]; exact this
      · rw [List.getElem?_append_right (by omega)] at h
        have ei : i - r0.length = 0 := by have := (List.getElem?_eq_some_iff.mp h).1; simp at this; omega
        rw [ei] at h
        have : p = (alc84 (b : Int) s, f) := (Option.some.inj h).symm
        subst this
        have g : (A ++ [s]).getD i [] = s := by
          rw [List.getD_eq_getElem?_getD, List.getElem?_append_right (by omega), show i - A.length = 0 by omega]; rfl
        rw [g]
        exact ⟨rfl, hf⟩
    · rcases List.mem_append.mp hp with w | w
      · rcases List.mem_append.mp hq with z | z
        · exact q0 p w q z y hy
        · rw [List.mem_singleton.mp z]; exact (st p w y hy).1
      · rw [List.mem_singleton.mp w]
        rcases List.mem_append.mp hq with z | z
        · exact (st q z y hy).2
        · rw [List.mem_singleton.mp z]; exact self y hy
/-! how many -/
theorem swap_len {α β γ : Type} {R : List α} {P : β → α → Bool} {g : β → α → γ} : ∀ L : List β, (L.flatMap fun f => (R.filter (P f)).map (g f)).length = (R.map fun r => (L.filter fun f => P f r).length).sum
  | [] => by
    have : ∀ R : List α, (R.map fun _ => (0 : Nat)).sum = 0 := fun R => by
      induction R with
      | nil => rfl
      | cons a R ih => simpa using ih
    simp [this]
  | f :: L => by
    have ih := swap_len (P := P) (g := g) (R := R) L
    rw [List.flatMap_cons, List.length_append, ih, List.length_map]
    clear ih
    induction R with
    | nil => rfl
    | cons r R ih =>
      rw [List.map_cons, List.sum_cons, List.map_cons, List.sum_cons, List.filter_cons, List.filter_cons]
      by_cases h : P f r = true
      · rw [if_pos h, if_pos h, List.length_cons, List.length_cons]; omega
      · rw [if_neg h, if_neg h]; omega
theorem sum_le_mul {α : Type} {R : List α} {f : α → Nat} {k : Nat} (h : ∀ r ∈ R, f r ≤ k) : (R.map f).sum ≤ R.length * k := by
  induction R with
  | nil => simp
  | cons a R ih =>
    rw [List.map_cons, List.sum_cons, List.length_cons, Nat.add_mul, Nat.one_mul]
    have := h a (by simp)
    have := ih fun r hr => h r (by simp [hr])
    omega
theorem step_le {v : Int} {b k : Nat} {R : List (List Pr)} {s : List Int} (h : ∀ r ∈ R, ((asg84 v b (alc84 (b : Int) s)).filter fun f => stdB r (alc84 (b : Int) s, f) b).length ≤ k) : (stepS v b R s).length ≤ R.length * k := by
  unfold stepS
  rw [swap_len (P := fun f r => stdB r (alc84 (b : Int) s, f) b) (g := fun f r => r ++ [(alc84 (b : Int) s, f)])]
  exact sum_le_mul h
/-- shares of one variant at most -/
def sngB (s : List Int) : Bool := decide ((s.filter fun x => decide (x ≠ 0)).length ≤ 1)
def sngL (n : Nat) : List (List Int) := zr n :: (List.range n).flatMap fun x => [(zr n).set x 1, (zr n).set x 2]
theorem mem_asg {v : Int} (hv : 0 ≤ v) {b : Nat} {as f : List Int} : f ∈ asg84 v b as ↔ (f.length = b ∧ ∀ x ∈ f, 0 ≤ x ∧ x < v) ∧ countsI f v = as := by
  unfold asg84
  rw [List.mem_filter, mem_allL hv, decide_eq_true_eq]
theorem few_asg : ∀ v ∈ [2, 3, 4], ∀ b ∈ [0, 1, 2, 3], ∀ s ∈ sngL (v - 1), (asg84 (v : Int) b (alc84 (b : Int) s)).length ≤ 3 := by decide +kernel
theorem sng_mem : ∀ (s : List Int), (∀ x ∈ s, 0 ≤ x ∧ x ≤ 2) → sngB s = true → s ∈ sngL s.length := fun s h hs => by
  have z : ∀ t : List Int, (t.filter fun x => decide (x ≠ 0)).length = 0 → t = zr t.length := fun t ht => by
    have := List.length_eq_zero_iff.mp ht
    rw [List.filter_eq_nil_iff] at this
    apply List.ext_getElem
    · simp [zr]
    · intro i h1 h2
      have := this _ (List.getElem_mem h1)
      simp [zr] at this ⊢
      exact this
  by_cases e : s = zr s.length
  · unfold sngL; rw [← e]; simp
  · obtain ⟨i, hi, ne⟩ : ∃ i, ∃ h : i < s.length, s[i] ≠ 0 := by
      apply Classical.byContradiction
      intro w
      apply e
      apply List.ext_getElem
      · simp [zr]
      · intro i h1 h2
        simp [zr]
        apply Classical.byContradiction
        intro q
        exact w ⟨i, h1, q⟩
    have hs := of_decide_eq_true hs
    have sp : s = s.take i ++ s[i] :: s.drop (i + 1) := by
      rw [← List.drop_eq_getElem_cons hi, List.take_append_drop]
    have cnt : (s.filter fun x => decide (x ≠ 0)).length = ((s.take i).filter fun x => decide (x ≠ 0)).length + (1 + ((s.drop (i + 1)).filter fun x => decide (x ≠ 0)).length) := by
      conv => lhs; rw [sp]
      rw [List.filter_append, List.length_append, List.filter_cons, if_pos (by simpa using ne), List.length_cons]
      omega
    have z1 := z (s.take i) (by omega)
    have z2 := z (s.drop (i + 1)) (by omega)
    have es : s = (zr s.length).set i s[i] := by
      apply List.ext_getElem
      · simp [zr]
      · intro j h1 h2
        rw [List.getElem_set]
        by_cases q : i = j
        · subst q; simp
        · rw [if_neg q]
          simp only [zr, List.getElem_replicate]
          by_cases lt : j < i
          · have : (s.take i)[j]? = some 0 := by rw [z1]; unfold zr; rw [List.getElem?_replicate, if_pos (by rw [List.length_take]; omega)]
            rw [List.getElem?_take_of_lt lt, List.getElem?_eq_getElem h1] at this
            exact Option.some.inj this
          · have : (s.drop (i + 1))[j - (i + 1)]? = some 0 := by rw [z2]; unfold zr; rw [List.getElem?_replicate, if_pos (by rw [List.length_drop]; omega)]
            rw [List.getElem?_drop, show i + 1 + (j - (i + 1)) = j by omega, List.getElem?_eq_getElem h1] at this
            exact Option.some.inj this
    have r := h _ (List.getElem_mem hi)
    unfold sngL
    refine List.mem_cons_of_mem _ (List.mem_flatMap.mpr ⟨i, List.mem_range.mpr hi, ?_⟩)
    rcases (show s[i] = 1 ∨ s[i] = 2 by omega) with q | q
    · rw [q] at es; rw [List.mem_cons]; exact .inl es
    · rw [q] at es; rw [List.mem_cons, List.mem_cons]; exact .inr (.inl es)
/-- the allowed shares in order -/
structure Aw84 (F A : List (List Int)) (v : Nat) : Prop where
  fam : Fam F (v : Int)
  v2 : 2 ≤ v
  v4 : v ≤ 4
  two : ∀ r ∈ F, ∀ x ∈ r, x ≤ 2
  mem : ∀ s, s ∈ A ↔ AllF F s
  asc : A.Pairwise fun a b => TS.code 1000 a < TS.code 1000 b
theorem code_set {B : Int} (hB : 0 < B) : ∀ {s : List Int} {i : Nat}, i < s.length → TS.code B (s.set i (s.getD i 0 - 1)) < TS.code B s
  | x :: s, 0, _ => by
    show (x - 1) * B ^ s.length + TS.code B s < x * B ^ s.length + TS.code B s
    have : 0 < B ^ s.length := Int.pow_pos hB
    rw [Int.sub_mul]
    omega
  | x :: s, i + 1, h => by
    show x * B ^ (s.set i (s.getD i 0 - 1)).length + TS.code B (s.set i (s.getD i 0 - 1)) < x * B ^ s.length + TS.code B s
    rw [List.length_set]
    have := code_set hB (s := s) (i := i) (by simpa using h)
    omega
section
variable {F A : List (List Int)} {v b : Nat}
theorem Aw84.shr (h : Aw84 F A v) {s : List Int} (hs : s ∈ A) : s.length = v - 1 ∧ ∀ x ∈ s, 0 ≤ x ∧ x ≤ 2 := by
  obtain ⟨r, hr, hl, hb⟩ := (h.mem s).mp hs
  have rl := (h.fam.shr r hr).len
  refine ⟨by omega, fun x hx => ?_⟩
  obtain ⟨i, hi, rfl⟩ := List.getElem_of_mem hx
  have := hb i hi
  have e : s.getD i 0 = s[i] := by simp [List.getD_eq_getElem?_getD, hi]
  have r2 := h.two r hr _ (gd_mem (l := r) (j := i) (by omega))
  omega
/-- one bucket less of a variant is allowed, and stands before -/
theorem Aw84.pred (h : Aw84 F A v) {s : List Int} {i n : Nat} (hn : A[n]? = some s) (hi : i < s.length) (pos : 0 < s.getD i 0) : s.set i (s.getD i 0 - 1) ∈ A.take n := by
  have hs := List.mem_of_getElem? hn
  obtain ⟨r, hr, hl, hb⟩ := (h.mem s).mp hs
  have mem : s.set i (s.getD i 0 - 1) ∈ A := (h.mem _).mpr ⟨r, hr, by rw [List.length_set]; exact hl, fun j hj => by
    rw [List.length_set] at hj
    have := hb j hj
    by_cases e : i = j
    · subst e
      rw [getD_setI hi, if_pos rfl]; omega
    · rw [getD_setI hi, if_neg e]; exact this⟩
  have lt := code_set (B := 1000) (by decide) hi
  have nl := (List.getElem?_eq_some_iff.mp hn).1
  have pw := h.asc
  rw [← List.take_append_drop n A] at pw mem
  rcases List.mem_append.mp mem with w | w
  · exact w
  · exfalso
    have dr : A.drop n = s :: A.drop (n + 1) := by
      rw [List.drop_eq_getElem_cons nl]
      congr 1
      rw [List.getElem?_eq_getElem nl] at hn
      exact Option.some.inj hn
    rw [dr] at w pw
    rcases List.mem_cons.mp w with w | w
    · rw [w] at lt; omega
    · have := (List.pairwise_cons.mp (List.pairwise_append.mp pw).2.1).1 _ w
      omega
theorem alc_at {s : List Int} {i : Nat} : (alc84 (b : Int) s).getD (i + 1) 0 = s.getD i 0 := rfl
/-- with shares of two variants there is at most one -/
theorem Aw84.one (h : Aw84 F A v) {s : List Int} {n : Nat} (hn : A[n]? = some s) (hs : sngB s = false) {r : List Pr} (hr : r ∈ fndS (v : Int) b (A.take n)) : ((asg84 (v : Int) b (alc84 (b : Int) s)).filter fun f => stdB r (alc84 (b : Int) s, f) b).length ≤ 1 := by
  obtain ⟨rl, rp, rq⟩ := fnd_mem (by omega) _ hr
  have sl := (h.shr (List.mem_of_getElem? hn)).1
  have nl := (List.getElem?_eq_some_iff.mp hn).1
  -- where one of them has a variant, the other has it too
  have same : ∀ f ∈ (asg84 (v : Int) b (alc84 (b : Int) s)).filter (fun f => stdB r (alc84 (b : Int) s, f) b), ∀ g ∈ (asg84 (v : Int) b (alc84 (b : Int) s)).filter (fun f => stdB r (alc84 (b : Int) s, f) b), ∀ y < b, f.getD y 0 ≠ 0 → g.getD y 0 = f.getD y 0 := fun f hf g hg y hy ne => by
    obtain ⟨fa, fs⟩ := List.mem_filter.mp hf
    obtain ⟨ga, gs⟩ := List.mem_filter.mp hg
    obtain ⟨⟨fl, fr⟩, fc⟩ := (mem_asg (by omega)).mp fa
    have fy := fr _ (gd_mem (l := f) (j := y) (by omega))
    obtain ⟨u, hu⟩ : ∃ u : Nat, f.getD y 0 = (u : Int) + 1 := ⟨(f.getD y 0 - 1).toNat, by omega⟩
    -- another variant with shares
    obtain ⟨w, hw, wu, wp⟩ : ∃ w, w < s.length ∧ w ≠ u ∧ 0 < s.getD w 0 := by
      apply Classical.byContradiction
      intro no
      have zero : ∀ w (hw : w < s.length), w ≠ u → s[w] = 0 := fun w hw ne => by
        apply Classical.byContradiction
        intro q
        have e : s.getD w 0 = s[w] := by simp [List.getD_eq_getElem?_getD, hw]
        have := ((h.shr (List.mem_of_getElem? hn)).2 _ (List.getElem_mem hw)).1
        exact no ⟨w, hw, ne, by omega⟩
      have : sngB s = true := by
        unfold sngB
        rw [decide_eq_true_eq]
        by_cases ul : u < s.length
        · have sp : s = s.take u ++ s[u] :: s.drop (u + 1) := by
            rw [← List.drop_eq_getElem_cons ul, List.take_append_drop]
          rw [sp, List.filter_append, List.length_append, List.filter_cons]
          have z1 : (s.take u).filter (fun x => decide (x ≠ 0)) = [] := by
            rw [List.filter_eq_nil_iff]
            intro x hx
            obtain ⟨i, hi, rfl⟩ := List.getElem_of_mem hx
            rw [List.length_take] at hi
            rw [List.getElem_take, zero i (by omega) (by omega)]
            decide
          have z2 : (s.drop (u + 1)).filter (fun x => decide (x ≠ 0)) = [] := by
            rw [List.filter_eq_nil_iff]
            intro x hx
            obtain ⟨i, hi, rfl⟩ := List.getElem_of_mem hx
            rw [List.length_drop] at hi
            rw [List.getElem_drop, zero (u + 1 + i) (by omega) (by omega)]
            decide
          rw [z1, z2]
          split <;> simp
        · have z1 : s.filter (fun x => decide (x ≠ 0)) = [] := by
            rw [List.filter_eq_nil_iff]
            intro x hx
            obtain ⟨i, hi, rfl⟩ := List.getElem_of_mem hx
            rw [zero i hi (by omega)]
            decide
          rw [z1]; simp
      rw [this] at hs; cases hs
    have pm := h.pred hn hw wp
    obtain ⟨i, hi, ei⟩ := List.getElem_of_mem pm
    have ir : i < r.length := by omega
    obtain ⟨p1, p2⟩ := rp i r[i] (List.getElem?_eq_getElem ir)
    have gi : (A.take n).getD i [] = s.set w (s.getD w 0 - 1) := by rw [List.getD_eq_getElem?_getD, List.getElem?_eq_getElem hi, ei]; rfl
    rw [gi] at p1
    have pr : r[i] ∈ r := List.getElem_mem ir
    have f1 := std_iff.mp fs _ pr y hy
    have g1 := std_iff.mp gs _ pr y hy
    have at1 : (r[i].1).getD (u + 1) 0 = (alc84 (b : Int) s).getD (u + 1) 0 := by
      rw [p1, alc_at, alc_at, getD_setI hw, if_neg wu]
    have un : ((u : Int) + 1).toNat = u + 1 := by omega
    have o1 := left_iff.mp f1.2 (by show f.getD y 0 ≠ 0; exact ne) (by show (alc84 (b : Int) s).getD (f.getD y 0).toNat 0 ≤ _; rw [hu, un, at1]; exact Int.le_refl _)
    have o1 : r[i].2.getD y 0 = f.getD y 0 := o1
    have o2 := left_iff.mp g1.1 (by rw [o1]; exact ne) (by rw [o1]; show _ ≤ (alc84 (b : Int) s).getD (f.getD y 0).toNat 0; rw [hu, un, at1]; exact Int.le_refl _)
    have o2 : g.getD y 0 = r[i].2.getD y 0 := o2
    rw [o2, o1]
  have alleq : ∀ f ∈ (asg84 (v : Int) b (alc84 (b : Int) s)).filter (fun f => stdB r (alc84 (b : Int) s, f) b), ∀ g ∈ (asg84 (v : Int) b (alc84 (b : Int) s)).filter (fun f => stdB r (alc84 (b : Int) s, f) b), f = g := fun f hf g hg => by
    have fl := ((mem_asg (v := (v : Int)) (by omega)).mp (List.mem_filter.mp hf).1).1.1
    have gl := ((mem_asg (v := (v : Int)) (by omega)).mp (List.mem_filter.mp hg).1).1.1
    apply List.ext_getElem
    · omega
    · intro y h1 h2
      have e1 : f.getD y 0 = f[y] := by simp [List.getD_eq_getElem?_getD, h1]
      have e2 : g.getD y 0 = g[y] := by simp [List.getD_eq_getElem?_getD, h2]
      rw [← e1, ← e2]
      by_cases z : f.getD y 0 = 0
      · by_cases z2 : g.getD y 0 = 0
        · omega
        · have := same g hg f hf y (by omega) z2; omega
      · have := same f hf g hg y (by omega) z; omega
  have nd : ((asg84 (v : Int) b (alc84 (b : Int) s)).filter fun f => stdB r (alc84 (b : Int) s, f) b).Nodup := ((pw_nodup (allL_pw _ _)).filter _).filter _
  revert alleq nd
  generalize (asg84 (v : Int) b (alc84 (b : Int) s)).filter (fun f => stdB r (alc84 (b : Int) s, f) b) = L
  intro alleq nd
  match L, alleq, nd with
  | [], _, _ => simp
  | [_], _, _ => simp
  | x :: y :: L, al, nd =>
    have := al x (by simp) y (by simp)
    subst this
    exact absurd (List.mem_cons_self ..) (List.nodup_cons.mp nd).1
theorem Aw84.size (h : Aw84 F A v) (hb : b ≤ 3) : ∀ n, n ≤ A.length → (fndS (v : Int) b (A.take n)).length ≤ 3 ^ ((A.take n).filter sngB).length
  | 0, _ => by simp [fndS]
  | n + 1, hn => by
    have ih := Aw84.size h hb n (by omega)
    have hs : A[n]? = some A[n] := List.getElem?_eq_getElem (by omega)
    obtain ⟨s, es⟩ : ∃ s, s = A[n] := ⟨_, rfl⟩
    rw [← es] at hs
    have tk : A.take (n + 1) = A.take n ++ [s] := by rw [List.take_add_one, hs]; rfl
    rw [tk, fndS_snoc, List.filter_append, List.length_append]
    have hm := h.shr (List.mem_of_getElem? hs)
    by_cases q : sngB s = true
    · have e : ([s].filter sngB).length = 1 := by simp [q]
      rw [e, Nat.pow_succ]
      refine Nat.le_trans (step_le (k := 3) fun r hr => Nat.le_trans (List.length_filter_le _ _) ?_) (Nat.mul_le_mul_right _ ih)
      have v2 := h.v2
      have v4 := h.v4
      have := sng_mem s hm.2 q
      rw [hm.1] at this
      refine few_asg v ?_ b ?_ s this
      · simp; omega
      · simp; omega
    · have e : ([s].filter sngB).length = 0 := by simp [q]
      rw [e]
      refine Nat.le_trans (step_le (k := 1) fun r hr => h.one hs (by simpa using q) hr) ?_
      rw [Nat.mul_one]; exact ih
theorem Aw84.nd (h : Aw84 F A v) : A.Nodup := h.asc.imp fun {a b} lt e => by rw [e] at lt; omega
theorem Aw84.small (h : Aw84 F A v) (hb : b ≤ 3) {n : Nat} (hn : n ≤ A.length) : (fndS (v : Int) b (A.take n)).length ≤ 2187 := by
  refine Nat.le_trans (h.size hb n hn) ?_
  have v2 := h.v2
  have v4 := h.v4
  have : ((A.take n).filter sngB).length ≤ (sngL (v - 1)).length := nodup_sub ((h.nd.sublist (List.take_sublist _ _)).filter _) fun s hs => by
    obtain ⟨h1, h2⟩ := List.mem_filter.mp hs
    have hm := h.shr (List.mem_of_mem_take h1)
    have := sng_mem s hm.2 h2
    rwa [hm.1] at this
  have l7 : (sngL (v - 1)).length ≤ 7 := by
    rcases (show v = 2 ∨ v = 3 ∨ v = 4 by omega) with rfl | rfl | rfl <;> decide
  exact Nat.le_trans (Nat.pow_le_pow_right (by decide) (show _ ≤ 7 by omega)) (by decide)
/-- with fewer buckets than a clique has entries there is no steady rule -/
theorem Aw84.none (h : Aw84 F A v) {hs : List Int} (hl : hs.length = v - 1) (nn : ∀ x ∈ hs, 0 ≤ x) (hle : ∀ u, u < v - 1 → ∃ r0 ∈ F, hs.getD u 0 ≤ r0.getD u 0) (pw : (entL hs).Pairwise fun a b => togB F a b = true) (hsum : (b : Int) < hs.sum) : fndS (v : Int) b A = [] := by
  apply List.eq_nil_iff_forall_not_mem.mpr
  intro r hr
  obtain ⟨rl, rp, rq⟩ := fnd_mem (by omega) A hr
  have v2 := h.v2
  -- the pair of allowed shares
  have pair : ∀ s, s ∈ A → ∃ p ∈ r, p.1 = alc84 (b : Int) s ∧ p.2.length = b ∧ countsI p.2 (v : Int) = p.1 := fun s hs => by
    obtain ⟨i, hi, rfl⟩ := List.getElem_of_mem hs
    have ir : i < r.length := by omega
    obtain ⟨p1, p2⟩ := rp i r[i] (List.getElem?_eq_getElem ir)
    have := (mem_asg (v := (v : Int)) (by omega)).mp p2
    refine ⟨r[i], List.getElem_mem ir, ?_, this.1.1, this.2⟩
    rw [p1, List.getD_eq_getElem?_getD, List.getElem?_eq_getElem hi]; rfl
  have setl : ∀ (l : List Int) (i : Nat) (x : Int), (l.set i x).length = l.length := fun l i x => List.length_set
  have zl : (zr (v - 1)).length = v - 1 := by simp [zr]
  have z0 : ∀ j, (zr (v - 1)).getD j 0 = 0 := fun j => by
    simp only [zr, List.getD_eq_getElem?_getD, List.getElem?_replicate]; split <;> rfl
  have h0 : ∀ x, 0 ≤ hs.getD x 0 := fun x => by
    by_cases q : x < hs.length
    · exact nn _ (gd_mem q)
    · rw [List.getD_eq_getElem?_getD, List.getElem?_eq_none (by omega)]; exact Int.le_refl _
  -- two tops of the clique are used by one of the family's shares
  have top : ∀ u w, u < w → w < v - 1 → 0 < hs.getD u 0 → 0 < hs.getD w 0 → ∃ r0 ∈ F, hs.getD u 0 ≤ r0.getD u 0 ∧ hs.getD w 0 ≤ r0.getD w 0 := fun u w lt hw pu pw' => by
    have mu : enE u (hs.getD u 0 - 1).toNat ∈ entL hs := mem_ent.mpr ⟨u, (hs.getD u 0 - 1).toNat, rfl, by omega, by omega⟩
    have mw : enE w (hs.getD w 0 - 1).toNat ∈ entL hs := mem_ent.mpr ⟨w, (hs.getD w 0 - 1).toNat, rfl, by omega, by omega⟩
    have t : togB F (enE u (hs.getD u 0 - 1).toNat) (enE w (hs.getD w 0 - 1).toNat) = true := by
      obtain ⟨i, hi, ei⟩ := List.getElem_of_mem mu
      obtain ⟨j, hj, ej⟩ := List.getElem_of_mem mw
      have pw2 := List.pairwise_iff_getElem.mp pw
      rcases Nat.lt_trichotomy i j with q | q | q
      · have := pw2 i j hi hj q; rwa [ei, ej] at this
      · subst q; rw [ei] at ej; have := (en_inj.mp ej).1; omega
      · have := pw2 j i hj hi q; rw [ei, ej, tog_comm] at this; exact this
    obtain ⟨_, r0, hr0, a, b⟩ := tog_iff.mp t
    exact ⟨r0, hr0, by omega, by omega⟩
  have two84 : ∀ u w, u < v - 1 → w < v - 1 → ∀ r0 ∈ F, hs.getD u 0 ≤ r0.getD u 0 → hs.getD w 0 ≤ r0.getD w 0 → ((zr (v - 1)).set u (hs.getD u 0)).set w (hs.getD w 0) ∈ A := fun u w hu hw r0 hr0 e1 e2 => by
    have rl0 := h.fam.shr r0 hr0
    have rlen := rl0.len
    refine (h.mem _).mpr ⟨r0, hr0, by rw [setl, setl, zl]; omega, fun i hi => ?_⟩
    rw [setl, setl, zl] at hi
    have ri := rl0.nn _ (gd_mem (l := r0) (j := i) (by omega))
    rw [getD_setI (by rw [setl, zl]; exact hw)]
    by_cases q : w = i
    · rw [if_pos q, ← q]; exact ⟨h0 _, e2⟩
    · rw [if_neg q, getD_setI (by rw [zl]; exact hu)]
      by_cases q2 : u = i
      · rw [if_pos q2, ← q2]; exact ⟨h0 _, e1⟩
      · rw [if_neg q2, z0]; exact ⟨Int.le_refl _, ri⟩
  -- any two variants of the clique have a pair of the rule in which both have their shares
  have both : ∀ u w, u < w → w < v - 1 → 0 < hs.getD u 0 → 0 < hs.getD w 0 → ∃ p ∈ r, p.1.getD (u + 1) 0 = hs.getD u 0 ∧ p.1.getD (w + 1) 0 = hs.getD w 0 := fun u w lt hw pu pw' => by
    obtain ⟨r0, hr0, e1, e2⟩ := top u w lt hw pu pw'
    obtain ⟨p, hp, p1, _⟩ := pair _ (two84 u w (by omega) hw r0 hr0 e1 e2)
    refine ⟨p, hp, ?_, ?_⟩
    · rw [p1, alc_at, getD_setI (by rw [setl, zl]; exact hw), if_neg (by omega), getD_setI (by rw [zl]; omega), if_pos rfl]
    · rw [p1, alc_at, getD_setI (by rw [setl, zl]; exact hw), if_pos rfl]
  have ex : ∀ u, ∃ p : Pr, u < v - 1 → p ∈ r ∧ p.1.getD (u + 1) 0 = hs.getD u 0 ∧ p.2.length = b ∧ countsI p.2 (v : Int) = p.1 := fun u => by
    by_cases q : u < v - 1
    · obtain ⟨r0, hr0, e⟩ := hle u q
      obtain ⟨p, hp, p1, p2, p3⟩ := pair _ (two84 u u q q r0 hr0 e e)
      exact ⟨p, fun _ => ⟨hp, by rw [p1, alc_at, getD_setI (by rw [setl, zl]; exact q), if_pos rfl], p2, p3⟩⟩
    · exact ⟨([], []), fun w => absurd w q⟩
  obtain ⟨pu, hpu⟩ := Classical.axiomOfChoice ex
  let g : Nat → List Nat := fun u => (List.range b).filter fun y => decide ((pu u).2.getD y 0 = (u : Int) + 1)
  have gl : ∀ u, u < v - 1 → ((g u).length : Int) = hs.getD u 0 := fun u hu => by
    obtain ⟨_, e1, e2, e3⟩ := hpu u hu
    have cp := count_places (pu u).2 ((u : Int) + 1)
    rw [e2] at cp
    show (((List.range b).filter fun y => decide ((pu u).2.getD y 0 = (u : Int) + 1)).length : Int) = _
    rw [← cp, ← e1, ← e3]
    simp [countsI, upI, List.getD_eq_getElem?_getD, show u + 1 < v by omega]
  have fl : ∀ n, (((List.range n).flatMap g).length : Int) = sR n fun u => ((g u).length : Int) := fun n => by
    induction n with
    | zero => rfl
    | succ n ih => rw [List.range_succ, List.flatMap_append, List.length_append, Int.natCast_add, ih, sR_succ]; simp
  have nd : ((List.range (v - 1)).flatMap g).Nodup := by
    unfold List.Nodup
    rw [List.pairwise_flatMap]
    refine ⟨fun u _ => List.nodup_range.filter _, ?_⟩
    refine List.Pairwise.imp_of_mem (R := fun a b => a < b) (fun {u w} hu hw lt y hy z hz e => ?_) List.pairwise_lt_range
    subst e
    have hu := List.mem_range.mp hu
    have hw := List.mem_range.mp hw
    obtain ⟨y1, y2⟩ := List.mem_filter.mp hy
    obtain ⟨_, y3⟩ := List.mem_filter.mp hz
    have yb := List.mem_range.mp y1
    have y2 := of_decide_eq_true y2
    have y3 := of_decide_eq_true y3
    obtain ⟨u1, u2, u3, u4⟩ := hpu u hu
    obtain ⟨w1, w2, w3, w4⟩ := hpu w hw
    have pos : ∀ x, x < v - 1 → (pu x).2.getD y 0 = (x : Int) + 1 → 0 < hs.getD x 0 := fun x hx ey => by
      rw [← gl x hx]
      have : y ∈ g x := List.mem_filter.mpr ⟨y1, decide_eq_true ey⟩
      have := List.length_pos_of_mem this
      omega
    obtain ⟨p, hp, e1, e2⟩ := both u w lt hw (pos u hu y2) (pos w hw y3)
    have un : ∀ x : Nat, ((x : Int) + 1).toNat = x + 1 := fun x => by omega
    have s1 := left_iff.mp (rq _ u1 _ hp y yb) (by rw [y2]; omega) (by rw [y2, un, u2, e1]; exact Int.le_refl _)
    have s2 := left_iff.mp (rq _ w1 _ hp y yb) (by rw [y3]; omega) (by rw [y3, un, w2, e2]; exact Int.le_refl _)
    rw [y2] at s1
    rw [y3] at s2
    omega
  have le := nodup_sub nd (m := List.range b) fun y hy => by
    obtain ⟨u, _, hu⟩ := List.mem_flatMap.mp hy
    exact (List.mem_filter.mp hu).1
  rw [List.length_range] at le
  have f1 := fl (v - 1)
  have f2 := sR_congr (n := v - 1) (f := fun u => ((g u).length : Int)) (g := fun k => hs.getD k 0) gl
  have f3 := sR_list hs
  rw [hl] at f3
  omega
end
end Lm


/-! bool of a list; promises of k84 -/
namespace L2
open PySem PySem.Spec PyProof.Rows Lm
end L2
namespace Lm
open PySem PySem.Spec PyProof.Rows L2
end Lm
namespace Lm
open PySem PySem.Spec PyProof.Rows L2
end Lm


/-! for loops over what another def returns; new lists of drawn things that stay (k09) -/
namespace Lm
open PySem PySem.Spec PyProof.Rows L2
section
variable {c : Ct} {H H' H0 H1 H2 : Hp} {O : List Addr} {σ : L2.St} {Γ : List (Option Rs)} {te ta tb tl : TE} {tr : TA} {k : Kd} {u : TS} {n : Nat} {P : Out → Prop} {Pd : List PyData → Prop} {ds es : List PyData} {d : PyData}
/-- a new list of things that stay, frozen -/
theorem EvWN.v (h : EvWN c te Γ Pd) : EvN c te Γ .v (fun d => ∃ ds, d = .list ds ∧ Pd ds) := fun H0 O H σ e Q q =>
  h H0 O H σ e _ fun p xs ds H2 pd hp r h2 rm b => q _ _ H2 ⟨ds, rfl, pd⟩ r (by
    show Bo c (mns H2 O) (.ref p) (.list ds)
    have np : p ∉ O := new_notO e hp
    refine .lst (fun st l qq z => ?_) (.inl (.inl ?_)) (b.same (mns_sub fun z hz => by simp [hz]))
    · obtain ⟨ns, x, k, g1, _⟩ := e.jH st l qq
      rw [← z, hp] at g1
      cases g1
    · rw [mns_out np]; exact h2)
theorem EvW.wn (h : EvW c te Γ ds) : EvWN c te Γ (fun x => x = ds) := fun H0 O H σ e Q q => h H0 O H σ e _ fun p xs H2 hp r h2 rm b => q p xs ds H2 rfl hp r h2 rm b
theorem EvW.v (h : EvW c te Γ ds) : Ev c te Γ .v (.list ds) := EvN.det (h.wn.v.imp fun d ⟨x, e, w⟩ => by rw [e, w])
/-- a comprehension whose items stay, drawn ones -/
theorem w_lcN {α : Type} {fz : Bool} {wi : TI} {g : TG} {vs : List Nat} {l : List α} {en : α → Im} (Pi : α → PyData → Prop) (hi : EvI c wi Γ fz (l.map en)) (hl : l.length ≤ 1000000)
    (hb : ∀ a ∈ l, ∃ Γ' js, EvG c g (en a) (wipeG Γ vs) Γ' js ∧ (∀ j ∈ js, j ∈ vs) ∧ EvN c te Γ' .v (Pi a)) :
    EvWN c (tLc wi g tYes te vs) Γ (fun ds => ds.length = l.length ∧ ∀ (i : Nat) (a : α) (d : PyData), l[i]? = some a → ds[i]? = some d → Pi a d) := fun H0 O H σ e Q q =>
  hi H0 O H σ e _ fun J H1 r1 w D hD => by
    obtain ⟨jF, w⟩ := w
    have e1 := e.on r1
    have okD : okA c D := okA.fresh e1.jH hD
    have okO : ∀ a ∈ D :: O, okA c a := fun a ha => by
      rcases List.mem_cons.mp ha with w | w
      · rw [w]; exact okD
      · exact e1.okO a w
    refine lc_it w (fun n H' => Rr c H1 H' ∧ Rr c (mns H1 O) (mns H' (D :: O)) ∧ ∃ acc ds, H' D = some (.lst acc) ∧ BoAll c (mns H' (D :: O)) acc ds ∧ ds.length = min n l.length ∧ ∀ (i : Nat) (a : α) (d : PyData), l[i]? = some a → ds[i]? = some d → Pi a d) ?_ ?_ ?_ ?_
    · exact ⟨Rr.same fun b o z => by rw [upd_ne (ne_of_none z hD)]; exact z, by rw [mns_own hD]; exact Rr.rf, [], [], upd_same, .nil, by simp, fun i a d _ h => by simp at h⟩
    · intro n H' _ p
      exact (ifFz (F := H) e r1 p.1).1
    · rintro n x H' H'' hn ⟨p1, pm, acc, ds, p2, p3, p4, p5⟩ ⟨sm, im, him, lo⟩
      rw [List.getElem?_map] at him
      cases ha : l[n]? with
      | none => rw [ha] at him; cases him
      | some a =>
      rw [ha] at him
      have ea : en a = im := Option.some.inj him
      subst ea
      have ln : n < l.length := (List.getElem?_eq_some_iff.mp ha).1
      have j1 : Ji c (mns H' (D :: O)) := pm.2 e1.j
      have pm2 : Rr c (mns H1 O) (mns H'' (D :: O)) := pm.tr ((Rr.same sm : Rr c H' H'').mns j1 okO)
      have p1' : Rr c H1 H'' := p1.tr (Rr.same sm)
      have e2 : Env c H0 (D :: O) H'' σ Γ := e1.own hD p1' (sm _ _ p2) pm2
      obtain ⟨Γ', js, hg, hjs, hy⟩ := hb a (List.mem_of_getElem? ha)
      refine hg H0 (D :: O) H'' _ _ fz x (e2.wipe vs) jF (ifFz (F := H) e r1 p1').1 (fun hf => ?_) lo _ fun σ2 e3 hw => ⟨(hw vs hjs).trans (wipe_wipe fun _ h => h), t_yes H0 (D :: O) H'' σ2 e3 _ fun H3 r3 => iteT ?_⟩
      · subst hf; exact pm2
      · refine hy H0 (D :: O) H3 σ2 (e3.on r3) _ fun v d H4 pa r4 s4 => ?_
        have s4' : Bo c (mns H4 (D :: O)) v d := s4
        have D3 : H3 D = some (.lst acc) := r3.1 D _ okD (sm _ _ p2)
        have D4 : H4 D = some (.lst acc) := r4.1 D _ okD D3
        have j2 : Ji c (mns H'' (D :: O)) := pm2.2 e1.j
        have m34 : Rr c (mns H'' (D :: O)) (mns H4 (D :: O)) := (r3.tr r4).mns j2 okO
        have p3' : BoAll c (mns H4 (D :: O)) acc ds := p3.mono j1 (((Rr.same sm : Rr c H' H'').mns j1 okO).tr m34)
        have lacc : acc.length = n := by rw [p3.len, p4]; omega
        refine ⟨acc, D4, by rw [lacc, sizeLine_eq]; omega, rr_upd (p1'.tr (r3.tr r4)) hD, ?_, acc ++ [v], ds ++ [d], upd_same, ?_, by rw [List.length_append, p4]; simp; omega, fun i a' d' hl' hd' => ?_⟩
        · rw [mns_upd]; exact pm2.tr m34
        · rw [mns_upd]
          exact p3'.app (.cons s4' .nil)
        · by_cases q : i < ds.length
          · rw [List.getElem?_append_left q] at hd'
            exact p5 i a' d' hl' hd'
          · rw [List.getElem?_append_right (by omega)] at hd'
            have : i - ds.length = 0 := by have := (List.getElem?_eq_some_iff.mp hd').1; simp at this; omega
            rw [this] at hd'
            have en : i = n := by omega
            subst en
            rw [ha] at hl'
            cases hl'
            have : d = d' := Option.some.inj hd'
            rw [← this]; exact pa
    · rintro H' ⟨p1, pm, acc, ds, p2, p3, p4, p5⟩
      rw [List.length_map] at p4
      exact q D acc ds H' ⟨by rw [p4]; omega, p5⟩ (r1.back e.jH hD) (r1.tr p1) p2 ((r1.mns e.j e.okO).tr pm) p3
/-- any item of a list that stays -/
theorem n_pick {m n : Nat} {st l : Addr} {E : XK} (hc : c.so = some (st, l)) (h0 : Γ[m]? = some (some (.r (.ref st)))) (hx : Γ[n]? = some (some (.v (.list ds)))) (h1 : 0 < ds.length) (h2 : ds.length ≤ 1000) : EvN c (tCall (sp__law_pick c.K) [] E (tCons (tVar m) (tCons (tVar n) tNil))) Γ .v (fun d => d ∈ ds) := fun H0 O H σ e Q q => by
  have hcc : c = sc c.K st l := by cases c; cases hc; rfl
  refine ⟨_, e.slotR h0, ?_⟩
  refine d_var hx H0 O H σ e _ fun v H1 r1 s1 => ?_
  have bv : Bo c (mns H1 O) v (.list ds) := s1
  obtain ⟨p, xs, rfl, ok, sl, al⟩ := bv.lst'
  refine ⟨st, l, p, xs, rfl, (e.on r1).jH st l hc, mns_same.seq sl, fun w => ok st l hc w, by rw [al.len]; exact h1, by rw [al.len]; exact h2, fun i v H' hi r => ?_⟩
  rw [← hcc] at r
  obtain ⟨d, hd, bd⟩ := al.get hi
  exact q v d H' (List.mem_of_getElem? hd) (r1.tr r) (bd.mono (e.on r1).j (r.mns (e.on r1).j e.okO))
/-- xs.extend(a new list), of things that stay -/
theorem s_extW (hx : Γ[n]? = some (some (.w ds))) (h : EvW c te Γ es) (hl : ds.length + es.length ≤ 1000000) (p : P (.nx (Γ.set n (some (.w (ds ++ es)))))) : Sd c (tDrop (tBM c.K "list" rExtend (tVar n) (tCons te tNil))) Γ P := fun H0 O H σ D e s => by
  obtain ⟨a, xs, ha, hH, hO, b, _⟩ := e.wd hx
  refine ⟨.ref a, ha, .inl ⟨rfl, xs, .inl (.inl hH)⟩, h H0 O H σ e _ fun q zs H2 hq r hz rm bz => ?_⟩
  have e2 := e.on r
  obtain ⟨a', xs', ha', hH', hO', b', ed⟩ := e2.wd hx
  have : a' = a := by rw [ha] at ha'; cases ha'; rfl
  subst this
  have bv : BoAll c (mns H2 O) zs es := bz.same (mns_sub fun z hz => by simp [hz])
  have hn : n < Γ.length := (List.getElem?_eq_some_iff.mp hx).1
  obtain ⟨p2, hp2, hq2, hq3, ew⟩ := ed.writeD (w := .lst (xs' ++ zs)) (List.getElem?_set_self hn) trivial
  have : p2 = a' := by rw [ha] at hp2; cases hp2; rfl
  subst this
  have em : mns (upd H2 p2 (.lst (xs' ++ zs))) O = mns H2 O := by
    funext z
    by_cases hz : z ∈ O
    · rw [mns_in hz, mns_in hz]
    · rw [mns_out hz, mns_out hz, upd_ne (fun w => hz (by rw [w]; exact hq3))]
  refine ⟨p2, q, xs', zs, rfl, rfl, hH', hz, by rw [b'.len, bz.len]; exact sizeOk hl, s _ p O _ σ ?_⟩
  rw [List.set_set] at ew
  have := ew.dw (ds := ds ++ es) (List.getElem?_set_self hn) (by rw [em]; exact b'.app bv)
  rwa [List.set_set] at this
/-- for .. in f(..): what another def returns, where no list of one's own is about -/
theorem s_for0 {g : TG} {tb : TS} (nf : Γ.all noOwn = true) (h : Ev0 c tl Γ (fun d => ∃ ds, d = .list ds ∧ Pd ds)) (I : List PyData → Nat → List (Option Rs) → Prop) (h0 : ∀ ds, Pd ds → I ds 0 Γ)
    (hs : ∀ ds n a Γ1, Pd ds → ds[n]? = some a → I ds n Γ1 → ∃ Γ2 js, EvG c g (.d a) Γ1 Γ2 js ∧
      Sd c tb Γ2 (fun o => (∃ Γ3, (o = .nx Γ3 ∨ o = .ct Γ3) ∧ I ds (n + 1) Γ3) ∨ (∃ Γ3, o = .bk Γ3 ∧ P (.nx Γ3)) ∨ ∃ k d, o = .rt k d ∧ P o))
    (hd : ∀ ds Γ1, Pd ds → I ds ds.length Γ1 → P (.nx Γ1)) : Sd c (tFor (iSeq c.K tl) g tb) Γ P := fun H0 O H σ D e' s => by
  have e := e'.drop0 nf
  refine .inl (h H0 H σ e _ fun v d H1 ⟨ds, ed, pd⟩ r1 bv => ?_)
  subst ed
  have bv' : Bo c (mns H1 []) v (.list ds) := by rw [mns_nil]; exact bv
  obtain ⟨p, xs, rfl, kp, sl, al⟩ := bv'.lst'
  refine ⟨p, rfl, ⟨xs, mns_same.seq sl⟩, ?_⟩
  have w := i_core (e.on r1).j (walk_list.mono (fun H h => h.lst kp sl) fun _ _ _ _ _ _ y => y) al (fz := true) (.inl rfl)
  obtain ⟨jF, w⟩ := w
  have e1 := e.on r1
  refine for_it w (fun n σ' H' => ∃ O' Γ', I ds n Γ' ∧ Env c (mns H1 []) O' H' σ' Γ') ⟨[], Γ, h0 ds pd, e1.base⟩ ?_ ?_ ?_
  · rintro n σ' H' _ ⟨O', Γ', _, e'⟩
    exact e'.rH
  · rintro n x σ' H' H'' hn ⟨O', Γ', hI, e'⟩ ⟨sm, im, him, lo⟩
    have e2 := e'.on (Rr.same sm)
    rw [List.getElem?_map] at him
    cases ha : ds[n]? with
    | none => rw [ha] at him; cases him
    | some a =>
    rw [ha] at him
    have ea : Im.d a = im := Option.some.inj him
    subst ea
    obtain ⟨Γ2, js, hg, hb⟩ := hs ds n a Γ' pd ha hI
    refine hg _ _ _ _ _ true x e2 jF e2.rH (fun _ => e2.r0) lo _ fun σ2 e3 _ => hb _ _ _ _ _ e3 fun o po => ?_
    rcases po with ⟨Γ3, ho, h3⟩ | ⟨Γ3, ho, h3⟩ | ⟨k, d, ho, h3⟩
    · rcases ho with rfl | rfl
      · exact fun O4 H4 σ4 e4 => ⟨O4, Γ3, h3, e4⟩
      · exact fun O4 H4 σ4 e4 => ⟨O4, Γ3, h3, e4⟩
    · subst ho
      exact fun O4 H4 σ4 e4 => s _ h3 O4 H4 σ4 (e1.fromB e4)
    · subst ho
      intro v H4 r4 rt
      refine s _ h3 v H4 ((e.r0.tr (r1.mns e.j e.okO)).tr r4) ?_
      cases k with
      | v => exact rt
      | o =>
        obtain ⟨fp, q, nd, new⟩ := rt
        exact ⟨fp, q, nd, fun a ha => e1.back0 (new a ha)⟩
      | b => exact rt
  · rintro σ' H' ⟨O', Γ', hI, e'⟩
    rw [List.length_map] at hI
    exact s _ (hd ds Γ' pd hI) O' H' σ' (e1.fromB e')
theorem q_for0 {g : TG} {tb : TS} (nf : Γ.all noOwn = true) (h : Ev0 c tl Γ (fun d => ∃ ds, d = .list ds ∧ Pd ds)) (I : List PyData → Nat → List (Option Rs) → Prop) (h0 : ∀ ds, Pd ds → I ds 0 Γ)
    (hs : ∀ ds n a Γ1, Pd ds → ds[n]? = some a → I ds n Γ1 → ∃ Γ2 js, EvG c g (.d a) Γ1 Γ2 js ∧
      Sd c tb Γ2 (fun o => (∃ Γ3, (o = .nx Γ3 ∨ o = .ct Γ3) ∧ I ds (n + 1) Γ3) ∨ (∃ Γ3, o = .bk Γ3 ∧ Sd c u Γ3 P) ∨ ∃ k d, o = .rt k d ∧ P o))
    (hd : ∀ ds Γ1, Pd ds → I ds ds.length Γ1 → Sd c u Γ1 P) : Sd c (tSeq (tFor (iSeq c.K tl) g tb) u) Γ P :=
  s_seq (P1 := fun o => match o with | .nx Γ3 => Sd c u Γ3 P | .rt k d => P (.rt k d) | _ => False)
    (s_for0 nf h I h0 (fun ds n a Γ1 h1 h2 h3 => by
      obtain ⟨Γ2, js, hg, hb⟩ := hs ds n a Γ1 h1 h2 h3
      refine ⟨Γ2, js, hg, hb.imp fun o po => ?_⟩
      rcases po with w | ⟨Γ3, ho, h3⟩ | ⟨k, d, ho, h3⟩
      · exact .inl w
      · exact .inr (.inl ⟨Γ3, ho, h3⟩)
      · subst ho; exact .inr (.inr ⟨k, d, rfl, h3⟩)) hd) (fun _ h => h) (fun _ _ h => h) (fun _ h => h.elim) (fun _ h => h.elim)
end
section
variable {K : PySem.W.Frag} {C : Addr}
/-- return e.name if isinstance(e, LeastError) and isinstance(e, ValueError) else None -/
theorem was_isL {P : Program} {w : World} {mg : Str → Option Value} {base : Heap} {i : Nat} {Wout : WX} {D : Ends} {dx L : Addr} {H1 : Hp} {nm : Str} {σ : L2.St} (X : Exc1 P w K mg base "BadValue" "name" C) (XH : ExcH K mg C L) (kL : PySem.W.kitOne K (.ref C) (.ref L) = some true) (hi : i < σ.length) (hdx : H1 dx = some (.xd [("name", .str nm)]))
    (q : D.rt (.str nm) H1) :
    wAs K (.ref C) i (fun a cls d => tRet (tIf (tAnd (tB (tCB (rIsX K C a cls d) (tCons (tVar i) (tCons (tC (.ref L)) tNil)))) (tB (tCB (rIsX K C a cls d) (tCons (tVar i) (tCons (tC (.ty "ValueError")) tNil)))))
      (tXf a cls d C "name" (tVar i)) (tC .non))) Wout D (.ref C) (some dx) σ H1 := by
  refine ⟨true, X.exm, fun _ a ha => ?_, fun w => nomatch w⟩
  have v0 : (σ.set i (some (.ref a)))[i]? = some (some (.ref a)) := List.getElem?_set_self hi
  refine ⟨.ref a, v0, .ref L, .ref L, true, dx, _, rfl, rfl, rfl, hdx, fun u h => h, kL, true, rfl, ?_⟩
  show if true = true then _ else _
  rw [if_pos rfl]
  refine ⟨.ref a, v0, .ty "ValueError", .type "ValueError", true, dx, _, rfl, rfl, rfl, hdx, fun u h => h, XH.kV, true, rfl, ?_⟩
  show if true = true then _ else _
  rw [if_pos rfl]
  exact ⟨.ref a, v0, rfl, rfl, dx, _, .str nm, rfl, hdx, rfl, q⟩
theorem kit_ref {L : Addr} {cd : PySem.ClassData} (h1 : PySem.W.clsIn K L = some cd) (h2 : PySem.W.typeIn K (.ref L) = some (.type "type")) (h3 : PySem.W.subIn K (.ref C) (.ref L) = some true) : PySem.W.kitOne K (.ref C) (.ref L) = some true := by
  unfold PySem.W.kitOne
  split
  · rfl
  · unfold PySem.W.kitCls
    show (if ((PySem.W.clsIn K L).isSome && PySem.W.typeIn K (.ref L) == some (.type "type")) = true then _ else _) = _
    rw [h1, h2, if_pos (by simp)]
    exact h3
end
end Lm


/-! refusals of allocations and assignments (k09) -/
namespace Lm
open PySem PySem.Spec PyProof.Rows L2
def Rc2 (ds : List PyData) (nm : Str) : Prop := ∃ a x, ds = [a, x] ∧ ((SmallT a ∧ balB a = false ∧ nm = "first") ∨ ∃ (as : List Int) (v b : Int), a = tupD as ∧ Alc as v b ∧ 1 ≤ v ∧ v ≤ 5 ∧ b ≤ 20 ∧ SmallT x ∧ isAlloc x v b = false ∧ nm = "second")
theorem Rc2_len {ds nm} (h : Rc2 ds nm) : ds.length = 2 := by obtain ⟨a, x, rfl, _⟩ := h; rfl
def RcAp (ds : List PyData) (nm : Str) : Prop := ∃ a x, ds = [a, x] ∧ ((SmallT a ∧ wtsB a = false ∧ nm = "weights") ∨ ∃ ws : List Int, a = tupD ws ∧ Wts ws ∧ isIntD x 0 20 = false ∧ nm = "buckets")
theorem RcAp_len {ds nm} (h : RcAp ds nm) : ds.length = 2 := by obtain ⟨a, x, rfl, _⟩ := h; rfl
def RcWt (ds : List PyData) (nm : Str) : Prop := ∃ a x, ds = [a, x] ∧ ((SmallT a ∧ wtsB a = false ∧ nm = "weights") ∨ ∃ ws : List Int, a = tupD ws ∧ Wts ws ∧ SmallT x ∧ (balB x && decide ((lenT x : Int) = (ws.length : Int))) = false ∧ nm = "allocation")
theorem RcWt_len {ds nm} (h : RcWt ds nm) : ds.length = 2 := by obtain ⟨a, x, rfl, _⟩ := h; rfl
def RcAs (ds : List PyData) (nm : Str) : Prop := ∃ x, ds = [x, .str nm] ∧ nm.length ≤ 1000 ∧ SmallT x ∧ isBAsg x 5 = false
theorem RcAs_len {ds nm} (h : RcAs ds nm) : ds.length = 2 := by obtain ⟨x, rfl, _⟩ := h; rfl
def RcPr (ds : List PyData) (nm : Str) : Prop := ∃ a x, ds = [a, x] ∧ ((SmallT a ∧ isBAsg a 5 = false ∧ nm = "first") ∨ ∃ ns : List Int, a = tupD ns ∧ Asg ns 5 ∧ SmallT x ∧ isAsgB x 5 (ns.length : Int) = false ∧ nm = "second")
theorem RcPr_len {ds nm} (h : RcPr ds nm) : ds.length = 2 := by obtain ⟨a, x, rfl, _⟩ := h; rfl
def RcCe (ds : List PyData) (nm : Str) : Prop := ∃ (x : PyData) (ns : List Int), ds = [x, tupD ns] ∧ isIntD x (mxD 0 ns + 1) 5 = false ∧ nm = "variants"
theorem RcCe_len {ds nm} (h : RcCe ds nm) : ds.length = 2 := by obtain ⟨a, x, rfl, _⟩ := h; rfl
def RcAo (ds : List PyData) (nm : Str) : Prop := ∃ a x, ds = [a, x] ∧ ((SmallT a ∧ isBAsg a 5 = false ∧ nm = "assignment") ∨ ∃ ns : List Int, a = tupD ns ∧ Asg ns 5 ∧ isIntD x (mxD 0 ns + 1) 5 = false ∧ nm = "variants")
theorem RcAo_len {ds nm} (h : RcAo ds nm) : ds.length = 2 := by obtain ⟨a, x, rfl, _⟩ := h; rfl
def RcFl (ds : List PyData) (nm : Str) : Prop := ∃ a y x, ds = [a, y, x] ∧ (RcPr [a, y] nm ∨ ∃ ns ms : List Int, a = tupD ns ∧ y = tupD ms ∧ Asg ns 5 ∧ Asg ms 5 ∧ ns.length = ms.length ∧ isIntD x (mxD 0 (ns ++ ms) + 1) 5 = false ∧ nm = "variants")
theorem RcFl_len {ds nm} (h : RcFl ds nm) : ds.length = 3 := by obtain ⟨a, y, x, rfl, _⟩ := h; rfl
def RcBk (ds : List PyData) (nm : Str) : Prop := ∃ a x, ds = [a, x] ∧ ((SmallT a ∧ isBAsg a 5 = false ∧ nm = "assignment") ∨ ∃ ns : List Int, a = tupD ns ∧ Asg ns 5 ∧ isIntD x 0 4 = false ∧ nm = "variant")
theorem RcBk_len {ds nm} (h : RcBk ds nm) : ds.length = 2 := by obtain ⟨a, x, rfl, _⟩ := h; rfl
def RcRn (ds : List PyData) (nm : Str) : Prop := ∃ a x, ds = [a, x] ∧ ((SmallT a ∧ isBAsg a 5 = false ∧ nm = "assignment") ∨ ∃ ns : List Int, a = tupD ns ∧ Asg ns 5 ∧ SmallT x ∧ isOrdB x 5 = false ∧ nm = "order")
theorem RcRn_len {ds nm} (h : RcRn ds nm) : ds.length = 2 := by obtain ⟨a, x, rfl, _⟩ := h; rfl
def RcRr (ds : List PyData) (nm : Str) : Prop := ∃ a x, ds = [a, x] ∧ ((SmallT a ∧ isBAsg a 5 = false ∧ nm = "assignment") ∨ ∃ ns : List Int, a = tupD ns ∧ Asg ns 5 ∧ SmallT x ∧ isOrdB x (ns.length : Int) = false ∧ nm = "order")
theorem RcRr_len {ds nm} (h : RcRr ds nm) : ds.length = 2 := by obtain ⟨a, x, rfl, _⟩ := h; rfl
section
variable {K : PySem.W.Frag} {C : Addr} {H0 : Hp} {Γ : List (Option Rs)} {te : TE} {c : Ct} {r : List V → Hp → VK → Prop}
theorem x_cb1 (h : EvRz c H0 te Γ) : EvRz c H0 (tCB r (tCons te tNil)) Γ := fun O H σ Q e => h O H σ _ e
end
/-! good and wrong parts, by the word's number -/
def wd09 : List String := ["transfer", "medians", "apportioned", "deviation", "nearest", "shares", "counts", "churn", "moves", "flows", "buckets", "renamed", "rearranged"]
def wdS (w : Nat) : Str := Str.ofString (wd09.getD w "")
def G09 (w : Nat) (ps : List PyData) : Prop :=
  (w = 0 ∧ ∃ (as bs : List Int) (v b : Int), ps = [tupD as, tupD bs] ∧ Alc as v b ∧ Alc bs v b ∧ 1 ≤ v ∧ v ≤ 5 ∧ b ≤ 20) ∨
  (w = 1 ∧ ∃ (as bs cs : List Int) (v b : Int), ps = [tupD as, tupD bs, tupD cs] ∧ Alc as v b ∧ Alc bs v b ∧ Alc cs v b ∧ 1 ≤ v ∧ v ≤ 5 ∧ b ≤ 20) ∨
  (w = 2 ∧ ∃ (ws : List Int) (b : Int), ps = [tupD ws, .int b] ∧ Wts ws ∧ 0 ≤ b ∧ b ≤ 20) ∨
  ((w = 3 ∨ w = 4) ∧ ∃ (ws as : List Int) (b : Int), ps = [tupD ws, tupD as] ∧ Wts ws ∧ Alc as (ws.length : Int) b ∧ b ≤ 20) ∨
  (w = 5 ∧ ∃ (as os : List Int) (v b : Int), ps = [tupD as, tupD os] ∧ Alc as v b ∧ IsOrd os v ∧ 1 ≤ v ∧ v ≤ 5 ∧ b ≤ 20) ∨
  (w = 6 ∧ ∃ (f : List Int) (v : Int), ps = [tupD f, .int v] ∧ Asg f v ∧ 1 ≤ v ∧ v ≤ 5) ∨
  ((w = 7 ∨ w = 8) ∧ ∃ (f g : List Int), ps = [tupD f, tupD g] ∧ Asg f 5 ∧ Asg g 5 ∧ f.length = g.length) ∨
  (w = 9 ∧ ∃ (f g : List Int) (v : Int), ps = [tupD f, tupD g, .int v] ∧ Asg f v ∧ Asg g v ∧ f.length = g.length ∧ 1 ≤ v ∧ v ≤ 5) ∨
  (w = 10 ∧ ∃ (f : List Int) (v : Int), ps = [tupD f, .int v] ∧ Asg f 5 ∧ 0 ≤ v ∧ v ≤ 4) ∨
  (w = 11 ∧ ∃ (f os : List Int), ps = [tupD f, tupD os] ∧ Asg f 5 ∧ IsOrd os 5) ∨
  (w = 12 ∧ ∃ (f os : List Int), ps = [tupD f, tupD os] ∧ Asg f 5 ∧ IsOrd os (f.length : Int))
def B09 (w : Nat) (ps : List PyData) (nm : Str) : Prop :=
  (w = 0 ∧ Rc2 ps nm) ∨ (w = 1 ∧ RcM1 ps nm) ∨ (w = 2 ∧ RcAp ps nm) ∨ ((w = 3 ∨ w = 4) ∧ RcWt ps nm) ∨ (w = 5 ∧ RcOd ps nm) ∨ (w = 6 ∧ RcAo ps nm) ∨ ((w = 7 ∨ w = 8) ∧ RcPr ps nm) ∨
  (w = 9 ∧ RcFl ps nm) ∨ (w = 10 ∧ RcBk ps nm) ∨ (w = 11 ∧ RcRn ps nm) ∨ (w = 12 ∧ RcRr ps nm)
def sp__law_told09 (K : PySem.W.Frag) : Sp := spD K fun ds k d => ∃ (w : Nat) (row : List PyData), ds = [.str (wdS w), .list row] ∧ k = .v ∧ ((G09 w row ∧ d = .str "") ∨ ∃ nm, B09 w row nm ∧ d = .str nm)
/-- a word, good parts, wrong ones for each place, the names -/
structure Row09 (w : Nat) (gd : List PyData) (bd : List (List PyData)) (nms : List String) : Prop where
  l3 : gd.length ≤ 3
  lb : bd.length = gd.length
  ln : nms.length = gd.length
  few : ∀ b ∈ bd, 0 < b.length ∧ b.length ≤ 1000
  good : G09 w gd
  bad : ∀ k, k < gd.length → ∀ ps : List PyData, ps.length = gd.length → (∀ j < k, ps[j]? = gd[j]?) → (∃ x, ps[k]? = some x ∧ x ∈ bd.getD k []) → B09 w ps (Str.ofString (nms.getD k ""))
def rowD09 (w : Nat) (gd : List PyData) (bd : List (List PyData)) (nms : List String) : PyData := .tuple [.str (wdS w), .list gd, .list (bd.map .list), .list (nms.map fun s => .str (Str.ofString s))]
def RowP (d : PyData) : Prop := ∃ w gd bd nms, d = rowD09 w gd bd nms ∧ Row09 w gd bd nms
theorem row209 {w : Nat} {g0 g1 : PyData} {B0 B1 : List PyData} {n0 n1 : String} (f0 : 0 < B0.length ∧ B0.length ≤ 1000) (f1 : 0 < B1.length ∧ B1.length ≤ 1000) (hG : G09 w [g0, g1]) (h0 : ∀ x ∈ B0, ∀ y, B09 w [x, y] (Str.ofString n0)) (h1 : ∀ y ∈ B1, B09 w [g0, y] (Str.ofString n1)) : Row09 w [g0, g1] [B0, B1] [n0, n1] := by
  refine ⟨by simp, rfl, rfl, fun b hb => ?_, hG, fun k hk ps hl hj hx => ?_⟩
  · simp only [List.mem_cons, List.not_mem_nil, or_false] at hb
    rcases hb with rfl | rfl <;> assumption
  · obtain ⟨a, b, rfl⟩ : ∃ a b, ps = [a, b] := match ps, hl with | [a, b], _ => ⟨a, b, rfl⟩
    obtain ⟨x, hx, hm⟩ := hx
    match k, hk with
    | 0, _ =>
      cases hx
      exact h0 _ hm _
    | 1, _ =>
      cases hx
      have := hj 0 (by decide)
      cases this
      exact h1 _ hm
    | k + 2, h => simp at h; omega
theorem row309 {w : Nat} {g0 g1 g2 : PyData} {B0 B1 B2 : List PyData} {n0 n1 n2 : String} (f0 : 0 < B0.length ∧ B0.length ≤ 1000) (f1 : 0 < B1.length ∧ B1.length ≤ 1000) (f2 : 0 < B2.length ∧ B2.length ≤ 1000) (hG : G09 w [g0, g1, g2]) (h0 : ∀ x ∈ B0, ∀ y z, B09 w [x, y, z] (Str.ofString n0)) (h1 : ∀ y ∈ B1, ∀ z, B09 w [g0, y, z] (Str.ofString n1)) (h2 : ∀ z ∈ B2, B09 w [g0, g1, z] (Str.ofString n2)) : Row09 w [g0, g1, g2] [B0, B1, B2] [n0, n1, n2] := by
  refine ⟨by simp, rfl, rfl, fun b hb => ?_, hG, fun k hk ps hl hj hx => ?_⟩
  · simp only [List.mem_cons, List.not_mem_nil, or_false] at hb
    rcases hb with rfl | rfl | rfl <;> assumption
  · obtain ⟨a, b, c, rfl⟩ : ∃ a b c, ps = [a, b, c] := match ps, hl with | [a, b, c], _ => ⟨a, b, c, rfl⟩
    obtain ⟨x, hx, hm⟩ := hx
    match k, hk with
    | 0, _ =>
      cases hx
      exact h0 _ hm _ _
    | 1, _ =>
      cases hx
      have := hj 0 (by decide)
      cases this
      exact h1 _ hm _
    | 2, _ =>
      cases hx
      have := hj 0 (by decide)
      cases this
      have := hj 1 (by decide)
      cases this
      exact h2 _ hm
    | k + 3, h => simp at h; omega
/-! what is wrong -/
abbrev sD (s : String) : PyData := .str (Str.ofString s)
def bshL (as : List Int) : List PyData := [.none, .tuple [], tupD [1, 1, 1, 1, 1, 1], .list (as.map .int), tupD (as ++ [0, 0, 0, 0, 0, 0]), tupD [21], tupD [-1, 1], .tuple [.bool true], .tuple [sD "1"], tupD [10, 11]]
theorem bsh_bad {as : List Int} {x : PyData} (h : x ∈ bshL as) (hl : as.length ≤ 100) : SmallT x ∧ balB x = false := by
  unfold bshL at h
  simp only [List.mem_cons, List.not_mem_nil, or_false] at h
  rcases h with rfl | rfl | rfl | rfl | rfl | rfl | rfl | rfl | rfl | rfl
  · exact ⟨small_no rfl, rfl⟩
  · exact ⟨small_of (by decide), by decide⟩
  · exact ⟨small_of (by decide), by decide⟩
  · exact ⟨small_no rfl, rfl⟩
  · refine ⟨small_of (by simp; omega), ?_⟩
    unfold balB
    rw [lenT_ints]
    have : decide ((as ++ [0, 0, 0, 0, 0, 0]).length ≤ 5) = false := decide_eq_false (by simp)
    rw [this]
    simp
  · exact ⟨small_of (by decide), by decide⟩
  · exact ⟨small_of (by decide), by decide⟩
  · exact ⟨small_of (by decide), rfl⟩
  · exact ⟨small_of (by decide), rfl⟩
  · exact ⟨small_of (by decide), by decide⟩
def oshL (ini : List Int) (z : Int) : List PyData := [.none, .tuple [], tupD (ini ++ [z] ++ [0]), tupD ini, tupD (ini ++ [z + 1]), .list ((ini ++ [z]).map .int)]
theorem osh_bad {ini : List Int} {z v b : Int} {x : PyData} (h : x ∈ oshL ini z) (ha : Alc (ini ++ [z]) v b) (v5 : v ≤ 5) : SmallT x ∧ isAlloc x v b = false := by
  have l := ha.len
  have s := ha.sum
  rw [List.length_append] at l
  rw [List.sum_append] at s
  simp at l s
  unfold oshL at h
  simp only [List.mem_cons, List.not_mem_nil, or_false] at h
  rcases h with rfl | rfl | rfl | rfl | rfl | rfl
  · exact ⟨small_no rfl, rfl⟩
  · exact ⟨small_of (by decide), noal_len (by simp; omega)⟩
  · exact ⟨small_of (by simp; omega), noal_len (by simp; omega)⟩
  · exact ⟨small_of (by simp; omega), noal_len (by simp; omega)⟩
  · refine ⟨small_of (by simp; omega), ?_⟩
    unfold isAlloc
    rw [sumT_ints, List.sum_append]
    simp
    omega
  · exact ⟨small_no rfl, rfl⟩
theorem areInts_mem09 {ds : List PyData} {lo hi : Int} {x : PyData} (h : x ∈ ds) (hx : isIntD x lo hi = false) : areInts (.tuple ds) lo hi = false := by
  show ds.all (fun d => isIntD d lo hi) = false
  rw [List.all_eq_false]
  exact ⟨x, h, by rw [hx]; decide⟩
theorem noal_mem {ds : List PyData} {v b : Int} {x : PyData} (h : x ∈ ds) (hx : isIntD x 0 b = false) : isAlloc (.tuple ds) v b = false := by
  unfold isAlloc; rw [areInts_mem09 h hx]; rfl
theorem noas_mem {ds : List PyData} {v b : Int} {x : PyData} (h : x ∈ ds) (hx : isIntD x 0 (v - 1) = false) : isAsgB (.tuple ds) v b = false := by
  unfold isAsgB; rw [areInts_mem09 h hx]; rfl
theorem noas_len {ds : List PyData} {v b : Int} (h : (ds.length : Int) ≠ b) : isAsgB (.tuple ds) v b = false := by
  unfold isAsgB
  rw [show (lenT (.tuple ds)) = ds.length from rfl, decide_eq_false h, Bool.and_false]
def browL : List PyData := [.none, .list [.int 0], tupD [5], tupD [-1], .tuple [.bool true], .tuple [sD "0"], tupD (List.replicate 21 0), .tuple [.none]]
theorem brow_bad {x : PyData} (h : x ∈ browL) : SmallT x ∧ isBAsg x 5 = false := by
  unfold browL at h
  simp only [List.mem_cons, List.not_mem_nil, or_false] at h
  rcases h with rfl | rfl | rfl | rfl | rfl | rfl | rfl | rfl
  · exact ⟨small_no rfl, rfl⟩
  · exact ⟨small_no rfl, rfl⟩
  · exact ⟨small_of (by decide), by decide⟩
  · exact ⟨small_of (by decide), by decide⟩
  · exact ⟨small_of (by decide), rfl⟩
  · exact ⟨small_of (by decide), rfl⟩
  · exact ⟨small_of (by decide), by decide⟩
  · exact ⟨small_of (by decide), rfl⟩
def orowL (f : List Int) : List PyData := [.none, tupD (f ++ [0]), .list (f.map .int), tupD (List.replicate (f.length + 1) 5)]
theorem orow_bad {f : List Int} {x : PyData} (h : x ∈ orowL f) (hl : f.length ≤ 20) : SmallT x ∧ isAsgB x 5 (f.length : Int) = false := by
  unfold orowL at h
  simp only [List.mem_cons, List.not_mem_nil, or_false] at h
  rcases h with rfl | rfl | rfl | rfl
  · exact ⟨small_no rfl, rfl⟩
  · exact ⟨small_of (by simp; omega), noas_len (by simp; omega)⟩
  · exact ⟨small_no rfl, rfl⟩
  · exact ⟨small_of (by simp; omega), noas_len (by simp; omega)⟩
def oneL : List PyData := [.int 5, .int (-1), .bool true, .none, sD "0"]
def putX (f : List Int) (a : Nat) (x : PyData) : PyData := .tuple ((f.take a).map .int ++ [x] ++ (f.drop (a + 1)).map .int)
theorem put_bad {f : List Int} {a : Nat} {x : PyData} (h : x ∈ oneL) (hl : f.length ≤ 20) : SmallT (putX f a x) ∧ isAsgB (putX f a x) 5 (f.length : Int) = false := by
  refine ⟨small_of (by simp; omega), noas_mem (x := x) (by simp) ?_⟩
  unfold oneL at h
  simp only [List.mem_cons, List.not_mem_nil, or_false] at h
  rcases h with rfl | rfl | rfl | rfl | rfl <;> rfl
def bwtL : List PyData := [.none, .tuple [], tupD [0], tupD [0, 0], tupD [1000001], tupD [-1, 2], tupD [1, 1, 1, 1, 1, 1], .tuple [.bool true], .list [.int 1], .tuple [sD "1"]]
theorem bwt_bad {x : PyData} (h : x ∈ bwtL) : SmallT x ∧ wtsB x = false := by
  unfold bwtL at h
  simp only [List.mem_cons, List.not_mem_nil, or_false] at h
  rcases h with rfl | rfl | rfl | rfl | rfl | rfl | rfl | rfl | rfl | rfl
  · exact ⟨small_no rfl, rfl⟩
  · exact ⟨small_of (by decide), by decide⟩
  · exact ⟨small_of (by decide), by decide⟩
  · exact ⟨small_of (by decide), by decide⟩
  · exact ⟨small_of (by decide), by decide⟩
  · exact ⟨small_of (by decide), by decide⟩
  · exact ⟨small_of (by decide), by decide⟩
  · exact ⟨small_of (by decide), rfl⟩
  · exact ⟨small_no rfl, rfl⟩
  · exact ⟨small_of (by decide), rfl⟩
def bnumL : List PyData := [.int 0, .int 6, .none, .bool true, sD "1", .int (-1)]
theorem bnum_bad {x : PyData} {m : Int} (h : x ∈ bnumL) (m0 : 0 ≤ m) : isIntD x (m + 1) 5 = false := by
  unfold bnumL at h
  simp only [List.mem_cons, List.not_mem_nil, or_false] at h
  rcases h with rfl | rfl | rfl | rfl | rfl | rfl
  · simp [isIntD]; omega
  · simp [isIntD]
  · rfl
  · rfl
  · rfl
  · simp [isIntD]; omega
def bordL : List PyData := [.none, .list [.int 0, .int 1, .int 2, .int 3, .int 4], tupD [0, 1, 2, 3], tupD [0, 1, 2, 3, 3], tupD [1, 2, 3, 4, 5], .tuple [.int 0, .int 1, .int 2, .int 3, .bool true]]
theorem bord_bad {x : PyData} (h : x ∈ bordL) : SmallT x ∧ isOrdB x 5 = false := by
  unfold bordL at h
  simp only [List.mem_cons, List.not_mem_nil, or_false] at h
  rcases h with rfl | rfl | rfl | rfl | rfl | rfl
  · exact ⟨small_no rfl, rfl⟩
  · exact ⟨small_no rfl, rfl⟩
  · exact ⟨small_of (by decide), by decide⟩
  · exact ⟨small_of (by decide), by decide⟩
  · exact ⟨small_of (by decide), by decide⟩
  · exact ⟨small_of (by decide), rfl⟩
theorem noord_len {ds : List PyData} {m : Int} (h : (ds.length : Int) ≠ m) : isOrdB (.tuple ds) m = false := by
  unfold isOrdB
  rw [show (lenT (.tuple ds)) = ds.length from rfl, decide_eq_false h]
  simp
theorem noord_mem {ds : List PyData} {m : Int} {x : PyData} (h : x ∈ ds) (hx : isIntD x 0 (m - 1) = false) : isOrdB (.tuple ds) m = false := by
  unfold isOrdB; rw [areInts_mem09 h hx]; rfl
def bplL (ps : List Int) (b : Nat) : List PyData := [.none, .list (ps.map .int), tupD (ps ++ [(b : Int) + 1]), .tuple (List.replicate (max b 1) (.bool true)), tupD (List.replicate (b + 2) 0)]
theorem bpl_bad {ps : List Int} {b : Nat} {x : PyData} (h : x ∈ bplL ps b) (hl : ps.length = b) (b20 : b ≤ 20) : SmallT x ∧ isOrdB x (b : Int) = false := by
  unfold bplL at h
  simp only [List.mem_cons, List.not_mem_nil, or_false] at h
  rcases h with rfl | rfl | rfl | rfl | rfl
  · exact ⟨small_no rfl, rfl⟩
  · exact ⟨small_no rfl, rfl⟩
  · exact ⟨small_of (by simp; omega), noord_len (by simp; omega)⟩
  · refine ⟨small_of (by simp; omega), noord_mem (x := .bool true) ?_ rfl⟩
    rw [List.mem_replicate]
    exact ⟨by omega, rfl⟩
  · exact ⟨small_of (by simp; omega), noord_len (by simp; omega)⟩
def bosL (v : Nat) : List PyData := [.none, tupD (List.replicate (v + 1) 0), .list ((upI 0 v).map .int), tupD (List.replicate v 1)]
theorem bos_bad {v : Nat} {x : PyData} (h : x ∈ bosL v) (v1 : 1 ≤ v) (v5 : v ≤ 5) : SmallT x ∧ isOrdB x (v : Int) = false := by
  unfold bosL at h
  simp only [List.mem_cons, List.not_mem_nil, or_false] at h
  rcases h with rfl | rfl | rfl | rfl
  · exact ⟨small_no rfl, rfl⟩
  · exact ⟨small_of (by simp; omega), noord_len (by simp; omega)⟩
  · exact ⟨small_no rfl, rfl⟩
  · refine ⟨small_of (by simp; omega), ?_⟩
    rcases (show v = 1 ∨ v = 2 ∨ v = 3 ∨ v = 4 ∨ v = 5 by omega) with rfl | rfl | rfl | rfl | rfl <;> decide
def bbkL : List PyData := [.int 5, .int (-1), .none, .bool true, sD "0"]
theorem bbk_bad {x : PyData} (h : x ∈ bbkL) : isIntD x 0 4 = false := by
  unfold bbkL at h
  simp only [List.mem_cons, List.not_mem_nil, or_false] at h
  rcases h with rfl | rfl | rfl | rfl | rfl <;> rfl
def bapL : List PyData := [.int (-1), .int 21, .none, .bool true, sD "1"]
theorem bap_bad {x : PyData} (h : x ∈ bapL) : isIntD x 0 20 = false := by
  unfold bapL at h
  simp only [List.mem_cons, List.not_mem_nil, or_false] at h
  rcases h with rfl | rfl | rfl | rfl | rfl <;> rfl
def bctL (m : Int) : List PyData := [.int 0, .int 6, .none, .bool true, sD "1", .int m]
end Lm
namespace Lm
open PySem PySem.Spec PyProof.Rows L2
theorem wd_ne : ∀ w < 13, ∀ i < 13, decide (V.str (wdS w) = V.str (wdS i)) = decide (w = i) := by decide +kernel
end Lm
namespace Lm
open PySem PySem.Spec PyProof.Rows L2
theorem fold_max : ∀ (t : List Int) (x : Int), (t.foldl max x = x ∨ t.foldl max x ∈ t) ∧ x ≤ t.foldl max x ∧ ∀ y ∈ t, y ≤ t.foldl max x
  | [], x => ⟨.inl rfl, Int.le_refl _, fun y hy => by cases hy⟩
  | a :: t, x => by
    obtain ⟨h1, h2, h3⟩ := fold_max t (max x a)
    rw [List.foldl_cons]
    refine ⟨?_, by omega, fun y hy => ?_⟩
    · rcases h1 with w | w
      · rw [w]
        rcases (show max x a = x ∨ max x a = a by omega) with z | z
        · exact .inl z
        · rw [z]; exact .inr (by simp)
      · exact .inr (by simp [w])
    · rcases List.mem_cons.mp hy with w | w
      · omega
      · exact h3 y w
/-- the greatest of some numbers and 0 -/
theorem max_zero (L : List Int) : ∃ x t, L ++ [0] = x :: t ∧ (t.foldl max x ∈ L ∨ t.foldl max x = 0) ∧ 0 ≤ t.foldl max x ∧ ∀ y ∈ L, y ≤ t.foldl max x := by
  obtain ⟨x, t, e⟩ : ∃ x t, L ++ [0] = x :: t := by cases L with
    | nil => exact ⟨0, [], rfl⟩
    | cons a L => exact ⟨a, L ++ [0], rfl⟩
  obtain ⟨h1, h2, h3⟩ := fold_max t x
  have mem : ∀ y, y ∈ L ++ [0] ↔ y = x ∨ y ∈ t := fun y => by rw [e, List.mem_cons]
  have all : ∀ y ∈ L ++ [0], y ≤ t.foldl max x := fun y hy => by
    rcases (mem y).mp hy with w | w
    · rw [w]; exact h2
    · exact h3 y w
  refine ⟨x, t, e, ?_, all 0 (by simp), fun y hy => all y (by simp [hy])⟩
  have : t.foldl max x ∈ L ++ [0] := (mem _).mpr h1
  rcases List.mem_append.mp this with w | w
  · exact .inl w
  · exact .inr (by simpa using w)
theorem bct_bad2 {x : PyData} {M m : Int} (h : x ∈ bctL M) (m0 : 0 ≤ m) (le : M ≤ m) : isIntD x (m + 1) 5 = false := by
  unfold bctL at h
  simp only [List.mem_cons, List.not_mem_nil, or_false] at h
  rcases h with rfl | rfl | rfl | rfl | rfl | rfl
  · simp [isIntD]; omega
  · simp [isIntD]
  · rfl
  · rfl
  · rfl
  · simp [isIntD]; omega
theorem put_bal {as : List Int} {a : Nat} : SmallT (putX as a (.bool true)) → isAlloc (putX as a (.bool true)) v b = false := fun _ => noal_mem (x := .bool true) (by simp) rfl
def sp__law_rows09 (K : PySem.W.Frag) : Sp := spS K fun ds k P => ds = [] ∧ k = .b ∧ P = fun d => ∃ ds, d = .list ds ∧ ∀ r ∈ ds, RowP r
end Lm
namespace Lm
open PySem PySem.Spec PyProof.Rows L2
theorem mxOf_ge : ∀ (ns : List Int) (m : Int), m ≤ mxOf m ns ∧ ∀ n ∈ ns, n ≤ mxOf m ns
  | [], m => ⟨Int.le_refl _, fun n h => by cases h⟩
  | a :: ns, m => by
    obtain ⟨h1, h2⟩ := mxOf_ge ns (if a > m then a else m)
    show m ≤ mxOf (if a > m then a else m) ns ∧ ∀ n ∈ a :: ns, n ≤ mxOf (if a > m then a else m) ns
    have k : m ≤ (if a > m then a else m) ∧ a ≤ (if a > m then a else m) := by
      by_cases q : a > m
      · rw [if_pos q]; exact ⟨by omega, Int.le_refl _⟩
      · rw [if_neg q]; exact ⟨Int.le_refl _, by omega⟩
    refine ⟨Int.le_trans k.1 h1, fun n hn => ?_⟩
    rcases List.mem_cons.mp hn with w | w
    · rw [w]; exact Int.le_trans k.2 h1
    · exact h2 n w
theorem mxD_ge {ns : List Int} {d : Int} : ∀ n ∈ ns, n ≤ mxD d ns := by
  cases ns with
  | nil => intro n h; cases h
  | cons a ns =>
    intro n hn
    obtain ⟨h1, h2⟩ := mxOf_ge ns a
    rcases List.mem_cons.mp hn with w | w
    · rw [w]; exact h1
    · exact h2 n w
theorem mxD_nn {ns : List Int} (h : ∀ n ∈ ns, 0 ≤ n) : 0 ≤ mxD 0 ns := by
  cases ns with
  | nil => exact Int.le_refl _
  | cons a ns => have := mxD_ge (d := 0) (ns := a :: ns) a (by simp); have := h a (by simp); omega
end Lm
namespace Lm
open PySem PySem.Spec PyProof.Rows L2
theorem EvW.to09 {c : Ct} {te : TE} {Γ : List (Option Rs)} {ds es : List PyData} (h : EvW c te Γ ds) (e : ds = es) : EvW c te Γ es := e ▸ h
end Lm


/-! the edges of k09 -/
namespace Lm
open PySem PySem.Spec PyProof.Rows L2
def egD (w : Nat) (row : List PyData) : PyData := .tuple [.str (wdS w), .list row]
def ed9L : List PyData := [egD 0 [tupD [20, 0, 0, 0, 0], tupD [4, 4, 4, 4, 4]], egD 2 [tupD (List.replicate 5 1000000), .int 20], egD 7 [tupD (List.replicate 20 4), tupD (List.replicate 20 0)], egD 6 [tupD [], .int 1], egD 6 [tupD (List.replicate 20 4), .int 5]]
theorem asg_rep (n : Nat) (x v : Int) (hn : n ≤ 20) (h0 : 0 ≤ x) (h1 : x < v) : Asg (List.replicate n x) v := ⟨by rw [List.length_replicate]; exact hn, fun y hy => by rw [List.eq_of_mem_replicate hy]; exact ⟨h0, h1⟩⟩
theorem edg_good : ∀ x ∈ ed9L, ∃ w row, x = egD w row ∧ G09 w row := by
  intro x hx
  simp only [ed9L, List.mem_cons, List.not_mem_nil, or_false] at hx
  rcases hx with rfl | rfl | rfl | rfl | rfl
  · exact ⟨0, _, rfl, .inl ⟨rfl, [20, 0, 0, 0, 0], [4, 4, 4, 4, 4], 5, 20, rfl, ⟨rfl, by decide, by decide⟩, ⟨rfl, by decide, by decide⟩, by decide, by decide, by decide⟩⟩
  · exact ⟨2, _, rfl, .inr (.inr (.inl ⟨rfl, List.replicate 5 1000000, 20, rfl, ⟨by decide, by decide, by decide, by decide⟩, by decide, by decide⟩))⟩
  · exact ⟨7, _, rfl, .inr (.inr (.inr (.inr (.inr (.inr (.inl ⟨.inl rfl, List.replicate 20 4, List.replicate 20 0, rfl, asg_rep _ _ _ (by decide) (by decide) (by decide), asg_rep _ _ _ (by decide) (by decide) (by decide), by simp⟩))))))⟩
  · exact ⟨6, _, rfl, .inr (.inr (.inr (.inr (.inr (.inl ⟨rfl, [], 1, rfl, ⟨by decide, fun n h => by cases h⟩, by decide, by decide⟩)))))⟩
  · exact ⟨6, _, rfl, .inr (.inr (.inr (.inr (.inr (.inl ⟨rfl, List.replicate 20 4, 5, rfl, asg_rep _ _ _ (by decide) (by decide) (by decide), by decide, by decide⟩)))))⟩
end Lm


/-! the program's own text, by places -/
namespace W
open PySem PySem.Spec PyProof.Rows L2 Lm
def topS (i : Nat) : Stmt := PySem.Challenge.pw_leastmoved_k09_refusals_of_assignments.main.body.getD i (.Pass ⟨0, 0, 0, 0⟩)
abbrev s_is_integer : Stmt := topS 7
abbrev n_is_integer : List Str := ["value", "least", "greatest"]
abbrev p_is_integer : List Str := ["value", "least", "greatest"]
theorem sc_is_integer : FnScope n_is_integer p_is_integer (defScope s_is_integer) := ⟨rfl, rfl, rfl, by decide +kernel, rfl, by decide +kernel, by decide +kernel⟩
abbrev s_are_integers : Stmt := topS 8
abbrev n_are_integers : List Str := ["value", "least", "greatest", "part"]
abbrev p_are_integers : List Str := ["value", "least", "greatest"]
theorem sc_are_integers : FnScope n_are_integers p_are_integers (defScope s_are_integers) := ⟨rfl, rfl, rfl, by decide +kernel, rfl, by decide +kernel, by decide +kernel⟩
abbrev s_require : Stmt := topS 9
abbrev n_require : List Str := ["holds", "name"]
abbrev p_require : List Str := ["holds", "name"]
theorem sc_require : FnScope n_require p_require (defScope s_require) := ⟨rfl, rfl, rfl, by decide +kernel, rfl, by decide +kernel, by decide +kernel⟩
abbrev s_in_lowest_terms : Stmt := topS 11
abbrev n_in_lowest_terms : List Str := ["number", "divisor", "common"]
abbrev p_in_lowest_terms : List Str := ["number", "divisor"]
theorem sc_in_lowest_terms : FnScope n_in_lowest_terms p_in_lowest_terms (defScope s_in_lowest_terms) := ⟨rfl, rfl, rfl, by decide +kernel, rfl, by decide +kernel, by decide +kernel⟩
abbrev s_is_allocation : Stmt := topS 14
abbrev n_is_allocation : List Str := ["value", "variants", "buckets"]
abbrev p_is_allocation : List Str := ["value", "variants", "buckets"]
theorem sc_is_allocation : FnScope n_is_allocation p_is_allocation (defScope s_is_allocation) := ⟨rfl, rfl, rfl, by decide +kernel, rfl, by decide +kernel, by decide +kernel⟩
abbrev s_is_bounded_allocation : Stmt := topS 15
abbrev n_is_bounded_allocation : List Str := ["value"]
abbrev p_is_bounded_allocation : List Str := ["value"]
theorem sc_is_bounded_allocation : FnScope n_is_bounded_allocation p_is_bounded_allocation (defScope s_is_bounded_allocation) := ⟨rfl, rfl, rfl, by decide +kernel, rfl, by decide +kernel, by decide +kernel⟩
abbrev s_is_order : Stmt := topS 16
abbrev n_is_order : List Str := ["value", "many"]
abbrev p_is_order : List Str := ["value", "many"]
theorem sc_is_order : FnScope n_is_order p_is_order (defScope s_is_order) := ⟨rfl, rfl, rfl, by decide +kernel, rfl, by decide +kernel, by decide +kernel⟩
abbrev s_are_weights : Stmt := topS 17
abbrev n_are_weights : List Str := ["value"]
abbrev p_are_weights : List Str := ["value"]
theorem sc_are_weights : FnScope n_are_weights p_are_weights (defScope s_are_weights) := ⟨rfl, rfl, rfl, by decide +kernel, rfl, by decide +kernel, by decide +kernel⟩
abbrev s_check_allocation : Stmt := topS 18
abbrev n_check_allocation : List Str := ["value", "name"]
abbrev p_check_allocation : List Str := ["value", "name"]
theorem sc_check_allocation : FnScope n_check_allocation p_check_allocation (defScope s_check_allocation) := ⟨rfl, rfl, rfl, by decide +kernel, rfl, by decide +kernel, by decide +kernel⟩
abbrev s_check_alike : Stmt := topS 19
abbrev n_check_alike : List Str := ["value", "first", "name"]
abbrev p_check_alike : List Str := ["value", "first", "name"]
theorem sc_check_alike : FnScope n_check_alike p_check_alike (defScope s_check_alike) := ⟨rfl, rfl, rfl, by decide +kernel, rfl, by decide +kernel, by decide +kernel⟩
abbrev s_check_weighted : Stmt := topS 20
abbrev n_check_weighted : List Str := ["weights", "allocation"]
abbrev p_check_weighted : List Str := ["weights", "allocation"]
theorem sc_check_weighted : FnScope n_check_weighted p_check_weighted (defScope s_check_weighted) := ⟨rfl, rfl, rfl, by decide +kernel, rfl, by decide +kernel, by decide +kernel⟩
abbrev s_transfer : Stmt := topS 21
abbrev n_transfer : List Str := ["first", "second", "old", "new"]
abbrev p_transfer : List Str := ["first", "second"]
theorem sc_transfer : FnScope n_transfer p_transfer (defScope s_transfer) := ⟨rfl, rfl, rfl, by decide +kernel, rfl, by decide +kernel, by decide +kernel⟩
abbrev s_medians : Stmt := topS 22
abbrev n_medians : List Str := ["first", "second", "third", "shares"]
abbrev p_medians : List Str := ["first", "second", "third"]
theorem sc_medians : FnScope n_medians p_medians (defScope s_medians) := ⟨rfl, rfl, rfl, by decide +kernel, rfl, by decide +kernel, by decide +kernel⟩
abbrev s_rests_of : Stmt := topS 23
abbrev n_rests_of : List Str := ["weights", "buckets", "weight"]
abbrev p_rests_of : List Str := ["weights", "buckets"]
theorem sc_rests_of : FnScope n_rests_of p_rests_of (defScope s_rests_of) := ⟨rfl, rfl, rfl, by decide +kernel, rfl, by decide +kernel, by decide +kernel⟩
abbrev s_by_largest_rests : Stmt := topS 24
abbrev n_by_largest_rests : List Str := ["weights", "buckets", "rests", "shares", "weight", "by_rest", "variant", "rest", "_"]
abbrev p_by_largest_rests : List Str := ["weights", "buckets"]
theorem sc_by_largest_rests : FnScope n_by_largest_rests p_by_largest_rests (defScope s_by_largest_rests) := ⟨rfl, rfl, rfl, by decide +kernel, rfl, by decide +kernel, by decide +kernel⟩
abbrev s_apportioned : Stmt := topS 25
abbrev n_apportioned : List Str := ["weights", "buckets"]
abbrev p_apportioned : List Str := ["weights", "buckets"]
theorem sc_apportioned : FnScope n_apportioned p_apportioned (defScope s_apportioned) := ⟨rfl, rfl, rfl, by decide +kernel, rfl, by decide +kernel, by decide +kernel⟩
abbrev s_surpluses : Stmt := topS 26
abbrev n_surpluses : List Str := ["weights", "allocation", "buckets", "weight", "share"]
abbrev p_surpluses : List Str := ["weights", "allocation"]
theorem sc_surpluses : FnScope n_surpluses p_surpluses (defScope s_surpluses) := ⟨rfl, rfl, rfl, by decide +kernel, rfl, by decide +kernel, by decide +kernel⟩
abbrev s_deviation : Stmt := topS 27
abbrev n_deviation : List Str := ["weights", "allocation", "distance", "surplus"]
abbrev p_deviation : List Str := ["weights", "allocation"]
theorem sc_deviation : FnScope n_deviation p_deviation (defScope s_deviation) := ⟨rfl, rfl, rfl, by decide +kernel, rfl, by decide +kernel, by decide +kernel⟩
abbrev s_is_nearest : Stmt := topS 28
abbrev n_is_nearest : List Str := ["weights", "allocation", "over", "surplus", "rests", "rounded_up", "rest", "rounded_down"]
abbrev p_is_nearest : List Str := ["weights", "allocation"]
theorem sc_is_nearest : FnScope n_is_nearest p_is_nearest (defScope s_is_nearest) := ⟨rfl, rfl, rfl, by decide +kernel, rfl, by decide +kernel, by decide +kernel⟩
abbrev s_placed : Stmt := topS 29
abbrev n_placed : List Str := ["parts", "order", "place"]
abbrev p_placed : List Str := ["parts", "order"]
theorem sc_placed : FnScope n_placed p_placed (defScope s_placed) := ⟨rfl, rfl, rfl, by decide +kernel, rfl, by decide +kernel, by decide +kernel⟩
abbrev s_renamed_shares : Stmt := topS 30
abbrev n_renamed_shares : List Str := ["allocation", "order"]
abbrev p_renamed_shares : List Str := ["allocation", "order"]
theorem sc_renamed_shares : FnScope n_renamed_shares p_renamed_shares (defScope s_renamed_shares) := ⟨rfl, rfl, rfl, by decide +kernel, rfl, by decide +kernel, by decide +kernel⟩
abbrev s_is_assignment : Stmt := topS 32
abbrev n_is_assignment : List Str := ["value", "variants", "buckets"]
abbrev p_is_assignment : List Str := ["value", "variants", "buckets"]
theorem sc_is_assignment : FnScope n_is_assignment p_is_assignment (defScope s_is_assignment) := ⟨rfl, rfl, rfl, by decide +kernel, rfl, by decide +kernel, by decide +kernel⟩
abbrev s_is_bounded_assignment : Stmt := topS 33
abbrev n_is_bounded_assignment : List Str := ["value", "variants"]
abbrev p_is_bounded_assignment : List Str := ["value", "variants"]
theorem sc_is_bounded_assignment : FnScope n_is_bounded_assignment p_is_bounded_assignment (defScope s_is_bounded_assignment) := ⟨rfl, rfl, rfl, by decide +kernel, rfl, by decide +kernel, by decide +kernel⟩
abbrev s_check_assignment : Stmt := topS 34
abbrev n_check_assignment : List Str := ["value", "name"]
abbrev p_check_assignment : List Str := ["value", "name"]
theorem sc_check_assignment : FnScope n_check_assignment p_check_assignment (defScope s_check_assignment) := ⟨rfl, rfl, rfl, by decide +kernel, rfl, by decide +kernel, by decide +kernel⟩
abbrev s_check_pair : Stmt := topS 35
abbrev n_check_pair : List Str := ["first", "second"]
abbrev p_check_pair : List Str := ["first", "second"]
theorem sc_check_pair : FnScope n_check_pair p_check_pair (defScope s_check_pair) := ⟨rfl, rfl, rfl, by decide +kernel, rfl, by decide +kernel, by decide +kernel⟩
abbrev s_check_enough : Stmt := topS 36
abbrev n_check_enough : List Str := ["variants", "assignment", "least"]
abbrev p_check_enough : List Str := ["variants", "assignment"]
theorem sc_check_enough : FnScope n_check_enough p_check_enough (defScope s_check_enough) := ⟨rfl, rfl, rfl, by decide +kernel, rfl, by decide +kernel, by decide +kernel⟩
abbrev s_allocation_of : Stmt := topS 37
abbrev n_allocation_of : List Str := ["assignment", "variants", "variant"]
abbrev p_allocation_of : List Str := ["assignment", "variants"]
theorem sc_allocation_of : FnScope n_allocation_of p_allocation_of (defScope s_allocation_of) := ⟨rfl, rfl, rfl, by decide +kernel, rfl, by decide +kernel, by decide +kernel⟩
abbrev s_churn : Stmt := topS 38
abbrev n_churn : List Str := ["first", "second"]
abbrev p_churn : List Str := ["first", "second"]
theorem sc_churn : FnScope n_churn p_churn (defScope s_churn) := ⟨rfl, rfl, rfl, by decide +kernel, rfl, by decide +kernel, by decide +kernel⟩
abbrev s_moves : Stmt := topS 39
abbrev n_moves : List Str := ["first", "second", "bucket", "old", "new"]
abbrev p_moves : List Str := ["first", "second"]
theorem sc_moves : FnScope n_moves p_moves (defScope s_moves) := ⟨rfl, rfl, rfl, by decide +kernel, rfl, by decide +kernel, by decide +kernel⟩
abbrev s_flows : Stmt := topS 40
abbrev n_flows : List Str := ["first", "second", "variants", "pairs", "new", "old"]
abbrev p_flows : List Str := ["first", "second", "variants"]
theorem sc_flows : FnScope n_flows p_flows (defScope s_flows) := ⟨rfl, rfl, rfl, by decide +kernel, rfl, by decide +kernel, by decide +kernel⟩
abbrev s_buckets_of : Stmt := topS 41
abbrev n_buckets_of : List Str := ["assignment", "variant", "bucket", "own"]
abbrev p_buckets_of : List Str := ["assignment", "variant"]
theorem sc_buckets_of : FnScope n_buckets_of p_buckets_of (defScope s_buckets_of) := ⟨rfl, rfl, rfl, by decide +kernel, rfl, by decide +kernel, by decide +kernel⟩
abbrev s_renamed : Stmt := topS 42
abbrev n_renamed : List Str := ["assignment", "order", "variant"]
abbrev p_renamed : List Str := ["assignment", "order"]
theorem sc_renamed : FnScope n_renamed p_renamed (defScope s_renamed) := ⟨rfl, rfl, rfl, by decide +kernel, rfl, by decide +kernel, by decide +kernel⟩
abbrev s_rearranged : Stmt := topS 43
abbrev n_rearranged : List Str := ["assignment", "order"]
abbrev p_rearranged : List Str := ["assignment", "order"]
theorem sc_rearranged : FnScope n_rearranged p_rearranged (defScope s_rearranged) := ⟨rfl, rfl, rfl, by decide +kernel, rfl, by decide +kernel, by decide +kernel⟩
abbrev s__law_stream : Stmt := topS 45
abbrev n__law_stream : List Str := ["script"]
abbrev p__law_stream : List Str := ["script"]
theorem sc__law_stream : FnScope n__law_stream p__law_stream (defScope s__law_stream) := ⟨rfl, rfl, rfl, by decide +kernel, rfl, by decide +kernel, by decide +kernel⟩
abbrev s__law_next : Stmt := topS 46
abbrev n__law_next : List Str := ["stream", "many", "k", "cell", "digit"]
abbrev p__law_next : List Str := ["stream", "many"]
theorem sc__law_next : FnScope n__law_next p__law_next (defScope s__law_next) := ⟨rfl, rfl, rfl, by decide +kernel, rfl, by decide +kernel, by decide +kernel⟩
abbrev s__law_pick : Stmt := topS 47
abbrev n__law_pick : List Str := ["stream", "rows"]
abbrev p__law_pick : List Str := ["stream", "rows"]
theorem sc__law_pick : FnScope n__law_pick p__law_pick (defScope s__law_pick) := ⟨rfl, rfl, rfl, by decide +kernel, rfl, by decide +kernel, by decide +kernel⟩
abbrev s__law_allocation : Stmt := topS 48
abbrev n__law_allocation : List Str := ["stream", "variants", "buckets", "found", "variant", "bucket"]
abbrev p__law_allocation : List Str := ["stream", "variants", "buckets"]
theorem sc__law_allocation : FnScope n__law_allocation p__law_allocation (defScope s__law_allocation) := ⟨rfl, rfl, rfl, by decide +kernel, rfl, by decide +kernel, by decide +kernel⟩
abbrev s__law_assignment : Stmt := topS 49
abbrev n__law_assignment : List Str := ["stream", "variants", "buckets", "bucket"]
abbrev p__law_assignment : List Str := ["stream", "variants", "buckets"]
theorem sc__law_assignment : FnScope n__law_assignment p__law_assignment (defScope s__law_assignment) := ⟨rfl, rfl, rfl, by decide +kernel, rfl, by decide +kernel, by decide +kernel⟩
abbrev s__law_order : Stmt := topS 50
abbrev n__law_order : List Str := ["stream", "many", "left", "k"]
abbrev p__law_order : List Str := ["stream", "many"]
theorem sc__law_order : FnScope n__law_order p__law_order (defScope s__law_order) := ⟨rfl, rfl, rfl, by decide +kernel, rfl, by decide +kernel, by decide +kernel⟩
abbrev s__law_told : Stmt := topS 51
abbrev n__law_told : List Str := ["word", "parts", "problem"]
abbrev p__law_told : List Str := ["word", "parts"]
theorem sc__law_told : FnScope n__law_told p__law_told (defScope s__law_told) := ⟨rfl, rfl, rfl, by decide +kernel, rfl, by decide +kernel, by decide +kernel⟩
abbrev s__law_rows : Stmt := topS 52
abbrev n__law_rows : List Str := ["stream", "variants", "buckets", "shares", "k", "rows", "bad_shares", "other_shares", "at", "bad_rows", "other_rows", "one", "weights", "bad_weights", "bad_number", "bad_order", "places", "bad_places", "found", "word", "least"]
abbrev p__law_rows : List Str := ["stream"]
theorem sc__law_rows : FnScope n__law_rows p__law_rows (defScope s__law_rows) := ⟨rfl, rfl, rfl, by decide +kernel, rfl, by decide +kernel, by decide +kernel⟩
abbrev s_law : Stmt := topS 53
abbrev n_law : List Str := ["script", "stream", "word", "good", "bad", "names", "k", "wrong", "rows", "edges", "parts"]
abbrev p_law : List Str := ["script"]
theorem sc_law : FnScope n_law p_law (defScope s_law) := ⟨rfl, rfl, rfl, by decide +kernel, rfl, by decide +kernel, by decide +kernel⟩
abbrev s_ini_BadValue : Stmt := inClass (topS 3) 0
-- _law_told: stmt Try
structure Txt (mg : Str → Option Value) : Prop where
  b_ValueError : mg "ValueError" = none
  b_abs : mg "abs" = none
  b_all : mg "all" = none
  b_bool : mg "bool" = none
  b_enumerate : mg "enumerate" = none
  b_int : mg "int" = none
  b_isinstance : mg "isinstance" = none
  b_len : mg "len" = none
  b_list : mg "list" = none
  b_max : mg "max" = none
  b_min : mg "min" = none
  b_range : mg "range" = none
  b_set : mg "set" = none
  b_sorted : mg "sorted" = none
  b_sum : mg "sum" = none
  b_tuple : mg "tuple" = none
  b_zip : mg "zip" = none
  k_MOST_VARIANTS : ∃ t, mg "MOST_VARIANTS" = some (.int 5 t)
  k_MOST_BUCKETS : ∃ t, mg "MOST_BUCKETS" = some (.int 20 t)
  k_GREATEST_WEIGHT : ∃ t, mg "GREATEST_WEIGHT" = some (.int 1000000 t)
  i_gcd : mg "gcd" = some (.builtin "math.gcd")
end W

namespace W
open PySem PySem.Spec PyProof.Rows L2 Lm
theorem ok_is_integer {P : Program} {w : World} {K : PySem.W.Frag} {mg : Str → Option Value} {base : Heap} {f : Addr} {fd : FuncData} (F : Fun K "is_integer" "is_integer" s_is_integer f fd) (T : Txt mg) :
    FnOk P w K mg base CX0 1 f fd p_is_integer (sp_is_integer K) := by
  refine F.ok sc_is_integer (fun vs H Q E h => spD_len h (by rintro ds k d ⟨x, lo, hi, rfl, _⟩; rfl)) (fun cdv A outer s H vs Q E hr h => ⟨_, (pss_cons (ps_if (PW.pt (pw_or (pt_not (pt_val (pe_callB (k_isi (K := K) rfl) rfl T.b_isinstance (by decide +kernel) (pa_cons (pv 0) (pa_cons (pe_ty (n := "int") rfl T.b_int (by decide +kernel)) pa_nil))))) (pw_or1 (pt_val (pe_callB (k_isi (K := K) rfl) rfl T.b_isinstance (by decide +kernel) (pa_cons (pv 0) (pa_cons (pe_ty (n := "bool") rfl T.b_bool (by decide +kernel)) pa_nil))))))) (pss_one (ps_ret pe_bl)) pss_nil)
      (pss_one (ps_ret (pe_chain op_le op_le (pv 1) (pv 0) (pv 2))))), run_pure (N := n_is_integer) (fun ds k d hp => ?_) h⟩)
  obtain ⟨x, lo, hi, rfl, rfl, rfl⟩ := hp
  refine q_if (t_or (t_not (t_B (e_isi (d_var rfl) (kit_int x)))) fun _ => t_B (e_isi (d_var rfl) (kit_bool x))) (fun h => ?_) fun h => q_next ?_
  · refine q_ret d_bl (.inr ⟨rfl, rfl⟩) (.inl ?_)
    cases x <;> first | rfl | (simp [isIntTy, isBoolTy] at h)
  · cases x with
    | int i => exact s_ret (d_chain (d_var rfl) (d_var rfl) fun _ => d_var rfl) (.inr ⟨rfl, rfl⟩) (.inl rfl)
    | _ => simp [isIntTy, isBoolTy] at h

theorem ok_are_integers {P : Program} {w : World} {K : PySem.W.Frag} {mg : Str → Option Value} {base : Heap} {f : Addr} {fd : FuncData} (F : Fun K "are_integers" "are_integers" s_are_integers f fd) (T : Txt mg) (c_is_integer : Cal P w K mg base CX0 1 "is_integer" p_is_integer (sp_is_integer K)) :
    FnOk P w K mg base CX0 2 f fd p_are_integers (sp_are_integers K) := by
  refine F.ok sc_are_integers (fun vs H Q E h => spD_len h (by rintro ds k d ⟨x, lo, hi, rfl, _⟩; rfl)) (fun cdv A outer s H vs Q E hr h => ⟨_, (pss_one (ps_ret (pe_and (pe_callB (k_isi (K := K) rfl) rfl T.b_isinstance (by decide +kernel) (pa_cons (pv 0) (pa_cons (pe_ty (n := "tuple") rfl T.b_tuple (by decide +kernel)) pa_nil))) (pe_one (pe_callB (k_all (K := K) rfl rfl) rfl T.b_all (by decide +kernel) (pa_cons (pe_lc rfl sc_are_integers.nd (k_seq (K := K) rfl (pv 0)) (blkOk_by (own := [("part", 3)]) (N := n_are_integers) (sc := defScope s_are_integers) (by decide +kernel)) (fun _ _ _ _ _ => by exact (pg_name (i := 3) sc_are_integers.nd rfl (Or.inl rfl))) (fun _ _ _ _ _ => by exact pts_nil) (fun _ _ _ _ _ => by exact (pe_cal c_is_integer (hr.mono (by decide)) rfl pass0 (pa_cons (pv 3) (pa_cons (pv 1) (pa_cons (pv 2) pa_nil)))))) pa_nil)))))), run_pure (N := n_are_integers) (fun ds k d hp => ?_) h⟩)
  obtain ⟨x, lo, hi, rfl, hx, rfl, rfl⟩ := hp
  refine s_ret ((d_andV (b := areInts x lo hi) (e_isi (d_var rfl) (kit_tuple x)) fun hx' => ?_).to ?_) (.inr ⟨rfl, rfl⟩) (.inl rfl)
  · cases x with
    | tuple es =>
      refine (d_all (d_lcB (fun d => isIntD d lo hi) (i_seqT (d_var rfl) (by intro h; cases h)) (hx es rfl) fun a _ => ⟨_, _, g_name, fun j hj => hj, _, d_call (a_cons (d_var rfl) (a_cons (d_var rfl) (a_cons (d_var rfl) a_nil))) ⟨a, lo, hi, rfl, rfl, rfl⟩⟩)).to ?_
      show PyData.bool _ = .bool (es.all fun d => isIntD d lo hi)
      rw [List.all_map]
      rfl
    | _ => simp [isTupTy] at hx'
  · cases x <;> simp [isTupTy, areInts]

theorem ok_require {P : Program} {w : World} {K : PySem.W.Frag} {mg : Str → Option Value} {base : Heap} {f : Addr} {fd : FuncData} (F : Fun K "require" "require" s_require f fd) (T : Txt mg) :
    FnOk P w K mg base CX0 1 f fd p_require (sp_require K) := by
  refine F.ok sc_require (fun vs H Q E h => spD_len h (by rintro ds k d ⟨nm, rfl, _⟩; rfl)) (fun cdv A outer s H vs Q E hr h => ⟨_, (pss_one (ps_if (pt_not (pt_val (pv 0))) (pss_one ps_never) pss_nil)), run_pure (N := n_require) (fun ds k d hp => ?_) h⟩)
  obtain ⟨nm, rfl, rfl, rfl⟩ := hp
  exact s_no ((t_not (t_B (d_var (d := .bool true) rfl))).to rfl) (s_next (.inr ⟨rfl, rfl, _, rfl⟩))

theorem ok_in_lowest_terms {P : Program} {w : World} {K : PySem.W.Frag} {mg : Str → Option Value} {base : Heap} {f : Addr} {fd : FuncData} (F : Fun K "in_lowest_terms" "in_lowest_terms" s_in_lowest_terms f fd) (T : Txt mg) :
    FnOk P w K mg base CX0 1 f fd p_in_lowest_terms (sp_in_lowest_terms K) := by
  refine F.ok sc_in_lowest_terms (fun vs H Q E h => spD_len h (by rintro ds k d ⟨n, m, rfl, _⟩; rfl)) (fun cdv A outer s H vs Q E hr h => ⟨_, (pss_cons (ps_set (i := 2) sc_in_lowest_terms.nd rfl (Or.inl rfl) (pe_callBfun cr_gcd rfl T.i_gcd (pa_cons (pv 0) (pa_cons (pv 1) pa_nil))))
      (pss_one (ps_ret (pe_tupN (pa_cons (pe_op op_fdiv (pv 0) (pv 2)) (pa_cons (pe_op op_fdiv (pv 1) (pv 2)) pa_nil)))))), run_pure (N := n_in_lowest_terms) (fun ds k d hp => ?_) h⟩)
  obtain ⟨n, m, rfl, h0, h1, rfl, rfl⟩ := hp
  have g0 := gc_pos (n := n) h0
  have g1 := gc_le (n := n) h0
  refine q_asg (d := .int (gcI n m)) (e_gcd (d_var rfl) (d_var rfl)) ?_
  exact s_ret (d_tup (a_consV (d_fdiv (d_var rfl) (d_var rfl) ⟨g0, by omega⟩) (a_consV (d_fdiv (d_var rfl) (d_var rfl) ⟨g0, by omega⟩) a_nil)) (by simp)) (.inr ⟨rfl, rfl⟩) (.inl rfl)

theorem ok_is_allocation {P : Program} {w : World} {K : PySem.W.Frag} {mg : Str → Option Value} {base : Heap} {f : Addr} {fd : FuncData} (F : Fun K "is_allocation" "is_allocation" s_is_allocation f fd) (T : Txt mg) (c_are_integers : Cal P w K mg base CX0 2 "are_integers" p_are_integers (sp_are_integers K)) :
    FnOk P w K mg base CX0 3 f fd p_is_allocation (sp_is_allocation K) := by
  refine F.ok sc_is_allocation (fun vs H Q E h => spD_len h (by rintro ds k d ⟨x, n, b, rfl, _⟩; rfl)) (fun cdv A outer s H vs Q E hr h => ⟨_, (pss_one (ps_ret (pe_and (pe_cal c_are_integers (hr.mono (by decide)) rfl pass0 (pa_cons (pv 0) (pa_cons pe_int (pa_cons (pv 2) pa_nil)))) (pe_and (pe_cmpR (k_eq (K := K) rfl (rUnits hr)) (pe_callB (k_len (K := K) rfl) rfl T.b_len (by decide +kernel) (pa_cons (pv 0) pa_nil)) (pv 1) (nomark _)) (pe_one (pe_cmpR (k_eq (K := K) rfl (rUnits hr)) (pe_callB (k_sum (K := K) rfl rfl) rfl T.b_sum (by decide +kernel) (pa_cons (pv 0) pa_nil)) (pv 2) (nomark _))))))), run_pure (N := n_is_allocation) (fun ds k d hp => ?_) h⟩)
  obtain ⟨x, n, b, rfl, hx, rfl, rfl⟩ := hp
  refine s_ret (d_andV (d_call (a_cons (d_var rfl) (a_cons d_int (a_cons (d_var rfl) a_nil))) ⟨x, 0, b, rfl, hx, rfl, rfl⟩) fun h => ?_) (.inr ⟨rfl, rfl⟩) (.inl rfl)
  obtain ⟨ns, rfl, _⟩ := areInts_ints h
  refine d_andV ((e_eqI (d_lenT (d_var rfl)) (d_var rfl)).to (by rw [lenT_ints, List.length_map])) fun _ => ?_
  exact (e_eqI (e_sumT (d_var rfl)) (d_var rfl)).to (by rw [sumT_ints])

theorem ok_is_bounded_allocation {P : Program} {w : World} {K : PySem.W.Frag} {mg : Str → Option Value} {base : Heap} {f : Addr} {fd : FuncData} (F : Fun K "is_bounded_allocation" "is_bounded_allocation" s_is_bounded_allocation f fd) (T : Txt mg) (c_are_integers : Cal P w K mg base CX0 2 "are_integers" p_are_integers (sp_are_integers K)) :
    FnOk P w K mg base CX0 3 f fd p_is_bounded_allocation (sp_is_bounded_allocationX K) := by
  refine F.ok sc_is_bounded_allocation (fun vs H Q E h => spD_len h (by rintro ds k d ⟨x, rfl, _⟩; rfl)) (fun cdv A outer s H vs Q E hr h => ⟨_, (pss_cons (ps_if (pt_not (pt_val (pe_cal c_are_integers (hr.mono (by decide)) rfl pass0 (pa_cons (pv 0) (pa_cons pe_int (pa_cons (pe_const rfl T.k_MOST_BUCKETS) pa_nil)))))) (pss_one (ps_ret pe_bl)) pss_nil)
      (pss_one (ps_ret (pe_and (pe_chain op_le op_le pe_int (pe_callB (k_len (K := K) rfl) rfl T.b_len (by decide +kernel) (pa_cons (pv 0) pa_nil)) (pe_const rfl T.k_MOST_VARIANTS)) (pe_one (pe_cmpR op_le (pe_callB (k_sum (K := K) rfl rfl) rfl T.b_sum (by decide +kernel) (pa_cons (pv 0) pa_nil)) (pe_const rfl T.k_MOST_BUCKETS) (nomark _))))))), run_pure (N := n_is_bounded_allocation) (fun ds k d hp => ?_) h⟩)
  obtain ⟨x, rfl, hx, rfl, rfl⟩ := hp
  refine q_if (a := !areInts x 0 20) (t_not (t_B (d_call (k := .v) (a_cons (d_var rfl) (a_cons d_int (a_cons d_int a_nil))) ⟨x, 0, 20, rfl, hx, rfl, rfl⟩))) (fun w => ?_) fun w => q_next ?_
  · rw [Bool.not_eq_true'] at w
    exact q_ret (d_bl.to (by unfold balB; rw [w]; rfl)) (.inr ⟨rfl, rfl⟩) (.inl rfl)
  · rw [Bool.not_eq_false'] at w
    obtain ⟨ns, rfl, _⟩ := areInts_ints w
    refine s_ret ((d_andV (d_chain d_int (d_lenT (d_var rfl)) fun _ => d_int) fun _ => d_le (e_sumT (d_var rfl)) d_int).to ?_) (.inr ⟨rfl, rfl⟩) (.inl rfl)
    unfold balB
    rw [w, lenT_ints, sumT_ints, List.length_map, Bool.true_and]
    congr 2
    congr 1
    · rw [decide_eq_decide]; omega
    · rw [decide_eq_decide]; omega

theorem ok_is_order {P : Program} {w : World} {K : PySem.W.Frag} {mg : Str → Option Value} {base : Heap} {f : Addr} {fd : FuncData} (F : Fun K "is_order" "is_order" s_is_order f fd) (T : Txt mg) (c_are_integers : Cal P w K mg base CX0 2 "are_integers" p_are_integers (sp_are_integers K)) :
    FnOk P w K mg base CX0 3 f fd p_is_order (sp_is_orderD K) := by
  refine F.ok sc_is_order (fun vs H Q E h => spD_len h (by rintro ds k d ⟨x, m, rfl, _⟩; rfl)) (fun cdv A outer s H vs Q E hr h => ⟨_, (pss_one (ps_ret (pe_and (pe_cal c_are_integers (hr.mono (by decide)) rfl pass0 (pa_cons (pv 0) (pa_cons pe_int (pa_cons (pe_op op_sub (pv 1) pe_int) pa_nil)))) (pe_and (pe_cmpR (k_eq (K := K) rfl (rUnits hr)) (pe_callB (k_len (K := K) rfl) rfl T.b_len (by decide +kernel) (pa_cons (pv 0) pa_nil)) (pv 1) (nomark _)) (pe_one (pe_cmpR (k_eq (K := K) rfl (rUnits hr)) (k_lenSet (K := K) rfl rfl T.b_len rfl T.b_set (pv 0)) (pv 1) (nomark _))))))), run_pure (N := n_is_order) (fun ds k d hp => ?_) h⟩)
  obtain ⟨x, m, rfl, hx, hm, rfl, rfl⟩ := hp
  refine s_ret ((d_andV (d_call (k := .v) (a_cons (d_var rfl) (a_cons d_int (a_cons (d_sub (d_var rfl) d_int) a_nil))) ⟨x, 0, m - 1, rfl, hx, rfl, rfl⟩) (b := decide ((lenT x : Int) = m) && decide ((ddN x : Int) = m)) fun h => ?_)) (.inr ⟨rfl, rfl⟩) (.inl rfl)
  obtain ⟨ns, rfl, _⟩ := areInts_ints h
  have e : (ns.map PyData.int).map Lm.intD = ns := by
    rw [List.map_map]
    exact List.map_id ns
  refine d_andV ((e_eqI (d_lenT (d_var rfl)) (d_var rfl)).to (by rw [lenT_ints, List.length_map])) fun w => ?_
  have w' := of_decide_eq_true w
  rw [lenT_ints] at w'
  refine (e_eqI (e_lenSet (ks := dd ns) (d_var rfl) (by omega) nd_dd fun _ => mem_dd) (d_var rfl)).to ?_
  show PyData.bool _ = .bool (decide (((dd ((ns.map PyData.int).map Lm.intD)).length : Int) = m))
  rw [e]

theorem ok_are_weights {P : Program} {w : World} {K : PySem.W.Frag} {mg : Str → Option Value} {base : Heap} {f : Addr} {fd : FuncData} (F : Fun K "are_weights" "are_weights" s_are_weights f fd) (T : Txt mg) (c_are_integers : Cal P w K mg base CX0 2 "are_integers" p_are_integers (sp_are_integers K)) :
    FnOk P w K mg base CX0 3 f fd p_are_weights (sp_are_weights K) := by
  refine F.ok sc_are_weights (fun vs H Q E h => spD_len h (by rintro ds k d ⟨x, rfl, _⟩; rfl)) (fun cdv A outer s H vs Q E hr h => ⟨_, (pss_one (ps_ret (pe_and (pe_cal c_are_integers (hr.mono (by decide)) rfl pass0 (pa_cons (pv 0) (pa_cons pe_int (pa_cons (pe_const rfl T.k_GREATEST_WEIGHT) pa_nil)))) (pe_and (pe_chain op_le op_le pe_int (pe_callB (k_len (K := K) rfl) rfl T.b_len (by decide +kernel) (pa_cons (pv 0) pa_nil)) (pe_const rfl T.k_MOST_VARIANTS)) (pe_one (pe_cmpR op_gt (pe_callB (k_sum (K := K) rfl rfl) rfl T.b_sum (by decide +kernel) (pa_cons (pv 0) pa_nil)) pe_int (nomark _))))))), run_pure (N := n_are_weights) (fun ds k d hp => ?_) h⟩)
  obtain ⟨x, rfl, hx, rfl, rfl⟩ := hp
  refine s_ret (d_andV (b := (decide (1 ≤ lenT x) && decide (lenT x ≤ 5)) && decide (0 < sumT x)) (d_call (k := .v) (a_cons (d_var rfl) (a_cons d_int (a_cons d_int a_nil))) ⟨x, 0, 1000000, rfl, hx, rfl, rfl⟩) fun w => ?_) (.inr ⟨rfl, rfl⟩) (.inl rfl)
  obtain ⟨ns, rfl, _⟩ := areInts_ints w
  refine (d_andV (d_chain d_int (d_lenT (d_var rfl)) fun _ => d_int) fun _ => d_gt (e_sumT (d_var rfl)) d_int).to ?_
  rw [lenT_ints, sumT_ints, List.length_map]
  congr 2
  congr 1
  · rw [decide_eq_decide]; omega
  · rw [decide_eq_decide]; omega

theorem ok_check_allocation {P : Program} {w : World} {K : PySem.W.Frag} {mg : Str → Option Value} {base : Heap} {f : Addr} {fd : FuncData} (F : Fun K "check_allocation" "check_allocation" s_check_allocation f fd) (T : Txt mg) (c_require : Cal P w K mg base CX0 1 "require" p_require (sp_require K)) (c_is_bounded_allocation : Cal P w K mg base CX0 3 "is_bounded_allocation" p_is_bounded_allocation (sp_is_bounded_allocationX K)) :
    FnOk P w K mg base CX0 4 f fd p_check_allocation (sp_check_allocation K) := by
  refine F.ok sc_check_allocation (fun vs H Q E h => spD_len h (by rintro ds k d ⟨ns, v, b, nm, rfl, _⟩; rfl)) (fun cdv A outer s H vs Q E hr h => ⟨_, (pss_one (ps_expr (pe_cal c_require (hr.mono (by decide)) rfl pass0 (pa_cons (pe_cal c_is_bounded_allocation (hr.mono (by decide)) rfl pass0 (pa_cons (pv 0) pa_nil)) (pa_cons (pv 1) pa_nil))))), run_pure (N := n_check_allocation) (fun ds k d hp => ?_) h⟩)
  obtain ⟨ns, v, b, nm, rfl, ha, h1, h5, hb, rfl, rfl⟩ := hp
  have hl := ha.len
  exact s_drop (d_call (k := .v) (d := .none) (a_cons ((d_call (k := .v) (d := .bool true) (a_cons (d_var rfl) a_nil) ⟨tupD ns, rfl, (smf_tup (by omega)).t, rfl, by rw [ha.bal h1 h5 hb]⟩)) (a_cons (d_var rfl) a_nil)) ⟨nm, rfl, rfl, rfl⟩) (.inr ⟨rfl, rfl, _, rfl⟩)

theorem ok_check_alike {P : Program} {w : World} {K : PySem.W.Frag} {mg : Str → Option Value} {base : Heap} {f : Addr} {fd : FuncData} (F : Fun K "check_alike" "check_alike" s_check_alike f fd) (T : Txt mg) (c_require : Cal P w K mg base CX0 1 "require" p_require (sp_require K)) (c_is_allocation : Cal P w K mg base CX0 3 "is_allocation" p_is_allocation (sp_is_allocation K)) :
    FnOk P w K mg base CX0 4 f fd p_check_alike (sp_check_alike K) := by
  refine F.ok sc_check_alike (fun vs H Q E h => spD_len h (by rintro ds k d ⟨ms, ns, v, b, nm, rfl, _⟩; rfl)) (fun cdv A outer s H vs Q E hr h => ⟨_, (pss_one (ps_expr (pe_cal c_require (hr.mono (by decide)) rfl pass0 (pa_cons (pe_cal c_is_allocation (hr.mono (by decide)) rfl pass0 (pa_cons (pv 0) (pa_cons (pe_callB (k_len (K := K) rfl) rfl T.b_len (by decide +kernel) (pa_cons (pv 1) pa_nil)) (pa_cons (pe_callB (k_sum (K := K) rfl rfl) rfl T.b_sum (by decide +kernel) (pa_cons (pv 1) pa_nil)) pa_nil)))) (pa_cons (pv 2) pa_nil))))), run_pure (N := n_check_alike) (fun ds k d hp => ?_) h⟩)
  obtain ⟨ms, ns, v, b, nm, rfl, hm, hn, h5, rfl, rfl⟩ := hp
  have hl := hm.len
  refine s_drop (d_call (a_cons (d_call (a_cons (d_var rfl) (a_cons (d_lenT (d_var rfl)) (a_cons (e_sumT (d_var rfl)) a_nil))) ⟨.tuple (ms.map .int), _, _, rfl, small_ints (by omega), rfl, rfl⟩) (a_cons (d_var rfl) a_nil)) ⟨nm, ?_, rfl, rfl⟩) (.inr ⟨rfl, rfl, _, rfl⟩)
  rw [List.length_map, hn.len, hn.sum, hm.isAlloc]

theorem ok_check_weighted {P : Program} {w : World} {K : PySem.W.Frag} {mg : Str → Option Value} {base : Heap} {f : Addr} {fd : FuncData} (F : Fun K "check_weighted" "check_weighted" s_check_weighted f fd) (T : Txt mg) (c_require : Cal P w K mg base CX0 1 "require" p_require (sp_require K)) (c_are_weights : Cal P w K mg base CX0 3 "are_weights" p_are_weights (sp_are_weights K)) (c_is_bounded_allocation : Cal P w K mg base CX0 3 "is_bounded_allocation" p_is_bounded_allocation (sp_is_bounded_allocationX K)) :
    FnOk P w K mg base CX0 4 f fd p_check_weighted (sp_check_weighted K) := by
  refine F.ok sc_check_weighted (fun vs H Q E h => spD_len h (by rintro ds k d ⟨ws, as, b, rfl, _⟩; rfl)) (fun cdv A outer s H vs Q E hr h => ⟨_, (pss_cons (ps_expr (pe_cal c_require (hr.mono (by decide)) rfl pass0 (pa_cons (pe_cal c_are_weights (hr.mono (by decide)) rfl pass0 (pa_cons (pv 0) pa_nil)) (pa_cons pe_str pa_nil))))
      (pss_one (ps_expr (pe_cal c_require (hr.mono (by decide)) rfl pass0 (pa_cons (pe_and (pe_cal c_is_bounded_allocation (hr.mono (by decide)) rfl pass0 (pa_cons (pv 1) pa_nil)) (pe_one (pe_cmpR (k_eq (K := K) rfl (rUnits hr)) (pe_callB (k_len (K := K) rfl) rfl T.b_len (by decide +kernel) (pa_cons (pv 1) pa_nil)) (pe_callB (k_len (K := K) rfl) rfl T.b_len (by decide +kernel) (pa_cons (pv 0) pa_nil)) (nomark _)))) (pa_cons pe_str pa_nil)))))), run_pure (N := n_check_weighted) (fun ds k d hp => ?_) h⟩)
  obtain ⟨ws, as, b, rfl, h, ha, b20, rfl, rfl⟩ := hp
  have l1 := h.l1
  have l5 := h.l5
  have la := ha.len
  refine q_drop (d_call (k := .v) (d := .none) (a_cons (d_call (k := .v) (d := .bool true) (a_cons (d_var rfl) a_nil) ⟨tupD ws, rfl, small_ints (by omega), rfl, by rw [h.isB]⟩) (a_cons d_str a_nil)) ⟨_, rfl, rfl, rfl⟩) ?_
  exact s_drop (d_call (k := .v) (d := .none) (a_cons (Ev.to (d_andV (a := true) (d_call (k := .v) (d := .bool true) (a_cons (d_var rfl) a_nil) ⟨tupD as, rfl, small_ints (by omega), rfl, by rw [ha.bal (by omega) (by omega) b20]⟩) fun _ => e_eqI (d_lenT (d_var rfl)) (d_lenT (d_var rfl))) (y := .bool true) (by rw [List.length_map, List.length_map, la, decide_eq_true rfl]; rfl)) (a_cons d_str a_nil)) ⟨_, rfl, rfl, rfl⟩) (.inr ⟨rfl, rfl, _, rfl⟩)

theorem ok_transfer {P : Program} {w : World} {K : PySem.W.Frag} {mg : Str → Option Value} {base : Heap} {f : Addr} {fd : FuncData} (F : Fun K "transfer" "transfer" s_transfer f fd) (T : Txt mg) (c_check_allocation : Cal P w K mg base CX0 4 "check_allocation" p_check_allocation (sp_check_allocation K)) (c_check_alike : Cal P w K mg base CX0 4 "check_alike" p_check_alike (sp_check_alike K)) :
    FnOk P w K mg base CX0 5 f fd p_transfer (sp_transfer K) := by
  refine F.ok sc_transfer (fun vs H Q E h => spD_len h (by rintro ds k d ⟨ns, ms, v, b, rfl, _⟩; rfl)) (fun cdv A outer s H vs Q E hr h => ⟨_, (pss_cons (ps_expr (pe_cal c_check_allocation (hr.mono (by decide)) rfl pass0 (pa_cons (pv 0) (pa_cons pe_str pa_nil))))
      (pss_cons (ps_expr (pe_cal c_check_alike (hr.mono (by decide)) rfl pass0 (pa_cons (pv 1) (pa_cons (pv 0) (pa_cons pe_str pa_nil)))))
      (pss_one (ps_ret (pe_callB (k_sum (K := K) rfl rfl) rfl T.b_sum (by decide +kernel) (pa_cons (pe_lc rfl sc_transfer.nd (k_zip (K := K) rfl rfl T.b_zip (pa_cons (pv 0) (pa_cons (pv 1) pa_nil))) (blkOk_by (own := [("old", 2), ("new", 3)]) (N := n_transfer) (sc := defScope s_transfer) (by decide +kernel)) (fun _ _ _ _ _ => by exact (k_tup (K := K) (n := 2) rfl rfl (pgs_cons (pg_name (i := 2) sc_transfer.nd rfl (Or.inl rfl)) (pgs_cons (pg_name (i := 3) sc_transfer.nd rfl (Or.inl rfl)) pgs_nil)))) (fun _ _ _ _ _ => by exact pts_nil) (fun _ _ _ _ _ => by exact (pe_callB (call_max2 rfl) rfl T.b_max (by decide +kernel) (pa_cons (pe_op op_sub (pv 2) (pv 3)) (pa_cons pe_int pa_nil))))) pa_nil)))))), run_pure (N := n_transfer) (fun ds k d hp => ?_) h⟩)
  obtain ⟨ns, ms, v, b, rfl, hn, hm, h1, h5, hb, rfl, rfl⟩ := hp
  have hl := hn.len
  refine q_drop (d_call (a_cons (d_var rfl) (a_cons d_str a_nil)) ⟨ns, v, b, "first", rfl, hn, h1, h5, hb, rfl, rfl⟩) ?_
  refine q_drop (d_call (a_cons (d_var rfl) (a_cons (d_var rfl) (a_cons d_str a_nil))) ⟨ms, ns, v, b, "second", rfl, hm, hn, by omega, rfl, rfl⟩) ?_
  exact s_ret (e_sumL (d_lcI (l := ns.zip ms) (en := zipI) (fun p => if 0 > p.1 - p.2 then 0 else p.1 - p.2) (i_zipTI (a_consV (d_var rfl) (a_consV (d_var rfl) a_nil))) (by simp; omega) fun p _ => ⟨_, _, g_tup rfl (g_cons g_name (g_cons g_name g_nil)), fun j hj => hj, .v, e_max2 (d_sub (d_var rfl) (d_var rfl)) d_int⟩)) (.inr ⟨rfl, rfl⟩) (.inl rfl)

theorem ok_medians {P : Program} {w : World} {K : PySem.W.Frag} {mg : Str → Option Value} {base : Heap} {f : Addr} {fd : FuncData} (F : Fun K "medians" "medians" s_medians f fd) (T : Txt mg) (c_check_allocation : Cal P w K mg base CX0 4 "check_allocation" p_check_allocation (sp_check_allocation K)) (c_check_alike : Cal P w K mg base CX0 4 "check_alike" p_check_alike (sp_check_alike K)) :
    FnOk P w K mg base CX0 5 f fd p_medians (sp_medians K) := by
  refine F.ok sc_medians (fun vs H Q E h => spD_len h (by rintro ds k d ⟨as, bs, cs, v, b, rfl, _⟩; rfl)) (fun cdv A outer s H vs Q E hr h => ⟨_, (pss_cons (ps_expr (pe_cal c_check_allocation (hr.mono (by decide)) rfl pass0 (pa_cons (pv 0) (pa_cons pe_str pa_nil))))
      (pss_cons (ps_expr (pe_cal c_check_alike (hr.mono (by decide)) rfl pass0 (pa_cons (pv 1) (pa_cons (pv 0) (pa_cons pe_str pa_nil)))))
      (pss_cons (ps_expr (pe_cal c_check_alike (hr.mono (by decide)) rfl pass0 (pa_cons (pv 2) (pa_cons (pv 0) (pa_cons pe_str pa_nil)))))
      (pss_one (ps_ret (pe_callTy (k_tuple (K := K) rfl) rfl T.b_tuple (by decide +kernel) (pa_cons (pe_lc rfl sc_medians.nd (k_zip3 (K := K) rfl rfl T.b_zip (pa_cons (pv 0) (pa_cons (pv 1) (pa_cons (pv 2) pa_nil)))) (blkOk_by (own := [("shares", 3)]) (N := n_medians) (sc := defScope s_medians) (by decide +kernel)) (fun _ _ _ _ _ => by exact (pg_name (i := 3) sc_medians.nd rfl (Or.inl rfl))) (fun _ _ _ _ _ => by exact pts_nil) (fun _ _ _ _ _ => by exact (pe_ix (k_ix (K := K) rfl) (pe_callB (k_sorted (K := K) rfl) rfl T.b_sorted (by decide +kernel) (pa_cons (pv 3) pa_nil)) pe_int (fun _ _ => rfl)))) pa_nil))))))), run_pure (N := n_medians) (fun ds k d hp => ?_) h⟩)
  obtain ⟨as, bs, cs, v, b, rfl, ha, hb, hc, h1, h5, h20, rfl, rfl⟩ := hp
  have la := ha.len
  have lb := hb.len
  have lc := hc.len
  refine q_drop (d_call (a_cons (d_var rfl) (a_cons d_str a_nil)) ⟨as, v, b, "first", rfl, ha, h1, h5, h20, rfl, rfl⟩) ?_
  refine q_drop (d_call (a_cons (d_var rfl) (a_cons (d_var rfl) (a_cons d_str a_nil))) ⟨bs, as, v, b, "second", rfl, hb, ha, by omega, rfl, rfl⟩) ?_
  refine q_drop (d_call (a_cons (d_var rfl) (a_cons (d_var rfl) (a_cons d_str a_nil))) ⟨cs, as, v, b, "third", rfl, hc, ha, by omega, rfl, rfl⟩) ?_
  refine s_ret (d_tuple (ds := (medI as bs cs).map .int) ((d_lcI (l := List.range as.length) (en := fun i => .d (.tuple ((row3 as bs cs i).map .int))) (fun i => mid3 (as.getD i 0) (bs.getD i 0) (cs.getD i 0)) (i_zip3 (by omega) (by omega) (a_consV (d_var rfl) (a_consV (d_var rfl) (a_consV (d_var rfl) a_nil)))) (by simp; omega) fun i _ => ⟨_, _, g_name, fun j hj => hj, .v, EvN.det (n_ixL (Q := fun i => i = 1) (n_sortedT (ns := row3 as bs cs i) (d_var rfl) (by simp [row3])) (d_int.sm rfl) fun x i' hx hi => ?_)⟩)) (flatAll_ints _)) (.inr ⟨rfl, flatT _⟩) (.inl rfl)
  obtain ⟨ns, rfl, hp, hs⟩ := hx
  subst hi
  obtain ⟨x, z, rfl⟩ := mid_sorted hp hs
  exact ⟨_, _, rfl, rfl, rfl, rfl⟩

theorem ok_rests_of {P : Program} {w : World} {K : PySem.W.Frag} {mg : Str → Option Value} {base : Heap} {f : Addr} {fd : FuncData} (F : Fun K "rests_of" "rests_of" s_rests_of f fd) (T : Txt mg) :
    FnOk P w K mg base CX0 1 f fd p_rests_of (sp_rests_of K) := by
  refine F.ok sc_rests_of (fun vs H Q E h => spD_len h (by rintro ds k d ⟨ws, b, rfl, _⟩; rfl)) (fun cdv A outer s H vs Q E hr h => ⟨_, (pss_one (ps_ret (pe_lc rfl sc_rests_of.nd (k_seq (K := K) rfl (pv 0)) (blkOk_by (own := [("weight", 2)]) (N := n_rests_of) (sc := defScope s_rests_of) (by decide +kernel)) (fun _ _ _ _ _ => by exact (pg_name (i := 2) sc_rests_of.nd rfl (Or.inl rfl))) (fun _ _ _ _ _ => by exact pts_nil) (fun _ _ _ _ _ => by exact (pe_op op_mod (pe_op op_mulA (pv 1) (pv 2)) (pe_callB (k_sum (K := K) rfl rfl) rfl T.b_sum (by decide +kernel) (pa_cons (pv 0) pa_nil))))))), run_pure (N := n_rests_of) (fun ds k d hp => ?_) h⟩)
  obtain ⟨ws, b, rfl, h, b0, b20, rfl, rfl⟩ := hp
  have l5 := h.l5
  have s5 := h.sum5
  have p := h.pos
  exact s_ret (d_lcI (l := ws) (en := imI) (fun x => b * x % ws.sum) (i_seqTI (d_var rfl) kv_ne) (by omega) fun x hx => ⟨_, _, g_name, fun j hj => hj, .v, d_mod (e_mul (d_var rfl) (d_var rfl) (.inl ⟨by omega, by omega⟩)) (e_sumT (d_var rfl)) p⟩) (.inl rfl) (.inl rfl)

theorem ok_by_largest_rests {P : Program} {w : World} {K : PySem.W.Frag} {mg : Str → Option Value} {base : Heap} {f : Addr} {fd : FuncData} (F : Fun K "by_largest_rests" "by_largest_rests" s_by_largest_rests f fd) (T : Txt mg) (c_rests_of : Cal P w K mg base CX0 1 "rests_of" p_rests_of (sp_rests_of K)) :
    FnOk P w K mg base CX0 2 f fd p_by_largest_rests (sp_by_largest_rests K) := by
  refine F.ok sc_by_largest_rests (fun vs H Q E h => spD_len h (by rintro ds k d ⟨ws, b, rfl, _⟩; rfl)) (fun cdv A outer s H vs Q E hr h => ⟨_, (pss_cons (ps_set (i := 2) sc_by_largest_rests.nd rfl (Or.inl rfl) (pe_cal c_rests_of (hr.mono (by decide)) rfl pass0 (pa_cons (pv 0) (pa_cons (pv 1) pa_nil))))
      (pss_cons (ps_setLc (i := 3) rfl sc_by_largest_rests.nd rfl rfl (sw_true rfl rfl rfl (by decide +kernel)) (k_seq (K := K) rfl (pv 0)) (blkOk_by (own := [("weight", 4)]) (N := n_by_largest_rests) (sc := defScope s_by_largest_rests) (by decide +kernel)) (fun _ _ _ _ _ => by exact (pg_name (i := 4) sc_by_largest_rests.nd rfl (Or.inl rfl))) (fun _ _ _ _ _ => by exact pts_nil) (fun _ _ _ _ _ => by exact (pe_op op_fdiv (pe_op op_mulA (pv 1) (pv 4)) (pe_callB (k_sum (K := K) rfl rfl) rfl T.b_sum (by decide +kernel) (pa_cons (pv 0) pa_nil)))))
      (pss_cons (ps_set (i := 5) sc_by_largest_rests.nd rfl (Or.inl rfl) (pe_callB (k_sortedD (K := K) rfl (rUnits hr)) rfl T.b_sorted (by decide +kernel) (pa_cons (pe_lc rfl sc_by_largest_rests.nd (k_enum (K := K) rfl rfl T.b_enumerate (pa_cons (pv 2) pa_nil)) (blkOk_by (own := [("variant", 6), ("rest", 7)]) (N := n_by_largest_rests) (sc := defScope s_by_largest_rests) (by decide +kernel)) (fun _ _ _ _ _ => by exact (k_tup (K := K) (n := 2) rfl rfl (pgs_cons (pg_name (i := 6) sc_by_largest_rests.nd rfl (Or.inl rfl)) (pgs_cons (pg_name (i := 7) sc_by_largest_rests.nd rfl (Or.inl rfl)) pgs_nil)))) (fun _ _ _ _ _ => by exact pts_nil) (fun _ _ _ _ _ => by exact (pe_tupN (pa_cons (pe_un un_neg (pv 7)) (pa_cons (pv 6) pa_nil))))) pa_nil)))
      (pss_cons (ps_for PassesOwn.never rfl (k_seq (K := K) rfl (pe_slice (k_slU (K := K) rfl) (pv 5) po_none (po_some (pe_op op_sub (pv 1) (pe_callB (k_sum (K := K) rfl rfl) rfl T.b_sum (by decide +kernel) (pa_cons (pv 3) pa_nil)))))) (k_tup (K := K) (n := 2) rfl rfl (pgs_cons (pg_name (i := 8) sc_by_largest_rests.nd rfl (Or.inl rfl)) (pgs_cons (pg_name (i := 6) sc_by_largest_rests.nd rfl (Or.inl rfl)) pgs_nil))) (pss_one (ps_augS (pv 3) (pv 6) (k_getL (K := K) rfl) pe_int ip_add set_list)))
      (pss_one (ps_ret (pe_callTy (k_tuple (K := K) rfl) rfl T.b_tuple (by decide +kernel) (pa_cons (pv 3) pa_nil)))))))), run_pure (N := n_by_largest_rests) (fun ds k d hp => ?_) h⟩)
  obtain ⟨ws, b, rfl, h, b0, b20, rfl, rfl⟩ := hp
  have l5 := h.l5
  have s5 := h.sum5
  have p := h.pos
  have rl : (rstL ws b).length = ws.length := rst_len
  refine q_asgO (d := .list ((rstL ws b).map .int)) (d_call (k := .o) (a_cons (d_var rfl) (a_cons (d_var rfl) a_nil)) ⟨ws, b, rfl, h, b0, b20, rfl, rfl⟩) ?_
  refine q_asgO (d := .list ((floL ws b).map .int)) (d_lcI (l := ws) (en := imI) (fun x => b * x / ws.sum) (i_seqTI (d_var rfl) kv_ne) (by omega) fun x hx => ⟨_, _, g_name, fun j hj => hj, .v, d_fdiv (e_mul (d_var rfl) (d_var rfl) (.inl ⟨by omega, by omega⟩)) (e_sumT (d_var rfl)) ⟨p, by omega⟩⟩) ?_
  refine s_freeze (n := 2) rfl ?_
  have en : enumI ((rstL ws b).map .int) = (List.range (rstL ws b).length).map fun k => Im.t [.d (.int (k : Nat)), .d (.int ((rstL ws b).getD k 0))] := by
    apply List.ext_getElem
    · simp [enumI]
    · intro k h1 h2
      simp at h2
      simp [enumI, List.getD_eq_getElem?_getD, h2]
  have flr : flatAll ((List.range (rstL ws b).length).map fun k => tupD (prR (rstL ws b) k)) = true := by
    rw [show ((List.range (rstL ws b).length).map fun k => tupD (prR (rstL ws b) k)) = ((List.range (rstL ws b).length).map (prR (rstL ws b))).map tupD by rw [List.map_map]; rfl]
    exact fl_rows _
  refine q_asgO (d := .list ((grR (rstL ws b)).map fun k => tupD (prR (rstL ws b) k))) (e_sortedD (ds := (List.range (rstL ws b).length).map fun k => tupD (prR (rstL ws b) k)) (d_lcA (l := List.range (rstL ws b).length) (en := fun k => Im.t [.d (.int (k : Nat)), .d (.int ((rstL ws b).getD k 0))]) (fun k => tupD (prR (rstL ws b) k)) (i_enumL' (d_var rfl) kv_ne en) (by simp; omega) fun k hk => ⟨_, _, g_tup rfl (g_cons g_name (g_cons g_name g_nil)), fun j hj => hj, (d_tup (a_consV (e_neg (d_var rfl)) (a_consV (d_var rfl) a_nil)) (by simp)).fo (flatT (prR (rstL ws b) k))⟩)
    flr (by simp; omega) (PySem.W.AllAlike.of fun s t => alike_rows _ _) (PySem.W.Sortable.tuples fun s => ⟨_, _, rfl⟩) (fun d hd => ?_) ((grr_perm _).map _) (gr_sorted _)) ?_
  · obtain ⟨k, _, rfl⟩ := List.mem_map.mp hd
    simp [prR, tupD, PyData.depth, PyData.depthAll]
  have ui := up_is (b := b) h
  have ul := up_le (b := b) h
  have gl : (grR (rstL ws b)).length = ws.length := by rw [grr_len, rl]
  refine s_freeze (n := 5) rfl ?_
  refine q_for (i_seqL (ds := ((grR (rstL ws b)).take (upN ws b)).map fun k => tupD (prR (rstL ws b) k)) (Ev.to (e_slLV (d_var rfl) o_none (o_some (Ev.to (d_sub (d_var rfl) (e_sumL (d_varO rfl))) (y := .int ((upN ws b : Nat) : Int)) (by rw [ui])))) ?_) kv_ne)
    (fun t Γ1 => ∃ t6 t8, Γ1 = [some (.v (tupD ws)), some (.v (.int b)), some (.v (.list ((rstL ws b).map .int))), some (.o (.list ((appT ws b t).map .int))), none, some (.v (.list ((grR (rstL ws b)).map fun k => tupD (prR (rstL ws b) k)))), t6, none, t8]) ⟨_, _, by rw [appT_zero]; rfl⟩ (fun t a Γ1 ht' hI => ?_) (fun Γ1 hI => ?_)
  · rw [cutD_hi (by rw [List.length_map]; omega), List.map_take]
  · obtain ⟨t6, t8, rfl⟩ := hI
    have ht : t < upN ws b := by
      have := (List.getElem?_eq_some_iff.mp ht').1
      simp at this
      omega
    have tw : t < ws.length := by omega
    obtain ⟨g, eg⟩ : ∃ g, g = (grR (rstL ws b)).getD t 0 := ⟨_, rfl⟩
    have ea : a = .d (tupD (prR (rstL ws b) g)) := by
      rw [List.map_map, List.getElem?_map, List.getElem?_take_of_lt ht, List.getElem?_eq_getElem (by omega)] at ht'
      have := (Option.some.inj ht').symm
      rw [this, eg]
      simp [List.getD_eq_getElem?_getD, gl, tw]
    subst ea
    have gw : g < ws.length := by
      have : g ∈ grR (rstL ws b) := by rw [eg]; simp [List.getD_eq_getElem?_getD, gl, tw]
      have := grr_mem.mp this
      omega
    refine ⟨_, _, g_tupD rfl (g_cons g_name (g_cons g_name g_nil)), s_augL (m := g) rfl (d_var rfl) (by rw [appT_len]; exact gw) d_int (.inl ⟨_, .inl rfl, some (.v (.int (g : Int))), some (.v (.int (-((rstL ws b).getD g 0)))), ?_⟩)⟩
    rw [show (appT ws b t).set g ((appT ws b t).getD g 0 + 1) = appT ws b (t + 1) from appT_step tw eg]
    rfl
  · obtain ⟨t6, t8, rfl⟩ := hI
    have e : ((((grR (rstL ws b)).take (upN ws b)).map fun k => tupD (prR (rstL ws b) k)).map Im.d).length = upN ws b := by simp; omega
    rw [e, appT_up]
    exact s_ret (d_tuple (d_varO rfl) (flatAll_ints _)) (.inr ⟨rfl, flatAll_ints _⟩) (.inl rfl)

theorem ok_apportioned {P : Program} {w : World} {K : PySem.W.Frag} {mg : Str → Option Value} {base : Heap} {f : Addr} {fd : FuncData} (F : Fun K "apportioned" "apportioned" s_apportioned f fd) (T : Txt mg) (c_require : Cal P w K mg base CX0 1 "require" p_require (sp_require K)) (c_by_largest_rests : Cal P w K mg base CX0 2 "by_largest_rests" p_by_largest_rests (sp_by_largest_rests K)) (c_are_weights : Cal P w K mg base CX0 3 "are_weights" p_are_weights (sp_are_weights K)) (c_is_integer : Cal P w K mg base CX0 1 "is_integer" p_is_integer (sp_is_integer K)) :
    FnOk P w K mg base CX0 4 f fd p_apportioned (sp_apportioned K) := by
  refine F.ok sc_apportioned (fun vs H Q E h => spD_len h (by rintro ds k d ⟨ws, b, rfl, _⟩; rfl)) (fun cdv A outer s H vs Q E hr h => ⟨_, (pss_cons (ps_expr (pe_cal c_require (hr.mono (by decide)) rfl pass0 (pa_cons (pe_cal c_are_weights (hr.mono (by decide)) rfl pass0 (pa_cons (pv 0) pa_nil)) (pa_cons pe_str pa_nil))))
      (pss_cons (ps_expr (pe_cal c_require (hr.mono (by decide)) rfl pass0 (pa_cons (pe_cal c_is_integer (hr.mono (by decide)) rfl pass0 (pa_cons (pv 1) (pa_cons pe_int (pa_cons (pe_const rfl T.k_MOST_BUCKETS) pa_nil)))) (pa_cons pe_str pa_nil))))
      (pss_one (ps_ret (pe_cal c_by_largest_rests (hr.mono (by decide)) rfl pass0 (pa_cons (pv 0) (pa_cons (pv 1) pa_nil))))))), run_pure (N := n_apportioned) (fun ds k d hp => ?_) h⟩)
  obtain ⟨ws, b, rfl, h, b0, b20, rfl, rfl⟩ := hp
  have l5 := h.l5
  refine q_drop (d_call (k := .v) (d := .none) (a_cons (d_call (k := .v) (d := .bool true) (a_cons (d_var rfl) a_nil) ⟨tupD ws, rfl, small_ints (by omega), rfl, by rw [h.isB]⟩) (a_cons d_str a_nil)) ⟨_, rfl, rfl, rfl⟩) ?_
  refine q_drop (d_call (k := .v) (d := .none) (a_cons (d_call (k := .v) (d := .bool true) (a_cons (d_var rfl) (a_cons d_int (a_cons d_int a_nil))) ⟨.int b, 0, 20, rfl, rfl, by simp [isIntD]; omega⟩) (a_cons d_str a_nil)) ⟨_, rfl, rfl, rfl⟩) ?_
  exact s_ret (d_call (k := .v) (a_cons (d_var rfl) (a_cons (d_var rfl) a_nil)) ⟨ws, b, rfl, h, b0, b20, rfl, rfl⟩) (.inr ⟨rfl, flatT _⟩) (.inl rfl)

theorem ok_surpluses {P : Program} {w : World} {K : PySem.W.Frag} {mg : Str → Option Value} {base : Heap} {f : Addr} {fd : FuncData} (F : Fun K "surpluses" "surpluses" s_surpluses f fd) (T : Txt mg) :
    FnOk P w K mg base CX0 1 f fd p_surpluses (sp_surpluses K) := by
  refine F.ok sc_surpluses (fun vs H Q E h => spD_len h (by rintro ds k d ⟨ws, as, b, rfl, _⟩; rfl)) (fun cdv A outer s H vs Q E hr h => ⟨_, (pss_cons (ps_set (i := 2) sc_surpluses.nd rfl (Or.inr rfl) (pe_callB (k_sum (K := K) rfl rfl) rfl T.b_sum (by decide +kernel) (pa_cons (pv 1) pa_nil)))
      (pss_one (ps_ret (pe_lc rfl sc_surpluses.nd (k_zip (K := K) rfl rfl T.b_zip (pa_cons (pv 0) (pa_cons (pv 1) pa_nil))) (blkOk_by (own := [("weight", 3), ("share", 4)]) (N := n_surpluses) (sc := defScope s_surpluses) (by decide +kernel)) (fun _ _ _ _ _ => by exact (k_tup (K := K) (n := 2) rfl rfl (pgs_cons (pg_name (i := 3) sc_surpluses.nd rfl (Or.inl rfl)) (pgs_cons (pg_name (i := 4) sc_surpluses.nd rfl (Or.inl rfl)) pgs_nil)))) (fun _ _ _ _ _ => by exact pts_nil) (fun _ _ _ _ _ => by exact (pe_op op_sub (pe_op op_mulA (pv 4) (pe_callB (k_sum (K := K) rfl rfl) rfl T.b_sum (by decide +kernel) (pa_cons (pv 0) pa_nil))) (pe_op op_mulA (pv 2) (pv 3)))))))), run_pure (N := n_surpluses) (fun ds k d hp => ?_) h⟩)
  obtain ⟨ws, as, b, rfl, h, ha, b20, rfl, rfl⟩ := hp
  have l5 := h.l5
  have s5 := h.sum5
  have p := h.pos
  have sa := ha.sum
  have s0 := sum_nn ha.nn
  refine q_asg (d := .int as.sum) (e_sumT (d_var rfl)) ?_
  exact s_ret (d_lcI (l := ws.zip as) (en := zipI) (fun p => p.2 * ws.sum - as.sum * p.1) (i_zipTI (a_consV (d_var rfl) (a_consV (d_var rfl) a_nil))) (by simp; omega) fun x hx => ⟨_, _, g_tup rfl (g_cons g_name (g_cons g_name g_nil)), fun j hj => hj, .v, d_sub (e_mul (d_var rfl) (e_sumT (d_var rfl)) (.inr ⟨by omega, by omega⟩)) (e_mul (d_var rfl) (d_var rfl) (.inl ⟨by omega, by omega⟩))⟩) (.inl rfl) (.inl rfl)

theorem ok_deviation {P : Program} {w : World} {K : PySem.W.Frag} {mg : Str → Option Value} {base : Heap} {f : Addr} {fd : FuncData} (F : Fun K "deviation" "deviation" s_deviation f fd) (T : Txt mg) (c_check_weighted : Cal P w K mg base CX0 4 "check_weighted" p_check_weighted (sp_check_weighted K)) (c_in_lowest_terms : Cal P w K mg base CX0 1 "in_lowest_terms" p_in_lowest_terms (sp_in_lowest_terms K)) (c_surpluses : Cal P w K mg base CX0 1 "surpluses" p_surpluses (sp_surpluses K)) :
    FnOk P w K mg base CX0 5 f fd p_deviation (sp_deviation K) := by
  refine F.ok sc_deviation (fun vs H Q E h => spD_len h (by rintro ds k d ⟨ws, as, b, rfl, _⟩; rfl)) (fun cdv A outer s H vs Q E hr h => ⟨_, (pss_cons (ps_expr (pe_cal c_check_weighted (hr.mono (by decide)) rfl pass0 (pa_cons (pv 0) (pa_cons (pv 1) pa_nil))))
      (pss_cons (ps_set (i := 2) sc_deviation.nd rfl (Or.inl rfl) (pe_callB (k_sum (K := K) rfl rfl) rfl T.b_sum (by decide +kernel) (pa_cons (pe_lc rfl sc_deviation.nd (k_seq (K := K) rfl (pe_cal c_surpluses (hr.mono (by decide)) rfl pass0 (pa_cons (pv 0) (pa_cons (pv 1) pa_nil)))) (blkOk_by (own := [("surplus", 3)]) (N := n_deviation) (sc := defScope s_deviation) (by decide +kernel)) (fun _ _ _ _ _ => by exact (pg_name (i := 3) sc_deviation.nd rfl (Or.inl rfl))) (fun _ _ _ _ _ => by exact pts_nil) (fun _ _ _ _ _ => by exact (pe_callB call_abs rfl T.b_abs (by decide +kernel) (pa_cons (pv 3) pa_nil)))) pa_nil)))
      (pss_one (ps_ret (pe_cal c_in_lowest_terms (hr.mono (by decide)) rfl pass0 (pa_cons (pv 2) (pa_cons (pe_callB (k_sum (K := K) rfl rfl) rfl T.b_sum (by decide +kernel) (pa_cons (pv 0) pa_nil)) pa_nil))))))), run_pure (N := n_deviation) (fun ds k d hp => ?_) h⟩)
  obtain ⟨ws, as, b, rfl, h, ha, b20, rfl, rfl⟩ := hp
  have l5 := h.l5
  have s5 := h.sum5
  have la := ha.len
  refine q_drop (d_call (k := .v) (d := .none) (a_cons (d_var rfl) (a_cons (d_var rfl) a_nil)) ⟨ws, as, b, rfl, h, ha, b20, rfl, rfl⟩) ?_
  refine q_asg (d := .int (devI ws as)) (e_sumL (d_lcI (l := ovL ws as) (en := imI) (fun x => (x.natAbs : Int)) (i_seqLI (d_call (k := .o) (a_cons (d_var rfl) (a_cons (d_var rfl) a_nil)) ⟨ws, as, b, rfl, h, ha, b20, rfl, rfl⟩) ko_ne) (by rw [ov_len (by omega)]; omega) fun x hx => ⟨_, _, g_name, fun j hj => hj, .v, e_absI (d_var rfl)⟩)) ?_
  exact s_ret (d_call (k := .v) (a_cons (d_var rfl) (a_cons (e_sumT (d_var rfl)) a_nil)) ⟨_, _, rfl, h.pos, by omega, rfl, rfl⟩) (.inr ⟨rfl, rfl⟩) (.inl rfl)

theorem ok_is_nearest {P : Program} {w : World} {K : PySem.W.Frag} {mg : Str → Option Value} {base : Heap} {f : Addr} {fd : FuncData} (F : Fun K "is_nearest" "is_nearest" s_is_nearest f fd) (T : Txt mg) (c_check_weighted : Cal P w K mg base CX0 4 "check_weighted" p_check_weighted (sp_check_weighted K)) (c_surpluses : Cal P w K mg base CX0 1 "surpluses" p_surpluses (sp_surpluses K)) (c_rests_of : Cal P w K mg base CX0 1 "rests_of" p_rests_of (sp_rests_of K)) :
    FnOk P w K mg base CX0 5 f fd p_is_nearest (sp_is_nearest K) := by
  refine F.ok sc_is_nearest (fun vs H Q E h => spD_len h (by rintro ds k d ⟨ws, as, b, rfl, _⟩; rfl)) (fun cdv A outer s H vs Q E hr h => ⟨_, (pss_cons (ps_expr (pe_cal c_check_weighted (hr.mono (by decide)) rfl pass0 (pa_cons (pv 0) (pa_cons (pv 1) pa_nil))))
      (pss_cons (ps_set (i := 2) sc_is_nearest.nd rfl (Or.inl rfl) (pe_cal c_surpluses (hr.mono (by decide)) rfl pass0 (pa_cons (pv 0) (pa_cons (pv 1) pa_nil))))
      (pss_cons (ps_if (pt_cmpR op_ge (pe_callB (k_max (K := K) rfl rfl) rfl T.b_max (by decide +kernel) (pa_cons (pe_lc rfl sc_is_nearest.nd (k_seq (K := K) rfl (pv 2)) (blkOk_by (own := [("surplus", 3)]) (N := n_is_nearest) (sc := defScope s_is_nearest) (by decide +kernel)) (fun _ _ _ _ _ => by exact (pg_name (i := 3) sc_is_nearest.nd rfl (Or.inl rfl))) (fun _ _ _ _ _ => by exact pts_nil) (fun _ _ _ _ _ => by exact (pe_callB call_abs rfl T.b_abs (by decide +kernel) (pa_cons (pv 3) pa_nil)))) pa_nil)) (pe_callB (k_sum (K := K) rfl rfl) rfl T.b_sum (by decide +kernel) (pa_cons (pv 0) pa_nil)) (nomark _)) (pss_one (ps_ret pe_bl)) pss_nil)
      (pss_cons (ps_set (i := 4) sc_is_nearest.nd rfl (Or.inl rfl) (pe_cal c_rests_of (hr.mono (by decide)) rfl pass0 (pa_cons (pv 0) (pa_cons (pe_callB (k_sum (K := K) rfl rfl) rfl T.b_sum (by decide +kernel) (pa_cons (pv 1) pa_nil)) pa_nil))))
      (pss_cons (ps_setLc (i := 5) rfl sc_is_nearest.nd rfl rfl (sw_true rfl rfl rfl (by decide +kernel)) (k_zip (K := K) rfl rfl T.b_zip (pa_cons (pv 4) (pa_cons (pv 2) pa_nil))) (blkOk_by (own := [("rest", 6), ("surplus", 3)]) (N := n_is_nearest) (sc := defScope s_is_nearest) (by decide +kernel)) (fun _ _ _ _ _ => by exact (k_tup (K := K) (n := 2) rfl rfl (pgs_cons (pg_name (i := 6) sc_is_nearest.nd rfl (Or.inl rfl)) (pgs_cons (pg_name (i := 3) sc_is_nearest.nd rfl (Or.inl rfl)) pgs_nil)))) (fun _ _ _ _ _ => by exact (pts_one (pt_cmpR op_gt (pv 3) pe_int (nomark _)))) (fun _ _ _ _ _ => by exact (pv 6)))
      (pss_cons (ps_setLc (i := 7) rfl sc_is_nearest.nd rfl rfl (sw_true rfl rfl rfl (by decide +kernel)) (k_zip (K := K) rfl rfl T.b_zip (pa_cons (pv 4) (pa_cons (pv 2) pa_nil))) (blkOk_by (own := [("rest", 6), ("surplus", 3)]) (N := n_is_nearest) (sc := defScope s_is_nearest) (by decide +kernel)) (fun _ _ _ _ _ => by exact (k_tup (K := K) (n := 2) rfl rfl (pgs_cons (pg_name (i := 6) sc_is_nearest.nd rfl (Or.inl rfl)) (pgs_cons (pg_name (i := 3) sc_is_nearest.nd rfl (Or.inl rfl)) pgs_nil)))) (fun _ _ _ _ _ => by exact (pts_one (pt_cmpR op_lt (pv 3) pe_int (nomark _)))) (fun _ _ _ _ _ => by exact (pv 6)))
      (pss_one (ps_ret (pe_or (k_notT (K := K) rfl (pv 5)) (pe_one (pe_cmpR op_ge (pe_callB (k_min (K := K) rfl rfl) rfl T.b_min (by decide +kernel) (pa_cons (pv 5) pa_nil)) (pe_callB (k_max (K := K) rfl rfl) rfl T.b_max (by decide +kernel) (pa_cons (pv 7) pa_nil)) (nomark _)))))))))))), run_pure (N := n_is_nearest) (fun ds k d hp => ?_) h⟩)
  obtain ⟨ws, as, b, rfl, h, ha, b20, rfl, rfl⟩ := hp
  have l1 := h.l1
  have l5 := h.l5
  have s5 := h.sum5
  have la := ha.len
  have hl : as.length = ws.length := by omega
  have ol := ov_len hl
  have sa := ha.sum
  have s0 := sum_nn ha.nn
  refine q_drop (d_call (k := .v) (d := .none) (a_cons (d_var rfl) (a_cons (d_var rfl) a_nil)) ⟨ws, as, b, rfl, h, ha, b20, rfl, rfl⟩) ?_
  refine q_asgO (d := .list ((ovL ws as).map .int)) (d_call (k := .o) (a_cons (d_var rfl) (a_cons (d_var rfl) a_nil)) ⟨ws, as, b, rfl, h, ha, b20, rfl, rfl⟩) ?_
  refine s_freeze (n := 2) rfl ?_
  refine q_if (a := decide (ws.sum ≤ mxL ((ovL ws as).map fun x => (x.natAbs : Int)))) (t_test (d_ge (e_maxL (d_lcI (l := ovL ws as) (en := imI) (fun x => (x.natAbs : Int)) (i_seqLI (d_var rfl) kv_ne) (by omega) fun x hx => ⟨_, _, g_name, fun j hj => hj, .v, e_absI (d_var rfl)⟩) (by rw [List.length_map]; omega)) (e_sumT (d_var rfl)))) (fun w => ?_) fun w => ?_
  · have w := of_decide_eq_true w
    refine q_ret (d_bl.to ?_) (.inr ⟨rfl, rfl⟩) (.inl rfl)
    unfold nearB
    rw [decide_eq_false (by omega)]
    rfl
  have w := of_decide_eq_false w
  refine q_next ?_
  refine q_asgO (d := .list ((rstL ws as.sum).map .int)) (d_call (k := .o) (a_cons (d_var rfl) (a_cons (e_sumT (d_var rfl)) a_nil)) ⟨ws, as.sum, rfl, h, s0, by omega, rfl, rfl⟩) ?_
  refine s_freeze (n := 4) rfl ?_
  have zl : ((rstL ws as.sum).zip (ovL ws as)).length ≤ 5 := by rw [List.length_zip, rst_len, ol]; omega
  refine q_asgO (d := .list ((uprL ws as).map .int)) (Ev.to (d_lc (l := (rstL ws as.sum).zip (ovL ws as)) (en := zipI) (fun p => decide (0 < p.2)) (fun p => .int p.1) (i_zipLVI (d_var rfl) kv_ne (d_var rfl) kv_ne) (by omega) fun x hx => ⟨_, _, g_tup rfl (g_cons g_name (g_cons g_name g_nil)), fun j hj => hj, t_test (d_gt (d_var rfl) d_int), fun _ => (d_var rfl).fo rfl⟩) (by unfold uprL; rw [List.map_map]; rfl)) ?_
  refine q_asgO (d := .list ((dwnL ws as).map .int)) (Ev.to (d_lc (l := (rstL ws as.sum).zip (ovL ws as)) (en := zipI) (fun p => decide (p.2 < 0)) (fun p => .int p.1) (i_zipLVI (d_var rfl) kv_ne (d_var rfl) kv_ne) (by omega) fun x hx => ⟨_, _, g_tup rfl (g_cons g_name (g_cons g_name g_nil)), fun j hj => hj, t_test (d_lt (d_var rfl) d_int), fun _ => (d_var rfl).fo rfl⟩) (by unfold dwnL; rw [List.map_map]; rfl)) ?_
  refine s_ret ((d_orV (e_notL (d_varO rfl)) (b := decide (mxL (dwnL ws as) ≤ mnL (uprL ws as))) fun e => ?_).to ?_) (.inr ⟨rfl, rfl⟩) (.inl rfl)
  · have ne : uprL ws as ≠ [] := fun z => by rw [z] at e; cases e
    exact d_ge (e_minL (d_varO rfl) (List.length_pos_iff.mpr ne)) (e_maxL (d_varO rfl) (dwn_some h hl ne))
  · unfold nearB
    rw [decide_eq_true (show mxL ((ovL ws as).map fun x => (x.natAbs : Int)) < ws.sum by omega), Bool.true_and]
    congr 2
    cases uprL ws as <;> rfl

theorem ok_placed {P : Program} {w : World} {K : PySem.W.Frag} {mg : Str → Option Value} {base : Heap} {f : Addr} {fd : FuncData} (F : Fun K "placed" "placed" s_placed f fd) (T : Txt mg) :
    FnOk P w K mg base CX0 1 f fd p_placed (sp_placed K) := by
  refine F.ok sc_placed (fun vs H Q E h => spD_len h (by rintro ds k d ⟨ns, os, m, rfl, _⟩; rfl)) (fun cdv A outer s H vs Q E hr h => ⟨_, (pss_one (ps_ret (pe_callTy (k_tuple (K := K) rfl) rfl T.b_tuple (by decide +kernel) (pa_cons (pe_lc rfl sc_placed.nd (pi_range1 rfl T.b_range (pa_cons (pe_callB (k_len (K := K) rfl) rfl T.b_len (by decide +kernel) (pa_cons (pv 1) pa_nil)) pa_nil)) (blkOk_by (own := [("place", 2)]) (N := n_placed) (sc := defScope s_placed) (by decide +kernel)) (fun _ _ _ _ _ => by exact (pg_name (i := 2) sc_placed.nd rfl (Or.inl rfl))) (fun _ _ _ _ _ => by exact pts_nil) (fun _ _ _ _ _ => by exact (pe_ix (k_ix (K := K) rfl) (pv 0) (k_tm (K := K) rfl PySem.F.slot_tuple_index PySem.F.type_tuple_index (k_index (K := K) rfl) (pv 1) (pa_cons (pv 2) pa_nil)) (fun _ _ => rfl)))) pa_nil)))), run_pure (N := n_placed) (fun ds k d hp => ?_) h⟩)
  obtain ⟨ns, os, m, rfl, ho, hn, hm, rfl, rfl⟩ := hp
  have hl := ho.len
  have e1 : (((os.map PyData.int).length : Nat) : Int).toNat = os.length := by simp
  refine s_ret ((d_tuple (d_lcI (fun i => ns.getD (os.idxOf i) 0) (i_rng1 (a_cons (d_lenT (d_var rfl)) a_nil) (by simp <;> omega) (by simp <;> omega)) (by simp [upI] <;> omega) fun i hi => ?_) (flatAll_ints _)).to ?_) (.inr ⟨rfl, flatT _⟩) (.inl rfl)
  · rw [e1, mem_upI] at hi
    obtain ⟨hj, h1, h2⟩ := ho.idx (i := i) hi.1 (by omega)
    have hj' : os.idxOf i < ns.length := by omega
    refine ⟨_, _, g_name, fun j hj => hj, .v, e_ixT (d_var rfl) (e_index (d_var rfl) (d_var rfl) h1 h2) (atI_nat ?_) rfl⟩
    rw [List.getElem?_map, List.getElem?_eq_getElem hj', List.getD_eq_getElem?_getD, List.getElem?_eq_getElem hj']
    rfl
  · rw [e1]; rfl

theorem ok_renamed_shares {P : Program} {w : World} {K : PySem.W.Frag} {mg : Str → Option Value} {base : Heap} {f : Addr} {fd : FuncData} (F : Fun K "renamed_shares" "renamed_shares" s_renamed_shares f fd) (T : Txt mg) (c_check_allocation : Cal P w K mg base CX0 4 "check_allocation" p_check_allocation (sp_check_allocation K)) (c_require : Cal P w K mg base CX0 1 "require" p_require (sp_require K)) (c_placed : Cal P w K mg base CX0 1 "placed" p_placed (sp_placed K)) (c_is_order : Cal P w K mg base CX0 3 "is_order" p_is_order (sp_is_orderD K)) :
    FnOk P w K mg base CX0 5 f fd p_renamed_shares (sp_renamed_shares K) := by
  refine F.ok sc_renamed_shares (fun vs H Q E h => spD_len h (by rintro ds k d ⟨ns, os, v, b, rfl, _⟩; rfl)) (fun cdv A outer s H vs Q E hr h => ⟨_, (pss_cons (ps_expr (pe_cal c_check_allocation (hr.mono (by decide)) rfl pass0 (pa_cons (pv 0) (pa_cons pe_str pa_nil))))
      (pss_cons (ps_expr (pe_cal c_require (hr.mono (by decide)) rfl pass0 (pa_cons (pe_cal c_is_order (hr.mono (by decide)) rfl pass0 (pa_cons (pv 1) (pa_cons (pe_callB (k_len (K := K) rfl) rfl T.b_len (by decide +kernel) (pa_cons (pv 0) pa_nil)) pa_nil))) (pa_cons pe_str pa_nil))))
      (pss_one (ps_ret (pe_cal c_placed (hr.mono (by decide)) rfl pass0 (pa_cons (pv 0) (pa_cons (pv 1) pa_nil))))))), run_pure (N := n_renamed_shares) (fun ds k d hp => ?_) h⟩)
  obtain ⟨ns, os, v, b, rfl, hn, ho, h1, h5, hb, rfl, rfl⟩ := hp
  have hl := hn.len
  refine q_drop (d_call (a_cons (d_var rfl) (a_cons d_str a_nil)) ⟨ns, v, b, "allocation", rfl, hn, h1, h5, hb, rfl, rfl⟩) ?_
  refine q_drop (d_call (a_cons (d_call (k := .v) (d := .bool true) (a_cons (d_var rfl) (a_cons ((d_lenT (d_var rfl)).to (y := .int v) (by rw [List.length_map, hl])) a_nil)) ⟨tupD os, v, rfl, small_ints (by have := ho.len; omega), by omega, rfl, by rw [ho.isB]⟩) (a_cons d_str a_nil)) ⟨"order", rfl, rfl, rfl⟩) ?_
  exact s_ret (d_call (a_cons (d_var rfl) (a_cons (d_var rfl) a_nil)) ⟨ns, os, v, rfl, ho, hl, by omega, rfl, rfl⟩) (.inr ⟨rfl, flatT _⟩) (.inl rfl)

theorem ok_is_assignment {P : Program} {w : World} {K : PySem.W.Frag} {mg : Str → Option Value} {base : Heap} {f : Addr} {fd : FuncData} (F : Fun K "is_assignment" "is_assignment" s_is_assignment f fd) (T : Txt mg) (c_are_integers : Cal P w K mg base CX0 2 "are_integers" p_are_integers (sp_are_integers K)) :
    FnOk P w K mg base CX0 3 f fd p_is_assignment (sp_is_assignment K) := by
  refine F.ok sc_is_assignment (fun vs H Q E h => spD_len h (by rintro ds k d ⟨x, v, b, rfl, _⟩; rfl)) (fun cdv A outer s H vs Q E hr h => ⟨_, (pss_one (ps_ret (pe_and (pe_cal c_are_integers (hr.mono (by decide)) rfl pass0 (pa_cons (pv 0) (pa_cons pe_int (pa_cons (pe_op op_sub (pv 1) pe_int) pa_nil)))) (pe_one (pe_cmpR (k_eq (K := K) rfl (rUnits hr)) (pe_callB (k_len (K := K) rfl) rfl T.b_len (by decide +kernel) (pa_cons (pv 0) pa_nil)) (pv 2) (nomark _)))))), run_pure (N := n_is_assignment) (fun ds k d hp => ?_) h⟩)
  obtain ⟨x, v, b, rfl, hx, rfl, rfl⟩ := hp
  refine s_ret (d_andV (d_call (a_cons (d_var rfl) (a_cons d_int (a_cons (d_sub (d_var rfl) d_int) a_nil))) ⟨x, 0, v - 1, rfl, hx, rfl, rfl⟩) fun h => ?_) (.inr ⟨rfl, rfl⟩) (.inl rfl)
  obtain ⟨ns, rfl, _⟩ := areInts_ints h
  exact (e_eqI (d_lenT (d_var rfl)) (d_var rfl)).to (by rw [lenT_ints, List.length_map])

theorem ok_is_bounded_assignment {P : Program} {w : World} {K : PySem.W.Frag} {mg : Str → Option Value} {base : Heap} {f : Addr} {fd : FuncData} (F : Fun K "is_bounded_assignment" "is_bounded_assignment" s_is_bounded_assignment f fd) (T : Txt mg) (c_are_integers : Cal P w K mg base CX0 2 "are_integers" p_are_integers (sp_are_integers K)) :
    FnOk P w K mg base CX0 3 f fd p_is_bounded_assignment (sp_is_bounded_assignment K) := by
  refine F.ok sc_is_bounded_assignment (fun vs H Q E h => spD_len h (by rintro ds k d ⟨x, v, rfl, _⟩; rfl)) (fun cdv A outer s H vs Q E hr h => ⟨_, (pss_one (ps_ret (pe_and (pe_cal c_are_integers (hr.mono (by decide)) rfl pass0 (pa_cons (pv 0) (pa_cons pe_int (pa_cons (pe_op op_sub (pv 1) pe_int) pa_nil)))) (pe_one (pe_cmpR op_le (pe_callB (k_len (K := K) rfl) rfl T.b_len (by decide +kernel) (pa_cons (pv 0) pa_nil)) (pe_const rfl T.k_MOST_BUCKETS) (nomark _)))))), run_pure (N := n_is_bounded_assignment) (fun ds k d hp => ?_) h⟩)
  obtain ⟨x, v, rfl, hx, rfl, rfl⟩ := hp
  refine s_ret (d_andV (d_call (a_cons (d_var rfl) (a_cons d_int (a_cons (d_sub (d_var rfl) d_int) a_nil))) ⟨x, 0, v - 1, rfl, hx, rfl, rfl⟩) fun h => ?_) (.inr ⟨rfl, rfl⟩) (.inl rfl)
  obtain ⟨ns, rfl, _⟩ := areInts_ints h
  exact (d_le (d_lenT (d_var rfl)) d_int).to (by rw [lenT_ints, List.length_map])

theorem ok_check_assignment {P : Program} {w : World} {K : PySem.W.Frag} {mg : Str → Option Value} {base : Heap} {f : Addr} {fd : FuncData} (F : Fun K "check_assignment" "check_assignment" s_check_assignment f fd) (T : Txt mg) (c_require : Cal P w K mg base CX0 1 "require" p_require (sp_require K)) (c_is_bounded_assignment : Cal P w K mg base CX0 3 "is_bounded_assignment" p_is_bounded_assignment (sp_is_bounded_assignment K)) :
    FnOk P w K mg base CX0 4 f fd p_check_assignment (sp_check_assignment K) := by
  refine F.ok sc_check_assignment (fun vs H Q E h => spD_len h (by rintro ds k d ⟨x, nm, rfl, _⟩; rfl)) (fun cdv A outer s H vs Q E hr h => ⟨_, (pss_one (ps_expr (pe_cal c_require (hr.mono (by decide)) rfl pass0 (pa_cons (pe_cal c_is_bounded_assignment (hr.mono (by decide)) rfl pass0 (pa_cons (pv 0) (pa_cons (pe_const rfl T.k_MOST_VARIANTS) pa_nil))) (pa_cons (pv 1) pa_nil))))), run_pure (N := n_check_assignment) (fun ds k d hp => ?_) h⟩)
  obtain ⟨x, nm, rfl, hx, hb, rfl, rfl⟩ := hp
  refine s_drop (d_call (a_cons (d_call (a_cons (d_var rfl) (a_cons d_int a_nil)) ⟨x, 5, rfl, hx, rfl, rfl⟩) (a_cons (d_var rfl) a_nil)) ⟨nm, by rw [hb], rfl, rfl⟩) (.inr ⟨rfl, rfl, _, rfl⟩)

theorem ok_check_pair {P : Program} {w : World} {K : PySem.W.Frag} {mg : Str → Option Value} {base : Heap} {f : Addr} {fd : FuncData} (F : Fun K "check_pair" "check_pair" s_check_pair f fd) (T : Txt mg) (c_check_assignment : Cal P w K mg base CX0 4 "check_assignment" p_check_assignment (sp_check_assignment K)) (c_require : Cal P w K mg base CX0 1 "require" p_require (sp_require K)) (c_is_assignment : Cal P w K mg base CX0 3 "is_assignment" p_is_assignment (sp_is_assignment K)) :
    FnOk P w K mg base CX0 5 f fd p_check_pair (sp_check_pair K) := by
  refine F.ok sc_check_pair (fun vs H Q E h => spD_len h (by rintro ds k d ⟨ns, ms, rfl, _⟩; rfl)) (fun cdv A outer s H vs Q E hr h => ⟨_, (pss_cons (ps_expr (pe_cal c_check_assignment (hr.mono (by decide)) rfl pass0 (pa_cons (pv 0) (pa_cons pe_str pa_nil))))
      (pss_one (ps_expr (pe_cal c_require (hr.mono (by decide)) rfl pass0 (pa_cons (pe_cal c_is_assignment (hr.mono (by decide)) rfl pass0 (pa_cons (pv 1) (pa_cons (pe_const rfl T.k_MOST_VARIANTS) (pa_cons (pe_callB (k_len (K := K) rfl) rfl T.b_len (by decide +kernel) (pa_cons (pv 0) pa_nil)) pa_nil)))) (pa_cons pe_str pa_nil)))))), run_pure (N := n_check_pair) (fun ds k d hp => ?_) h⟩)
  obtain ⟨ns, ms, rfl, hn, hm, hl, rfl, rfl⟩ := hp
  refine q_drop (d_call (a_cons (d_var rfl) (a_cons d_str a_nil)) ⟨_, _, rfl, hn.small, hn.bAsg (Int.le_refl _), rfl, rfl⟩) ?_
  refine s_drop (d_call (a_cons (d_call (a_cons (d_var rfl) (a_cons d_int (a_cons (d_lenT (d_var rfl)) a_nil))) ⟨.tuple (ms.map .int), 5, _, rfl, hm.small, rfl, rfl⟩) (a_cons d_str a_nil)) ⟨"second", ?_, rfl, rfl⟩) (.inr ⟨rfl, rfl, _, rfl⟩)
  rw [hm.isAsg (by rw [List.length_map, hl])]

theorem ok_check_enough {P : Program} {w : World} {K : PySem.W.Frag} {mg : Str → Option Value} {base : Heap} {f : Addr} {fd : FuncData} (F : Fun K "check_enough" "check_enough" s_check_enough f fd) (T : Txt mg) (c_require : Cal P w K mg base CX0 1 "require" p_require (sp_require K)) (c_is_integer : Cal P w K mg base CX0 1 "is_integer" p_is_integer (sp_is_integer K)) :
    FnOk P w K mg base CX0 2 f fd p_check_enough (sp_check_enough K) := by
  refine F.ok sc_check_enough (fun vs H Q E h => spD_len h (by rintro ds k d ⟨v, ns, rfl, _⟩; rfl)) (fun cdv A outer s H vs Q E hr h => ⟨_, (pss_cons (ps_set (i := 2) sc_check_enough.nd rfl (Or.inl rfl) (pe_op (k_add (K := K) rfl) (pe_callBK (k_maxD (K := K) rfl rfl) rfl T.b_max (by decide +kernel) (pa_cons (pv 1) pa_nil) (pk_cons pe_int pk_nil)) pe_int))
      (pss_one (ps_expr (pe_cal c_require (hr.mono (by decide)) rfl pass0 (pa_cons (pe_cal c_is_integer (hr.mono (by decide)) rfl pass0 (pa_cons (pv 0) (pa_cons (pv 2) (pa_cons (pe_const rfl T.k_MOST_VARIANTS) pa_nil)))) (pa_cons pe_str pa_nil)))))), run_pure (N := n_check_enough) (fun ds k d hp => ?_) h⟩)
  obtain ⟨v, ns, rfl, h1, h2, rfl, rfl⟩ := hp
  refine q_asg (e_add (e_maxD (d_var rfl) d_int) d_int) ?_
  refine s_drop (d_call (a_cons (d_call (a_cons (d_var rfl) (a_cons (d_var rfl) (a_cons d_int a_nil))) ⟨.int v, mxD 0 ns + 1, 5, rfl, rfl, rfl⟩) (a_cons d_str a_nil)) ⟨"variants", ?_, rfl, rfl⟩) (.inr ⟨rfl, rfl, _, rfl⟩)
  simp [isIntD, h1, h2]

theorem ok_allocation_of {P : Program} {w : World} {K : PySem.W.Frag} {mg : Str → Option Value} {base : Heap} {f : Addr} {fd : FuncData} (F : Fun K "allocation_of" "allocation_of" s_allocation_of f fd) (T : Txt mg) (c_check_assignment : Cal P w K mg base CX0 4 "check_assignment" p_check_assignment (sp_check_assignment K)) (c_check_enough : Cal P w K mg base CX0 2 "check_enough" p_check_enough (sp_check_enough K)) :
    FnOk P w K mg base CX0 5 f fd p_allocation_of (sp_allocation_of K) := by
  refine F.ok sc_allocation_of (fun vs H Q E h => spD_len h (by rintro ds k d ⟨ns, v, rfl, _⟩; rfl)) (fun cdv A outer s H vs Q E hr h => ⟨_, (pss_cons (ps_expr (pe_cal c_check_assignment (hr.mono (by decide)) rfl pass0 (pa_cons (pv 0) (pa_cons pe_str pa_nil))))
      (pss_cons (ps_expr (pe_cal c_check_enough (hr.mono (by decide)) rfl pass0 (pa_cons (pv 1) (pa_cons (pv 0) pa_nil))))
      (pss_one (ps_ret (pe_callTy (k_tuple (K := K) rfl) rfl T.b_tuple (by decide +kernel) (pa_cons (pe_lc rfl sc_allocation_of.nd (pi_range1 rfl T.b_range (pa_cons (pv 1) pa_nil)) (blkOk_by (own := [("variant", 2)]) (N := n_allocation_of) (sc := defScope s_allocation_of) (by decide +kernel)) (fun _ _ _ _ _ => by exact (pg_name (i := 2) sc_allocation_of.nd rfl (Or.inl rfl))) (fun _ _ _ _ _ => by exact pts_nil) (fun _ _ _ _ _ => by exact (k_tm (K := K) rfl PySem.F.slot_tuple_count PySem.F.type_tuple_count (k_count (K := K) rfl) (pv 0) (pa_cons (pv 2) pa_nil)))) pa_nil)))))), run_pure (N := n_allocation_of) (fun ds k d hp => ?_) h⟩)
  obtain ⟨ns, v, rfl, ha, h1, h5, rfl, rfl⟩ := hp
  refine q_drop (d_call (a_cons (d_var rfl) (a_cons d_str a_nil)) ⟨_, _, rfl, ha.small, ha.bAsg h5, rfl, rfl⟩) ?_
  refine q_drop (d_call (a_cons (d_var rfl) (a_cons (d_var rfl) a_nil)) ⟨v, ns, rfl, ?_, h5, rfl, rfl⟩) ?_
  · have := mxD_le (ns := ns) (b := v - 1) (by omega) fun n hn => by have := (ha.rng n hn).2; omega
    omega
  refine s_ret (d_tuple ((d_lcI (fun i => (ns.count i : Int)) (i_rng1 (a_cons (d_var rfl) a_nil) (by omega) (by omega)) (by simp [upI]; omega) fun i _ => ⟨_, _, g_name, fun j hj => hj, _, d_count (d_var rfl) (d_var rfl)⟩)) (flatAll_ints _)) (.inr ⟨rfl, ?_⟩) (.inl rfl)
  exact flatT _

theorem ok_churn {P : Program} {w : World} {K : PySem.W.Frag} {mg : Str → Option Value} {base : Heap} {f : Addr} {fd : FuncData} (F : Fun K "churn" "churn" s_churn f fd) (T : Txt mg) (c_moves : Cal P w K mg base CX0 6 "moves" p_moves (sp_moves K)) :
    FnOk P w K mg base CX0 7 f fd p_churn (sp_churn K) := by
  refine F.ok sc_churn (fun vs H Q E h => spD_len h (by rintro ds k d ⟨ns, ms, rfl, _⟩; rfl)) (fun cdv A outer s H vs Q E hr h => ⟨_, (pss_one (ps_ret (pe_callB (k_len (K := K) rfl) rfl T.b_len (by decide +kernel) (pa_cons (pe_cal c_moves (hr.mono (by decide)) rfl pass0 (pa_cons (pv 0) (pa_cons (pv 1) pa_nil))) pa_nil)))), run_pure (N := n_churn) (fun ds k d hp => ?_) h⟩)
  obtain ⟨ns, ms, rfl, hn, hm, hl, rfl, rfl⟩ := hp
  exact s_ret ((d_lenL (d_call (k := .o) (d := .list (movesD ns ms)) (a_cons (d_var rfl) (a_cons (d_var rfl) a_nil)) ⟨ns, ms, rfl, hn, hm, hl, rfl, rfl⟩)).to (by rw [movesD_len hl])) (.inr ⟨rfl, rfl⟩) (.inl rfl)

theorem ok_moves {P : Program} {w : World} {K : PySem.W.Frag} {mg : Str → Option Value} {base : Heap} {f : Addr} {fd : FuncData} (F : Fun K "moves" "moves" s_moves f fd) (T : Txt mg) (c_check_pair : Cal P w K mg base CX0 5 "check_pair" p_check_pair (sp_check_pair K)) :
    FnOk P w K mg base CX0 6 f fd p_moves (sp_moves K) := by
  refine F.ok sc_moves (fun vs H Q E h => spD_len h (by rintro ds k d ⟨ns, ms, rfl, _⟩; rfl)) (fun cdv A outer s H vs Q E hr h => ⟨_, (pss_cons (ps_expr (pe_cal c_check_pair (hr.mono (by decide)) rfl pass0 (pa_cons (pv 0) (pa_cons (pv 1) pa_nil))))
      (pss_one (ps_ret (pe_lc rfl sc_moves.nd (k_enumZ (K := K) rfl rfl T.b_enumerate rfl T.b_zip (pa_cons (pv 0) (pa_cons (pv 1) pa_nil))) (blkOk_by (own := [("bucket", 2), ("old", 3), ("new", 4)]) (N := n_moves) (sc := defScope s_moves) (by decide +kernel)) (fun _ _ _ _ _ => by exact (k_tup (K := K) (n := 2) rfl rfl (pgs_cons (pg_name (i := 2) sc_moves.nd rfl (Or.inl rfl)) (pgs_cons (k_tup (K := K) (n := 2) rfl rfl (pgs_cons (pg_name (i := 3) sc_moves.nd rfl (Or.inl rfl)) (pgs_cons (pg_name (i := 4) sc_moves.nd rfl (Or.inl rfl)) pgs_nil))) pgs_nil)))) (fun _ _ _ _ _ => by exact (pts_one (pt_cmpR (k_ne (K := K) rfl (rUnits hr)) (pv 3) (pv 4) (nomark _)))) (fun _ _ _ _ _ => by exact (pe_tupN (pa_cons (pv 2) (pa_cons (pv 3) (pa_cons (pv 4) pa_nil))))))))), run_pure (N := n_moves) (fun ds k d hp => ?_) h⟩)
  obtain ⟨ns, ms, rfl, hn, hm, hl, rfl, rfl⟩ := hp
  refine q_drop (d_call (a_cons (d_var rfl) (a_cons (d_var rfl) a_nil)) ⟨ns, ms, rfl, hn, hm, hl, rfl, rfl⟩) ?_
  exact s_ret (d_lc (l := (ns.zip ms).zipIdx) (en := ezI) (fun p => !decide (p.1.1 = p.1.2)) mvT (i_enumZ hl (a_consV (d_var rfl) (a_consV (d_var rfl) a_nil))) (by simp; have := hn.len; omega) fun p _ => ⟨_, _, g_tup rfl (g_cons g_name (g_cons (g_tup rfl (g_cons g_name (g_cons g_name g_nil))) g_nil)), fun j hj => hj, t_test (e_neI (d_var rfl) (d_var rfl)), fun _ => (d_tup (a_consV (d_var rfl) (a_consV (d_var rfl) (a_consV (d_var rfl) a_nil))) (by simp)).fo rfl⟩) (.inl rfl) (.inl rfl)

theorem ok_flows {P : Program} {w : World} {K : PySem.W.Frag} {mg : Str → Option Value} {base : Heap} {f : Addr} {fd : FuncData} (F : Fun K "flows" "flows" s_flows f fd) (T : Txt mg) (c_check_pair : Cal P w K mg base CX0 5 "check_pair" p_check_pair (sp_check_pair K)) (c_check_enough : Cal P w K mg base CX0 2 "check_enough" p_check_enough (sp_check_enough K)) :
    FnOk P w K mg base CX0 6 f fd p_flows (sp_flows K) := by
  refine F.ok sc_flows (fun vs H Q E h => spD_len h (by rintro ds k d ⟨f, g, v, rfl, _⟩; rfl)) (fun cdv A outer s H vs Q E hr h => ⟨_, (pss_cons (ps_expr (pe_cal c_check_pair (hr.mono (by decide)) rfl pass0 (pa_cons (pv 0) (pa_cons (pv 1) pa_nil))))
      (pss_cons (ps_expr (pe_cal c_check_enough (hr.mono (by decide)) rfl pass0 (pa_cons (pv 2) (pa_cons (pe_op (k_add (K := K) rfl) (pv 0) (pv 1)) pa_nil))))
      (pss_cons (ps_set (i := 3) sc_flows.nd rfl (Or.inr rfl) (k_listZip (K := K) rfl rfl rfl T.b_list rfl T.b_zip (pa_cons (pv 0) (pa_cons (pv 1) pa_nil))))
      (pss_one (ps_ret (pe_callTy (k_tuple (K := K) rfl) rfl T.b_tuple (by decide +kernel) (pa_cons (pe_lc rfl sc_flows.nd (pi_range1 rfl T.b_range (pa_cons (pv 2) pa_nil)) (blkOk_by (own := [("old", 5)]) (N := n_flows) (sc := defScope s_flows) (by decide +kernel)) (fun _ _ _ _ _ => by exact (pg_name (i := 5) sc_flows.nd rfl (Or.inr rfl))) (fun _ _ _ _ _ => by exact pts_nil) (fun _ _ _ _ _ => by exact (pe_callTy (k_tuple (K := K) rfl) rfl T.b_tuple (by decide +kernel) (pa_cons (pe_lc rfl sc_flows.nd (pi_range1 rfl T.b_range (pa_cons (pv 2) pa_nil)) (show BlkOk n_flows (L2.relS _ (defScope s_flows)) _ [("new", 4)] from blkOk_by (by decide +kernel)) (fun _ _ _ _ _ => by exact (pg_name (i := 4) sc_flows.nd rfl (Or.inl rfl))) (fun _ _ _ _ _ => by exact pts_nil) (fun _ _ _ _ _ => by exact (k_bm (K := K) rfl PySem.F.plainAttrs_list PySem.F.slot_list_count PySem.F.type_list_count (k_lcount (K := K) rfl (rUnits5 hr)) (pv 3) (pa_cons (pe_tupN (pa_cons (pv 5) (pa_cons (pv 4) pa_nil))) pa_nil)))) pa_nil)))) pa_nil))))))), run_pure (N := n_flows) (fun ds k d hp => ?_) h⟩)
  obtain ⟨f, g, v, rfl, hf, hg, hl, h1, h5, rfl, rfl⟩ := hp
  have up5 : ∀ {r : List Int}, Asg r v → Asg r 5 := fun h => ⟨h.len, fun n hn => ⟨(h.rng n hn).1, by have := (h.rng n hn).2; omega⟩⟩
  have f20 := hf.len
  refine q_drop (d_call (a_cons (d_var rfl) (a_cons (d_var rfl) a_nil)) ⟨f, g, rfl, up5 hf, up5 hg, hl, rfl, rfl⟩) ?_
  refine q_drop (d_call (a_cons (d_var rfl) (a_cons ((e_catT (d_var rfl) (d_var rfl) (by simp; omega)).to (y := .tuple ((f ++ g).map .int)) (by rw [List.map_append])) a_nil)) ⟨v, f ++ g, rfl, ?_, h5, rfl, rfl⟩) ?_
  · have := mxD_le (ns := f ++ g) (b := v - 1) (by omega) fun n hn => by
      rcases List.mem_append.mp hn with w | w
      · have := (hf.rng n w).2; omega
      · have := (hg.rng n w).2; omega
    omega
  refine q_asgO (e_listZip (a_consV (d_var rfl) (a_consV (d_var rfl) a_nil)) (flatAll_ints f) (flatAll_ints g) (.inl (by simp; omega)) (by simp; omega)) ?_
  refine s_ret (d_tuple (d_lcA (fun o => tupD (rowI (f.zip g) v o)) (i_rng1 (a_cons (d_var rfl) a_nil) (by omega) (by omega)) (by simp [upI]; omega) fun o _ => ⟨_, _, g_name, fun j hj => hj, (d_tuple (d_lcI (fun n => cntP (f.zip g) o n) (i_rng1 (a_cons (d_var rfl) a_nil) (by omega) (by omega)) (by simp [upI]; omega) fun n _ => ⟨_, _, g_name, fun j hj => hj, .v, ?_⟩) (flatAll_ints _)).fo (flatT _)⟩) (fl_flatAll _ _)) (.inr ⟨rfl, fl_flatAll _ _⟩) (.inl rfl)
  exact (e_countL (d_varO rfl) (d_tup (a_consV (d_var rfl) (a_consV (d_var rfl) a_nil)) (by simp)) (by rw [zipTs_ints]; exact shapedR _) (shapedT [o, n])).to (by rw [cnt_eq])

theorem ok_buckets_of {P : Program} {w : World} {K : PySem.W.Frag} {mg : Str → Option Value} {base : Heap} {f : Addr} {fd : FuncData} (F : Fun K "buckets_of" "buckets_of" s_buckets_of f fd) (T : Txt mg) (c_check_assignment : Cal P w K mg base CX0 4 "check_assignment" p_check_assignment (sp_check_assignment K)) (c_require : Cal P w K mg base CX0 1 "require" p_require (sp_require K)) (c_is_integer : Cal P w K mg base CX0 1 "is_integer" p_is_integer (sp_is_integer K)) :
    FnOk P w K mg base CX0 5 f fd p_buckets_of (sp_buckets_of K) := by
  refine F.ok sc_buckets_of (fun vs H Q E h => spD_len h (by rintro ds k d ⟨ns, v, rfl, _⟩; rfl)) (fun cdv A outer s H vs Q E hr h => ⟨_, (pss_cons (ps_expr (pe_cal c_check_assignment (hr.mono (by decide)) rfl pass0 (pa_cons (pv 0) (pa_cons pe_str pa_nil))))
      (pss_cons (ps_expr (pe_cal c_require (hr.mono (by decide)) rfl pass0 (pa_cons (pe_cal c_is_integer (hr.mono (by decide)) rfl pass0 (pa_cons (pv 1) (pa_cons pe_int (pa_cons (pe_op op_sub (pe_const rfl T.k_MOST_VARIANTS) pe_int) pa_nil)))) (pa_cons pe_str pa_nil))))
      (pss_one (ps_ret (pe_lc rfl sc_buckets_of.nd (k_enum (K := K) rfl rfl T.b_enumerate (pa_cons (pv 0) pa_nil)) (blkOk_by (own := [("bucket", 2), ("own", 3)]) (N := n_buckets_of) (sc := defScope s_buckets_of) (by decide +kernel)) (fun _ _ _ _ _ => by exact (k_tup (K := K) (n := 2) rfl rfl (pgs_cons (pg_name (i := 2) sc_buckets_of.nd rfl (Or.inl rfl)) (pgs_cons (pg_name (i := 3) sc_buckets_of.nd rfl (Or.inl rfl)) pgs_nil)))) (fun _ _ _ _ _ => by exact (pts_one (pt_cmpR (k_eq (K := K) rfl (rUnits hr)) (pv 3) (pv 1) (nomark _)))) (fun _ _ _ _ _ => by exact (pv 2))))))), run_pure (N := n_buckets_of) (fun ds k d hp => ?_) h⟩)
  obtain ⟨ns, v, rfl, ha, h0, h4, rfl, rfl⟩ := hp
  refine q_drop (d_call (a_cons (d_var rfl) (a_cons d_str a_nil)) ⟨_, _, rfl, ha.small, ha.bAsg (Int.le_refl _), rfl, rfl⟩) ?_
  refine q_drop (d_call (a_cons (d_call (a_cons (d_var rfl) (a_cons d_int (a_cons (d_sub d_int d_int) a_nil))) ⟨.int v, 0, 4, rfl, rfl, rfl⟩) (a_cons d_str a_nil)) ⟨"variant", ?_, rfl, rfl⟩) ?_
  · simp [isIntD, h0, h4]
  refine s_ret (d_lcPI (l := ns.zipIdx) (en := pairI) (fun p => decide (p.1 = v)) (fun p => ((p.2 : Nat) : Int)) (i_enumTI (a_consV (d_var rfl) a_nil)) (by simp; have := ha.len; omega) fun p _ => ⟨_, _, g_tup rfl (g_cons g_name (g_cons g_name g_nil)), fun j hj => hj, t_test (e_eqI (d_var rfl) (d_var rfl)), fun _ => ⟨_, d_var rfl⟩⟩) (.inl rfl) (.inl rfl)

theorem ok_renamed {P : Program} {w : World} {K : PySem.W.Frag} {mg : Str → Option Value} {base : Heap} {f : Addr} {fd : FuncData} (F : Fun K "renamed" "renamed" s_renamed f fd) (T : Txt mg) (c_check_assignment : Cal P w K mg base CX0 4 "check_assignment" p_check_assignment (sp_check_assignment K)) (c_require : Cal P w K mg base CX0 1 "require" p_require (sp_require K)) (c_is_order : Cal P w K mg base CX0 3 "is_order" p_is_order (sp_is_orderD K)) :
    FnOk P w K mg base CX0 5 f fd p_renamed (sp_renamed K) := by
  refine F.ok sc_renamed (fun vs H Q E h => spD_len h (by rintro ds k d ⟨ns, os, rfl, _⟩; rfl)) (fun cdv A outer s H vs Q E hr h => ⟨_, (pss_cons (ps_expr (pe_cal c_check_assignment (hr.mono (by decide)) rfl pass0 (pa_cons (pv 0) (pa_cons pe_str pa_nil))))
      (pss_cons (ps_expr (pe_cal c_require (hr.mono (by decide)) rfl pass0 (pa_cons (pe_cal c_is_order (hr.mono (by decide)) rfl pass0 (pa_cons (pv 1) (pa_cons (pe_const rfl T.k_MOST_VARIANTS) pa_nil))) (pa_cons pe_str pa_nil))))
      (pss_one (ps_ret (pe_callTy (k_tuple (K := K) rfl) rfl T.b_tuple (by decide +kernel) (pa_cons (pe_lc rfl sc_renamed.nd (k_seq (K := K) rfl (pv 0)) (blkOk_by (own := [("variant", 2)]) (N := n_renamed) (sc := defScope s_renamed) (by decide +kernel)) (fun _ _ _ _ _ => by exact (pg_name (i := 2) sc_renamed.nd rfl (Or.inl rfl))) (fun _ _ _ _ _ => by exact pts_nil) (fun _ _ _ _ _ => by exact (pe_ix (k_ix (K := K) rfl) (pv 1) (pv 2) (fun _ _ => rfl)))) pa_nil)))))), run_pure (N := n_renamed) (fun ds k d hp => ?_) h⟩)
  obtain ⟨ns, os, rfl, hn, ho, rfl, rfl⟩ := hp
  have ol := ho.len
  refine q_drop (d_call (a_cons (d_var rfl) (a_cons d_str a_nil)) ⟨_, _, rfl, hn.small, hn.bAsg (Int.le_refl _), rfl, rfl⟩) ?_
  refine q_drop (d_call (a_cons (d_call (k := .v) (d := .bool true) (a_cons (d_var rfl) (a_cons d_int a_nil)) ⟨tupD os, 5, rfl, small_ints (by omega), by decide, rfl, by rw [ho.isB]⟩) (a_cons d_str a_nil)) ⟨"order", rfl, rfl, rfl⟩) ?_
  refine s_ret (d_tuple (d_lcI (l := ns) (en := imI) (fun i => os.getD i.toNat 0) (i_seqTI (d_var rfl) kv_ne) (by have := hn.len; omega) fun n hm => ?_) (flatAll_ints _)) (.inr ⟨rfl, flatT _⟩) (.inl rfl)
  have r := hn.rng n hm
  obtain ⟨j, rfl⟩ := Int.eq_ofNat_of_zero_le r.1
  exact ⟨_, _, g_name, fun j hj => hj, .v, e_ixT (d_var rfl) (d_var rfl) (at_ints (by omega)) rfl⟩

theorem ok_rearranged {P : Program} {w : World} {K : PySem.W.Frag} {mg : Str → Option Value} {base : Heap} {f : Addr} {fd : FuncData} (F : Fun K "rearranged" "rearranged" s_rearranged f fd) (T : Txt mg) (c_check_assignment : Cal P w K mg base CX0 4 "check_assignment" p_check_assignment (sp_check_assignment K)) (c_require : Cal P w K mg base CX0 1 "require" p_require (sp_require K)) (c_placed : Cal P w K mg base CX0 1 "placed" p_placed (sp_placed K)) (c_is_order : Cal P w K mg base CX0 3 "is_order" p_is_order (sp_is_orderD K)) :
    FnOk P w K mg base CX0 5 f fd p_rearranged (sp_rearranged K) := by
  refine F.ok sc_rearranged (fun vs H Q E h => spD_len h (by rintro ds k d ⟨ns, os, rfl, _⟩; rfl)) (fun cdv A outer s H vs Q E hr h => ⟨_, (pss_cons (ps_expr (pe_cal c_check_assignment (hr.mono (by decide)) rfl pass0 (pa_cons (pv 0) (pa_cons pe_str pa_nil))))
      (pss_cons (ps_expr (pe_cal c_require (hr.mono (by decide)) rfl pass0 (pa_cons (pe_cal c_is_order (hr.mono (by decide)) rfl pass0 (pa_cons (pv 1) (pa_cons (pe_callB (k_len (K := K) rfl) rfl T.b_len (by decide +kernel) (pa_cons (pv 0) pa_nil)) pa_nil))) (pa_cons pe_str pa_nil))))
      (pss_one (ps_ret (pe_cal c_placed (hr.mono (by decide)) rfl pass0 (pa_cons (pv 0) (pa_cons (pv 1) pa_nil))))))), run_pure (N := n_rearranged) (fun ds k d hp => ?_) h⟩)
  obtain ⟨ns, os, rfl, hn, ho, rfl, rfl⟩ := hp
  have nl := hn.len
  have ol := ho.len
  refine q_drop (d_call (a_cons (d_var rfl) (a_cons d_str a_nil)) ⟨_, _, rfl, hn.small, hn.bAsg (Int.le_refl _), rfl, rfl⟩) ?_
  refine q_drop (d_call (a_cons (d_call (k := .v) (d := .bool true) (a_cons (d_var rfl) (a_cons ((d_lenT (d_var rfl)).to (y := .int (ns.length : Int)) (by rw [List.length_map])) a_nil)) ⟨tupD os, (ns.length : Int), rfl, small_ints (by omega), by omega, rfl, by rw [ho.isB]⟩) (a_cons d_str a_nil)) ⟨"order", rfl, rfl, rfl⟩) ?_
  exact s_ret (d_call (a_cons (d_var rfl) (a_cons (d_var rfl) a_nil)) ⟨ns, os, _, rfl, ho, rfl, by omega, rfl, rfl⟩) (.inr ⟨rfl, flatT _⟩) (.inl rfl)

theorem ok__law_stream {P : Program} {w : World} {K : PySem.W.Frag} {mg : Str → Option Value} {base : Heap} {f : Addr} {fd : FuncData} (F : Fun K "_law_stream" "_law_stream" s__law_stream f fd) (T : Txt mg) :
    FnOk P w K mg base CX0 1 f fd p__law_stream (sp__law_stream K) := by
  refine F.ok sc__law_stream (fun vs H Q E h => by obtain ⟨a, ns, rfl, _⟩ := h; rfl) (fun cdv A outer s H vs Q E hr h => ⟨_, (pss_one (ps_ret (pe_lst (pa_cons (pe_callTy (k_list (K := K) rfl) rfl T.b_list (by decide +kernel) (pa_cons (pv 0) pa_nil)) (pa_cons pe_int (pa_cons pe_int pa_nil)))))), ?_⟩)
  obtain ⟨a, ns, rfl, hS, hl, k⟩ := h
  refine ⟨_, rfl, a, _, rfl, .inl hS, fun l hl => ⟨(by show 3 ≤ sizeLine; decide), fun st hst => ?_⟩⟩
  have nls : l ≠ st := fun z => by rw [z, upd_same] at hst; cases hst
  have hs0 : H st = none := by rw [← upd_ne (H := H) (o := .lst (ns.map V.int)) nls.symm]; exact hst
  refine k st l _ (fun b o z => ?_) hs0 ⟨ns, 0, 0, upd_same, by rw [upd_ne nls, upd_same], nls, by decide⟩
  rw [upd_ne (ne_of_none z hs0), upd_ne (ne_of_none z hl)]
  exact z

theorem ok__law_next {P : Program} {w : World} {K : PySem.W.Frag} {mg : Str → Option Value} {base : Heap} {f : Addr} {fd : FuncData} (F : Fun K "_law_next" "_law_next" s__law_next f fd) (T : Txt mg) :
    FnOk P w K mg base CX0 1 f fd p__law_next (sp__law_next K) := by
  refine F.ok sc__law_next (fun vs H Q E h => spS_len h (by rintro ds k P ⟨m, rfl, _⟩; rfl)) (fun cdv A outer s H vs Q E hr h => ⟨_, (Evl.pss_cut (ps_if (pt_cmpR (k_eq (K := K) rfl (rUnits hr)) (pe_ix (k_ix (K := K) rfl) (pv 0) pe_int (fun _ _ => rfl)) pe_int (nomark _)) (pss_cons (ps_set (i := 2) sc__law_next.nd rfl (Or.inl rfl) (pe_ix (k_ix (K := K) rfl) (pv 0) pe_int (fun _ _ => rfl)))
      (pss_cons (ps_set (i := 3) sc__law_next.nd rfl (Or.inl rfl) (pe_op (k_add (K := K) rfl) pe_int (pv 2)))
      (Evl.pss_cut (ps_if (pt_cmpR op_lt (pv 2) (pe_callB (k_len (K := K) rfl) rfl T.b_len (by decide +kernel) (pa_cons (pe_ix (k_ix (K := K) rfl) (pv 0) pe_int (fun _ _ => rfl)) pa_nil)) (nomark _)) (pss_one (ps_set (i := 3) sc__law_next.nd rfl (Or.inl rfl) (pe_callB call_abs rfl T.b_abs (by decide +kernel) (pa_cons (pe_ix (k_ix (K := K) rfl) (pe_ix (k_ix (K := K) rfl) (pv 0) pe_int (fun _ _ => rfl)) (pv 2) (fun _ _ => rfl)) pa_nil)))) pss_nil)
      (Evl.pss_cut (ps_if (pt_cmpR op_lt (pv 3) (pe_op op_pow pe_int pe_int) (nomark _)) (pss_cons (ps_set (i := 3) sc__law_next.nd rfl (Or.inl rfl) (pe_op op_mod (pe_callTy call_int1 rfl T.b_int (by decide +kernel) (pa_cons (pe_op (k_add (K := K) rfl) (pe_op (k_add (K := K) rfl) (pe_op op_mulA (pv 3) pe_int) (pe_op op_mulA (pv 2) pe_int)) pe_int) pa_nil)) pe_int))
      (pss_one (ps_set (i := 3) sc__law_next.nd rfl (Or.inl rfl) (pe_op (k_add (K := K) rfl) (pe_op op_mulA (pe_op op_mod (pe_callTy call_int1 rfl T.b_int (by decide +kernel) (pa_cons (pe_op (k_add (K := K) rfl) (pe_op op_mulA (pv 3) pe_int) pe_int) pa_nil)) pe_int) pe_int) (pv 3))))) pss_nil)
      (pss_cons (ps_asg (pv 3) (pg_sub (pv 0) pe_int set_list))
      (pss_one (ps_asg (pe_op (k_add (K := K) rfl) (pv 2) pe_int) (pg_sub (pv 0) pe_int set_list)))))))) pss_nil)
      (pss_cons (ps_set (i := 4) sc__law_next.nd rfl (Or.inl rfl) (pe_op op_mod (pe_callTy call_int1 rfl T.b_int (by decide +kernel) (pa_cons (pe_ix (k_ix (K := K) rfl) (pv 0) pe_int (fun _ _ => rfl)) pa_nil)) (pv 1)))
      (pss_cons (ps_asg (pe_op op_fdiv (pe_ix (k_ix (K := K) rfl) (pv 0) pe_int (fun _ _ => rfl)) (pv 1)) (pg_sub (pv 0) pe_int set_list))
      (pss_one (ps_ret (pv 4)))))), ?_⟩)
  obtain ⟨st, l, vs', ds, kd, P', rfl, hst, hb, ⟨m, rfl, hm, hm2, rfl, rfl⟩, hq⟩ := h
  obtain ⟨mv, rfl, bm⟩ := hb.one
  have em := bm.int'
  subst em
  obtain ⟨ns, x, k, h1, h2, h3, h4⟩ := hst
  -- behind the first if the stream's cell is any int
  refine ⟨fun σ H1 => ∃ (a b c : Option V) (x k : Int), σ = [some (.ref st), some (.int m), a, b, c] ∧ H1 st = some (.lst [.ref l, .int x, .int k]) ∧ H1 l = some (.lst (ns.map V.int)) ∧ 0 ≤ k ∧ ∀ a o, a ≠ st → H a = some o → H1 a = some o, ?_, ?_⟩
  · refine ⟨_, rfl, .inl ⟨st, _, 1, .int x, rfl, rfl, .inl (.inl h1), rfl, .inl ⟨rfl, _, rfl, ?_⟩⟩⟩
    refine ite2 (fun _ => ?_) (fun _ => ⟨_, _, _, x, k, rfl, h1, h2, h4, fun _ _ _ z => z⟩)
    refine ⟨_, rfl, .inl ⟨st, _, 2, .int k, rfl, rfl, .inl (.inl h1), rfl, ?_⟩⟩
    refine ⟨_, rfl, .inl ⟨7, k, rfl, rfl, ?_⟩⟩
    refine ⟨fun σ H1 => H1 = H ∧ ∃ z : Int, σ = [some (.ref st), some (.int m), some (.int k), some (.int z), none], ?_, ?_⟩
    · refine ⟨_, rfl, _, rfl, .inl ⟨st, _, 0, .ref l, rfl, rfl, .inl (.inl h1), rfl, ⟨l, _, rfl, .inl (.inl (.inl h2)), k, _, rfl, rfl, _, rfl, ?_⟩⟩⟩
      refine ite2 (fun hk => ?_) (fun _ => ⟨rfl, _, rfl⟩)
      have hk' : k < (ns.length : Int) := by simpa using of_decide_eq_true hk
      obtain ⟨j, rfl⟩ := Int.eq_ofNat_of_zero_le h4
      have hj : j < ns.length := by omega
      have hat : atI (ns.map V.int) (j : Int) = some (.int ns[j]) := atI_nat (by simp [hj])
      exact ⟨_, rfl, .inl ⟨st, _, 0, .ref l, rfl, rfl, .inl (.inl h1), rfl, _, rfl, .inl ⟨l, _, (j : Int), _, rfl, rfl, .inl (.inl h2), hat, _, rfl, rfl, _, rfl⟩⟩⟩
    · rintro σ H1 ⟨rfl, z, rfl⟩
      refine ⟨fun σ H1' => H1' = H1 ∧ ∃ z : Int, σ = [some (.ref st), some (.int m), some (.int k), some (.int z), none], ?_, ?_⟩
      · refine ⟨_, rfl, 10, 18, rfl, rfl, ⟨by decide, by decide, by decide⟩, z, _, rfl, rfl, _, rfl, ?_⟩
        refine ite2 (fun _ => ?_) (fun _ => ⟨rfl, _, rfl⟩)
        refine ⟨_, rfl, .inl ⟨z, 48271, rfl, rfl, .inr ⟨by decide, by decide⟩, _, rfl, .inl ⟨k, 69621, rfl, rfl, .inr ⟨by decide, by decide⟩, .inl ⟨_, _, rfl, rfl, .inl ⟨_, _, rfl, rfl, .inl ⟨_, rfl, _, _, rfl, rfl, (by show (0 : Int) < 2147483647; decide), ?_⟩⟩⟩⟩⟩⟩
        refine ⟨_, rfl, .inl ⟨_, 16807, rfl, rfl, .inr ⟨by decide, by decide⟩, .inl ⟨_, _, rfl, rfl, .inl ⟨_, rfl, _, _, rfl, rfl, (by show (0 : Int) < 2147483647; decide), .inl ⟨_, 65537, rfl, rfl, .inr ⟨by decide, by decide⟩, _, rfl, .inl ⟨_, _, rfl, rfl, rfl, _, rfl⟩⟩⟩⟩⟩⟩
      · rintro σ H1' ⟨rfl, z, rfl⟩
        refine ⟨_, rfl, _, rfl, st, _, 1, 1, rfl, rfl, h1, rfl, ?_⟩
        refine ⟨_, rfl, .inl ⟨k, 1, rfl, rfl, _, rfl, st, _, 2, 2, rfl, rfl, upd_same, rfl, ?_⟩⟩
        refine ⟨_, _, _, z, k + 1, rfl, upd_same, by rw [upd_ne h3, upd_ne h3]; exact h2, by omega, fun a o na ha => by rw [upd_ne na, upd_ne na]; exact ha⟩
  · rintro σ H1 ⟨a, b, c, x, k, rfl, g1, g2, g4, g5⟩
    refine ⟨_, rfl, .inl ⟨st, _, 1, .int x, rfl, rfl, .inl (.inl g1), rfl, .inl ⟨x, rfl, _, rfl, x, m, rfl, rfl, hm, ?_⟩⟩⟩
    refine ⟨_, rfl, .inl ⟨st, _, 1, .int x, rfl, rfl, .inl (.inl g1), rfl, _, rfl, x, m, rfl, rfl, ⟨hm, hm2⟩, _, rfl, st, _, 1, 1, rfl, rfl, g1, rfl, ?_⟩⟩
    refine ⟨_, rfl, hq _ (.int (x % m)) _ ⟨x % m, rfl, Int.emod_nonneg _ (by omega), Int.emod_lt_of_pos _ hm⟩ ⟨fun a o na ha => ?_, fun _ st' l' e => ?_⟩ ⟨rfl, .int _⟩⟩
    · have : a ≠ st := na st l rfl
      rw [upd_ne this]
      exact g5 a o this ha
    · cases e
      exact Str1.put g2 h3 g4

theorem ok__law_pick {P : Program} {w : World} {K : PySem.W.Frag} {mg : Str → Option Value} {base : Heap} {f : Addr} {fd : FuncData} (F : Fun K "_law_pick" "_law_pick" s__law_pick f fd) (T : Txt mg) (c__law_next : Cal P w K mg base CX0 1 "_law_next" p__law_next (sp__law_next K)) :
    FnOk P w K mg base CX0 2 f fd p__law_pick (sp__law_pick K) := by
  refine F.ok sc__law_pick (fun vs H Q E h => by obtain ⟨st, l, p, xs, rfl, _⟩ := h; rfl) (fun cdv A outer s H vs Q E hr h => ⟨_, (pss_one (ps_ret (pe_ix (k_ix (K := K) rfl) (pv 1) (pe_cal c__law_next (hr.mono (by decide)) rfl pass0 (pa_cons (pv 0) (pa_cons (pe_callB (k_len (K := K) rfl) rfl T.b_len (by decide +kernel) (pa_cons (pv 1) pa_nil)) pa_nil))) (fun _ _ => rfl)))), ?_⟩)
  obtain ⟨st, l, p, xs, rfl, hst, sq, np, h1, h2, q⟩ := h
  refine ⟨.ref p, rfl, .ref st, rfl, .ref p, rfl, p, xs, rfl, .inl sq, ?_⟩
  refine ⟨st, l, [.int xs.length], [.int xs.length], .v, _, rfl, hst, .cons (.int _) .nil, ⟨_, rfl, by omega, by omega, rfl, rfl⟩, fun v d H' hd r rt => ?_⟩
  obtain ⟨n, rfl, n0, n1⟩ := hd
  obtain ⟨n, rfl⟩ := Int.eq_ofNat_of_zero_le n0
  have hv := rt.2.int'
  subst hv
  have hn : n < xs.length := by omega
  have hg : xs[n]? = some xs[n] := List.getElem?_eq_getElem hn
  exact .inl ⟨p, xs, n, xs[n], rfl, rfl, r.lst (fun st' l' e => by cases e; exact np) sq, atI_nat hg, q n xs[n] H' hg r⟩

theorem ok__law_allocation {P : Program} {w : World} {K : PySem.W.Frag} {mg : Str → Option Value} {base : Heap} {f : Addr} {fd : FuncData} (F : Fun K "_law_allocation" "_law_allocation" s__law_allocation f fd) (T : Txt mg) (c__law_next : Cal P w K mg base CX0 1 "_law_next" p__law_next (sp__law_next K)) :
    FnOk P w K mg base CX0 2 f fd p__law_allocation (sp__law_allocation K) := by
  refine F.ok sc__law_allocation (fun vs H Q E h => spS_len h (by rintro ds k P ⟨v, b, rfl, _⟩; rfl)) (fun cdv A outer s H vs Q E hr h => ⟨_, (pss_cons (ps_setLc (i := 3) rfl sc__law_allocation.nd rfl rfl (sw_true rfl rfl rfl (by decide +kernel)) (pi_range1 rfl T.b_range (pa_cons (pv 1) pa_nil)) (blkOk_by (own := [("variant", 4)]) (N := n__law_allocation) (sc := defScope s__law_allocation) (by decide +kernel)) (fun _ _ _ _ _ => by exact (pg_name (i := 4) sc__law_allocation.nd rfl (Or.inl rfl))) (fun _ _ _ _ _ => by exact pts_nil) (fun _ _ _ _ _ => by exact pe_int))
      (pss_cons (ps_for PassesOwn.never rfl (pi_range1 rfl T.b_range (pa_cons (pv 2) pa_nil)) (pg_name (i := 5) sc__law_allocation.nd rfl (Or.inl rfl)) (pss_cons (ps_set (i := 4) sc__law_allocation.nd rfl (Or.inl rfl) (pe_cal c__law_next (hr.mono (by decide)) rfl pass0 (pa_cons (pv 0) (pa_cons (pv 1) pa_nil))))
      (pss_one (ps_asg (pe_op (k_add (K := K) rfl) (pe_ix (k_ix (K := K) rfl) (pv 3) (pv 4) (fun _ _ => rfl)) pe_int) (pg_sub (pv 3) (pv 4) set_list)))))
      (pss_one (ps_ret (pe_callTy (k_tuple (K := K) rfl) rfl T.b_tuple (by decide +kernel) (pa_cons (pv 3) pa_nil)))))), run_str (N := n__law_allocation) (fun st l ds k P' hp => ?_) h⟩)
  obtain ⟨v, b, rfl, h1, h2, h3, h4, rfl, rfl⟩ := hp
  refine q_asgO (d_lcI (fun _ => 0) (i_rng1 (a_cons (d_var rfl) a_nil) (by omega) (by omega)) (by simp [upI]; omega) fun i _ => ⟨_, _, g_name, fun j hj => hj, .v, d_int⟩) ?_
  refine q_for (i_rng1 (a_cons (d_var rfl) a_nil) (by omega) (by omega))
    (fun n Γ1 => ∃ ns t4 t5, Γ1 = [some (.r (.ref st)), some (.v (.int v)), some (.v (.int b)), some (.o (.list (ns.map .int))), t4, t5] ∧ Alc ns v n) ⟨_, _, _, rfl, alc0 (by omega)⟩ (fun n a Γ1 hn' hI => ?_) (fun Γ1 hI => ?_)
  · obtain ⟨ns, t4, t5, rfl, ha⟩ := hI
    obtain ⟨i, rfl, hi1, hi2⟩ := upI_get hn'
    refine ⟨_, _, g_name, q_asgN _ (n_call (st := st) (l := l) rfl rfl (a_cons (d_var rfl) a_nil) ⟨v, rfl, by omega, by omega, rfl, rfl⟩) ?_⟩
    rintro d ⟨x, rfl, hx0, hx1⟩
    obtain ⟨m, rfl⟩ := Int.eq_ofNat_of_zero_le hx0
    have hm : m < ns.length := by have := ha.len; omega
    have hg : (ns.map PyData.int)[m]? = some (.int (ns.getD m 0)) := by simp [hm]
    exact s_setII rfl (e_add (e_ixL (d_varO rfl) (d_var rfl) (atI_nat hg) rfl) d_int) (d_var rfl) rfl hm (.inl ⟨_, .inl rfl, ns.set m (ns.getD m 0 + 1), _, _, rfl, ha.one hm⟩)
  · obtain ⟨ns, t4, t5, rfl, ha⟩ := hI
    have hb : (b.toNat : Int) = b := by omega
    refine s_ret (d_tuple (d_varO rfl) (flatAll_ints _)) (.inr ⟨rfl, flatT _⟩) ⟨_, rfl, ns, rfl, ?_⟩
    simpa [upI, hb] using ha

theorem ok__law_assignment {P : Program} {w : World} {K : PySem.W.Frag} {mg : Str → Option Value} {base : Heap} {f : Addr} {fd : FuncData} (F : Fun K "_law_assignment" "_law_assignment" s__law_assignment f fd) (T : Txt mg) (c__law_next : Cal P w K mg base CX0 1 "_law_next" p__law_next (sp__law_next K)) :
    FnOk P w K mg base CX0 2 f fd p__law_assignment (sp__law_assignment K) := by
  refine F.ok sc__law_assignment (fun vs H Q E h => spS_len h (by rintro ds k P ⟨v, b, rfl, _⟩; rfl)) (fun cdv A outer s H vs Q E hr h => ⟨_, (pss_one (ps_ret (pe_callTy (k_tuple (K := K) rfl) rfl T.b_tuple (by decide +kernel) (pa_cons (pe_lc rfl sc__law_assignment.nd (pi_range1 rfl T.b_range (pa_cons (pv 2) pa_nil)) (blkOk_by (own := [("bucket", 3)]) (N := n__law_assignment) (sc := defScope s__law_assignment) (by decide +kernel)) (fun _ _ _ _ _ => by exact (pg_name (i := 3) sc__law_assignment.nd rfl (Or.inl rfl))) (fun _ _ _ _ _ => by exact pts_nil) (fun _ _ _ _ _ => by exact (pe_cal c__law_next (hr.mono (by decide)) rfl pass0 (pa_cons (pv 0) (pa_cons (pv 1) pa_nil))))) pa_nil)))), run_str (N := n__law_assignment) (fun st l ds k P' hp => ?_) h⟩)
  obtain ⟨v, b, rfl, h1, h2, h3, h4, rfl, rfl⟩ := hp
  refine s_retN _ (n_tuple (n_draws (fun n => 0 ≤ n ∧ n < v) (i_rng1 (a_cons (d_var rfl) a_nil) (by omega) (by omega)) (by simp [upI]; omega) fun a ha => ?_) ?_) (.inr ⟨rfl, ?_⟩) ?_
  · obtain ⟨i, _, rfl⟩ := List.mem_map.mp ha
    exact ⟨_, _, g_name, fun j hj => hj, _, n_call (st := st) (l := l) rfl rfl (a_cons (d_var rfl) a_nil) ⟨v, rfl, by omega, by omega, rfl, rfl⟩⟩
  · rintro ds ⟨ns, rfl, _⟩
    exact flatAll_ints ns
  · rintro d ⟨ds, rfl, ns, rfl, _⟩
    exact flatT ns
  · rintro d ⟨ds, rfl, ns, rfl, hn, hq⟩
    refine ⟨_, rfl, ns, rfl, ?_, hq⟩
    rw [hn]
    simp [upI]
    omega

theorem ok__law_order {P : Program} {w : World} {K : PySem.W.Frag} {mg : Str → Option Value} {base : Heap} {f : Addr} {fd : FuncData} (F : Fun K "_law_order" "_law_order" s__law_order f fd) (T : Txt mg) (c__law_next : Cal P w K mg base CX0 1 "_law_next" p__law_next (sp__law_next K)) :
    FnOk P w K mg base CX0 2 f fd p__law_order (sp__law_order K) := by
  refine F.ok sc__law_order (fun vs H Q E h => spS_len h (by rintro ds k P ⟨m, rfl, _⟩; rfl)) (fun cdv A outer s H vs Q E hr h => ⟨_, (pss_cons (ps_set (i := 2) sc__law_order.nd rfl (Or.inr rfl) (pe_listRg rfl rfl T.b_list (prg_1 rfl T.b_range (pv 1))))
      (pss_one (ps_ret (pe_callTy (k_tuple (K := K) rfl) rfl T.b_tuple (by decide +kernel) (pa_cons (pe_lc rfl sc__law_order.nd (pi_range1 rfl T.b_range (pa_cons (pv 1) pa_nil)) (blkOk_by (own := [("k", 3)]) (N := n__law_order) (sc := defScope s__law_order) (by decide +kernel)) (fun _ _ _ _ _ => by exact (pg_name (i := 3) sc__law_order.nd rfl (Or.inl rfl))) (fun _ _ _ _ _ => by exact pts_nil) (fun _ _ _ _ _ => by exact (k_bm (K := K) rfl PySem.F.plainAttrs_list PySem.F.slot_list_pop PySem.F.type_list_pop mt_popAt (pv 2) (pa_cons (pe_cal c__law_next (hr.mono (by decide)) rfl pass0 (pa_cons (pv 0) (pa_cons (pe_callB (k_len (K := K) rfl) rfl T.b_len (by decide +kernel) (pa_cons (pv 2) pa_nil)) pa_nil))) pa_nil)))) pa_nil))))), run_str (N := n__law_order) (fun st l ds k P' hp => ?_) h⟩)
  obtain ⟨m, rfl, h0, h1, rfl, rfl⟩ := hp
  refine q_asgO (e_listRg (d_var rfl) h0 (by omega)) ?_
  refine s_popAll rfl rfl rfl (ord_upI h0) h1 fun ms hms => ⟨_, rfl, ms, rfl, hms⟩

theorem ok__law_rows {P : Program} {w : World} {K : PySem.W.Frag} {mg : Str → Option Value} {base : Heap} {f : Addr} {fd : FuncData} (F : Fun K "_law_rows" "_law_rows" s__law_rows f fd) (T : Txt mg) (c__law_next : Cal P w K mg base CX0 1 "_law_next" p__law_next (sp__law_next K)) (c__law_order : Cal P w K mg base CX0 2 "_law_order" p__law_order (sp__law_order K)) (c__law_allocation : Cal P w K mg base CX0 2 "_law_allocation" p__law_allocation (sp__law_allocation K)) (c__law_assignment : Cal P w K mg base CX0 2 "_law_assignment" p__law_assignment (sp__law_assignment K)) :
    FnOk P w K mg base CX0 3 f fd p__law_rows (sp__law_rows09 K) := by
  refine F.ok sc__law_rows (fun vs H Q E h => spS_len h (by rintro ds k P ⟨rfl, _⟩; rfl)) (fun cdv A outer s H vs Q E hr h => ⟨_, (pss_cons (ps_set (i := 1) sc__law_rows.nd rfl (Or.inr rfl) (pe_op (k_add (K := K) rfl) pe_int (pe_cal c__law_next (hr.mono (by decide)) rfl pass0 (pa_cons (pv 0) (pa_cons pe_int pa_nil)))))
      (pss_cons (ps_set (i := 2) sc__law_rows.nd rfl (Or.inr rfl) (pe_cal c__law_next (hr.mono (by decide)) rfl pass0 (pa_cons (pv 0) (pa_cons pe_int pa_nil))))
      (pss_cons (ps_setLc (i := 3) rfl sc__law_rows.nd rfl rfl (sw_true rfl rfl rfl (by decide +kernel)) (pi_range1 rfl T.b_range (pa_cons pe_int pa_nil)) (blkOk_by (own := [("k", 4)]) (N := n__law_rows) (sc := defScope s__law_rows) (by decide +kernel)) (fun _ _ _ _ _ => by exact (pg_name (i := 4) sc__law_rows.nd rfl (Or.inl rfl))) (fun _ _ _ _ _ => by exact pts_nil) (fun _ _ _ _ _ => by exact (pe_cal c__law_allocation (hr.mono (by decide)) rfl pass0 (pa_cons (pv 0) (pa_cons (pv 1) (pa_cons (pv 2) pa_nil))))))
      (pss_cons (ps_set (i := 5) sc__law_rows.nd rfl (Or.inr rfl) (pe_lc rfl sc__law_rows.nd (pi_range1 rfl T.b_range (pa_cons pe_int pa_nil)) (blkOk_by (own := [("k", 4)]) (N := n__law_rows) (sc := defScope s__law_rows) (by decide +kernel)) (fun _ _ _ _ _ => by exact (pg_name (i := 4) sc__law_rows.nd rfl (Or.inl rfl))) (fun _ _ _ _ _ => by exact pts_nil) (fun _ _ _ _ _ => by exact (pe_cal c__law_assignment (hr.mono (by decide)) rfl pass0 (pa_cons (pv 0) (pa_cons (pv 1) (pa_cons (pv 2) pa_nil)))))))
      (pss_cons (ps_set (i := 6) sc__law_rows.nd rfl (Or.inl rfl) (pe_lst (pa_cons pe_non (pa_cons (pe_tupN pa_nil) (pa_cons (pe_op (k_repU (K := K) rfl) (pe_tupN (pa_cons pe_int pa_nil)) pe_int) (pa_cons (pe_callTy (k_list (K := K) rfl) rfl T.b_list (by decide +kernel) (pa_cons (pe_ix (k_ix (K := K) rfl) (pv 3) pe_int (fun _ _ => rfl)) pa_nil)) (pa_cons (pe_op (k_add (K := K) rfl) (pe_ix (k_ix (K := K) rfl) (pv 3) pe_int (fun _ _ => rfl)) (pe_op (k_repU (K := K) rfl) (pe_tupN (pa_cons pe_int pa_nil)) pe_int)) (pa_cons (pe_tupN (pa_cons pe_int pa_nil)) (pa_cons (pe_tupN (pa_cons (pe_un un_neg pe_int) (pa_cons pe_int pa_nil))) (pa_cons (pe_tupN (pa_cons pe_bl pa_nil)) (pa_cons (pe_tupN (pa_cons pe_str pa_nil)) (pa_cons (pe_tupN (pa_cons pe_int (pa_cons pe_int pa_nil))) pa_nil))))))))))))
      (pss_cons (ps_set (i := 7) sc__law_rows.nd rfl (Or.inl rfl) (pe_lst (pa_cons pe_non (pa_cons (pe_tupN pa_nil) (pa_cons (pe_op (k_add (K := K) rfl) (pe_ix (k_ix (K := K) rfl) (pv 3) pe_int (fun _ _ => rfl)) (pe_tupN (pa_cons pe_int pa_nil))) (pa_cons (pe_slice (k_slT (K := K) rfl) (pe_ix (k_ix (K := K) rfl) (pv 3) pe_int (fun _ _ => rfl)) po_none (po_some (pe_un un_neg pe_int))) (pa_cons (pe_op (k_add (K := K) rfl) (pe_slice (k_slT (K := K) rfl) (pe_ix (k_ix (K := K) rfl) (pv 3) pe_int (fun _ _ => rfl)) po_none (po_some (pe_un un_neg pe_int))) (pe_tupN (pa_cons (pe_op (k_add (K := K) rfl) (pe_ix (k_ix (K := K) rfl) (pe_ix (k_ix (K := K) rfl) (pv 3) pe_int (fun _ _ => rfl)) (pe_un un_neg pe_int) (fun _ _ => rfl)) pe_int) pa_nil))) (pa_cons (pe_callTy (k_list (K := K) rfl) rfl T.b_list (by decide +kernel) (pa_cons (pe_ix (k_ix (K := K) rfl) (pv 3) pe_int (fun _ _ => rfl)) pa_nil)) pa_nil))))))))
      (pss_cons (ps_if (pt_cmpR op_gt (pv 1) pe_int (nomark _)) (pss_one (ps_expr (k_bm (K := K) rfl PySem.F.plainAttrs_list PySem.F.slot_list_append PySem.F.type_list_append mt_append (pv 7) (pa_cons (pe_op (k_add (K := K) rfl) (pe_tupN (pa_cons (pe_op (k_add (K := K) rfl) (pe_op (k_add (K := K) rfl) (pe_ix (k_ix (K := K) rfl) (pe_ix (k_ix (K := K) rfl) (pv 3) pe_int (fun _ _ => rfl)) pe_int (fun _ _ => rfl)) (pe_ix (k_ix (K := K) rfl) (pe_ix (k_ix (K := K) rfl) (pv 3) pe_int (fun _ _ => rfl)) pe_int (fun _ _ => rfl))) pe_int) (pa_cons (pe_un un_neg pe_int) pa_nil))) (pe_slice (k_slT (K := K) rfl) (pe_ix (k_ix (K := K) rfl) (pv 3) pe_int (fun _ _ => rfl)) (po_some pe_int) po_none)) pa_nil)))) pss_nil)
      (pss_cons (ps_if (pt_cmpR (k_in (K := K) rfl) pe_int (pe_ix (k_ix (K := K) rfl) (pv 3) pe_int (fun _ _ => rfl)) (by with_unfolding_all rfl)) (pss_cons (ps_set (i := 8) sc__law_rows.nd rfl (Or.inr rfl) (k_tm (K := K) rfl PySem.F.slot_tuple_index PySem.F.type_tuple_index (k_index (K := K) rfl) (pe_ix (k_ix (K := K) rfl) (pv 3) pe_int (fun _ _ => rfl)) (pa_cons pe_int pa_nil)))
      (pss_one (ps_expr (k_bm (K := K) rfl PySem.F.plainAttrs_list PySem.F.slot_list_append PySem.F.type_list_append mt_append (pv 7) (pa_cons (pe_op (k_add (K := K) rfl) (pe_op (k_add (K := K) rfl) (pe_slice (k_slT (K := K) rfl) (pe_ix (k_ix (K := K) rfl) (pv 3) pe_int (fun _ _ => rfl)) po_none (po_some (pv 8))) (pe_tupN (pa_cons pe_bl pa_nil))) (pe_slice (k_slT (K := K) rfl) (pe_ix (k_ix (K := K) rfl) (pv 3) pe_int (fun _ _ => rfl)) (po_some (pe_op (k_add (K := K) rfl) (pv 8) pe_int)) po_none)) pa_nil))))) pss_nil)
      (pss_cons (ps_set (i := 9) sc__law_rows.nd rfl (Or.inl rfl) (pe_lst (pa_cons pe_non (pa_cons (pe_lst (pa_cons pe_int pa_nil)) (pa_cons (pe_tupN (pa_cons pe_int pa_nil)) (pa_cons (pe_tupN (pa_cons (pe_un un_neg pe_int) pa_nil)) (pa_cons (pe_tupN (pa_cons pe_bl pa_nil)) (pa_cons (pe_tupN (pa_cons pe_str pa_nil)) (pa_cons (pe_op (k_repU (K := K) rfl) (pe_tupN (pa_cons pe_int pa_nil)) pe_int) (pa_cons (pe_tupN (pa_cons pe_non pa_nil)) pa_nil))))))))))
      (pss_cons (ps_set (i := 10) sc__law_rows.nd rfl (Or.inl rfl) (pe_lst (pa_cons pe_non (pa_cons (pe_op (k_add (K := K) rfl) (pe_ix (k_ix (K := K) rfl) (pv 5) pe_int (fun _ _ => rfl)) (pe_tupN (pa_cons pe_int pa_nil))) (pa_cons (pe_callTy (k_list (K := K) rfl) rfl T.b_list (by decide +kernel) (pa_cons (pe_ix (k_ix (K := K) rfl) (pv 5) pe_int (fun _ _ => rfl)) pa_nil)) (pa_cons (pe_op (k_repU (K := K) rfl) (pe_tupN (pa_cons pe_int pa_nil)) (pe_op (k_add (K := K) rfl) (pv 2) pe_int)) pa_nil))))))
      (pss_cons (ps_if (pt_cmpR op_gt (pv 2) pe_int (nomark _)) (pss_cons (ps_set (i := 8) sc__law_rows.nd rfl (Or.inr rfl) (pe_cal c__law_next (hr.mono (by decide)) rfl pass0 (pa_cons (pv 0) (pa_cons (pv 2) pa_nil))))
      (pss_one (ps_expr (k_bm (K := K) rfl PySem.F.plainAttrs_list PySem.F.slot_list_extend PySem.F.type_list_extend mt_extend (pv 10) (pa_cons (pe_lc rfl sc__law_rows.nd (k_seq (K := K) rfl (pe_lst (pa_cons pe_int (pa_cons (pe_un un_neg pe_int) (pa_cons pe_bl (pa_cons pe_non (pa_cons pe_str pa_nil))))))) (blkOk_by (own := [("one", 11)]) (N := n__law_rows) (sc := defScope s__law_rows) (by decide +kernel)) (fun _ _ _ _ _ => by exact (pg_name (i := 11) sc__law_rows.nd rfl (Or.inl rfl))) (fun _ _ _ _ _ => by exact pts_nil) (fun _ _ _ _ _ => by exact (pe_op (k_add (K := K) rfl) (pe_op (k_add (K := K) rfl) (pe_slice (k_slT (K := K) rfl) (pe_ix (k_ix (K := K) rfl) (pv 5) pe_int (fun _ _ => rfl)) po_none (po_some (pv 8))) (pe_tupN (pa_cons (pv 11) pa_nil))) (pe_slice (k_slT (K := K) rfl) (pe_ix (k_ix (K := K) rfl) (pv 5) pe_int (fun _ _ => rfl)) (po_some (pe_op (k_add (K := K) rfl) (pv 8) pe_int)) po_none)))) pa_nil))))) pss_nil)
      (pss_cons (ps_set (i := 12) sc__law_rows.nd rfl (Or.inl rfl) (pe_callTy (k_tuple (K := K) rfl) rfl T.b_tuple (by decide +kernel) (pa_cons (pe_lc rfl sc__law_rows.nd (pi_range1 rfl T.b_range (pa_cons (pv 1) pa_nil)) (blkOk_by (own := [("k", 4)]) (N := n__law_rows) (sc := defScope s__law_rows) (by decide +kernel)) (fun _ _ _ _ _ => by exact (pg_name (i := 4) sc__law_rows.nd rfl (Or.inl rfl))) (fun _ _ _ _ _ => by exact pts_nil) (fun _ _ _ _ _ => by exact (pe_op (k_add (K := K) rfl) pe_int (pe_cal c__law_next (hr.mono (by decide)) rfl pass0 (pa_cons (pv 0) (pa_cons pe_int pa_nil)))))) pa_nil)))
      (pss_cons (ps_set (i := 13) sc__law_rows.nd rfl (Or.inl rfl) (pe_lst (pa_cons pe_non (pa_cons (pe_tupN pa_nil) (pa_cons (pe_tupN (pa_cons pe_int pa_nil)) (pa_cons (pe_tupN (pa_cons pe_int (pa_cons pe_int pa_nil))) (pa_cons (pe_tupN (pa_cons pe_int pa_nil)) (pa_cons (pe_tupN (pa_cons (pe_un un_neg pe_int) (pa_cons pe_int pa_nil))) (pa_cons (pe_op (k_repU (K := K) rfl) (pe_tupN (pa_cons pe_int pa_nil)) pe_int) (pa_cons (pe_tupN (pa_cons pe_bl pa_nil)) (pa_cons (pe_lst (pa_cons pe_int pa_nil)) (pa_cons (pe_tupN (pa_cons pe_str pa_nil)) pa_nil))))))))))))
      (pss_cons (ps_set (i := 14) sc__law_rows.nd rfl (Or.inl rfl) (pe_lst (pa_cons pe_int (pa_cons pe_int (pa_cons pe_non (pa_cons pe_bl (pa_cons pe_str (pa_cons (pe_un un_neg pe_int) pa_nil))))))))
      (pss_cons (ps_set (i := 15) sc__law_rows.nd rfl (Or.inl rfl) (pe_lst (pa_cons pe_non (pa_cons (pe_lst (pa_cons pe_int (pa_cons pe_int (pa_cons pe_int (pa_cons pe_int (pa_cons pe_int pa_nil)))))) (pa_cons (pe_tupN (pa_cons pe_int (pa_cons pe_int (pa_cons pe_int (pa_cons pe_int pa_nil))))) (pa_cons (pe_tupN (pa_cons pe_int (pa_cons pe_int (pa_cons pe_int (pa_cons pe_int (pa_cons pe_int pa_nil)))))) (pa_cons (pe_tupN (pa_cons pe_int (pa_cons pe_int (pa_cons pe_int (pa_cons pe_int (pa_cons pe_int pa_nil)))))) (pa_cons (pe_tupN (pa_cons pe_int (pa_cons pe_int (pa_cons pe_int (pa_cons pe_int (pa_cons pe_bl pa_nil)))))) pa_nil))))))))
      (pss_cons (ps_set (i := 16) sc__law_rows.nd rfl (Or.inl rfl) (pe_cal c__law_order (hr.mono (by decide)) rfl pass0 (pa_cons (pv 0) (pa_cons (pv 2) pa_nil))))
      (pss_cons (ps_set (i := 17) sc__law_rows.nd rfl (Or.inl rfl) (pe_lst (pa_cons pe_non (pa_cons (pe_callTy (k_list (K := K) rfl) rfl T.b_list (by decide +kernel) (pa_cons (pv 16) pa_nil)) (pa_cons (pe_op (k_add (K := K) rfl) (pv 16) (pe_tupN (pa_cons (pe_op (k_add (K := K) rfl) (pv 2) pe_int) pa_nil))) (pa_cons (pe_op (k_repU (K := K) rfl) (pe_tupN (pa_cons pe_bl pa_nil)) (pe_callB (call_max2 rfl) rfl T.b_max (by decide +kernel) (pa_cons (pv 2) (pa_cons pe_int pa_nil)))) (pa_cons (pe_op (k_repU (K := K) rfl) (pe_tupN (pa_cons pe_int pa_nil)) (pe_op (k_add (K := K) rfl) (pv 2) pe_int)) pa_nil)))))))
      (pss_cons (ps_set (i := 18) sc__law_rows.nd rfl (Or.inl rfl) (pe_lst (pa_cons (pe_tupN (pa_cons pe_str (pa_cons (pe_slice (k_slU (K := K) rfl) (pv 3) po_none (po_some pe_int)) (pa_cons (pe_lst (pa_cons (pv 6) (pa_cons (pv 7) pa_nil))) (pa_cons (pe_lst (pa_cons pe_str (pa_cons pe_str pa_nil))) pa_nil))))) (pa_cons (pe_tupN (pa_cons pe_str (pa_cons (pv 3) (pa_cons (pe_lst (pa_cons (pv 6) (pa_cons (pv 7) (pa_cons (pv 7) pa_nil)))) (pa_cons (pe_lst (pa_cons pe_str (pa_cons pe_str (pa_cons pe_str pa_nil)))) pa_nil))))) (pa_cons (pe_tupN (pa_cons pe_str (pa_cons (pe_lst (pa_cons (pv 12) (pa_cons (pv 2) pa_nil))) (pa_cons (pe_lst (pa_cons (pv 13) (pa_cons (pe_lst (pa_cons (pe_un un_neg pe_int) (pa_cons pe_int (pa_cons pe_non (pa_cons pe_bl (pa_cons pe_str pa_nil)))))) pa_nil))) (pa_cons (pe_lst (pa_cons pe_str (pa_cons pe_str pa_nil))) pa_nil))))) pa_nil)))))
      (pss_cons (ps_for PassesOwn.never rfl (k_seq (K := K) rfl (pe_lst (pa_cons pe_str (pa_cons pe_str pa_nil)))) (pg_name (i := 19) sc__law_rows.nd rfl (Or.inl rfl)) (pss_one (ps_expr (k_bm (K := K) rfl PySem.F.plainAttrs_list PySem.F.slot_list_append PySem.F.type_list_append mt_append (pv 18) (pa_cons (pe_tupN (pa_cons (pv 19) (pa_cons (pe_lst (pa_cons (pv 12) (pa_cons (pe_ix (k_ix (K := K) rfl) (pv 3) pe_int (fun _ _ => rfl)) pa_nil))) (pa_cons (pe_lst (pa_cons (pv 13) (pa_cons (pe_op (k_catS (K := K) rfl) (pv 6) (pe_lst (pa_cons (pe_op (k_add (K := K) rfl) (pe_ix (k_ix (K := K) rfl) (pv 3) pe_int (fun _ _ => rfl)) (pe_tupN (pa_cons pe_int pa_nil))) pa_nil))) pa_nil))) (pa_cons (pe_lst (pa_cons pe_str (pa_cons pe_str pa_nil))) pa_nil))))) pa_nil)))))
      (pss_cons (ps_expr (k_bm (K := K) rfl PySem.F.plainAttrs_list PySem.F.slot_list_append PySem.F.type_list_append mt_append (pv 18) (pa_cons (pe_tupN (pa_cons pe_str (pa_cons (pe_lst (pa_cons (pe_ix (k_ix (K := K) rfl) (pv 3) pe_int (fun _ _ => rfl)) (pa_cons (pe_cal c__law_order (hr.mono (by decide)) rfl pass0 (pa_cons (pv 0) (pa_cons (pv 1) pa_nil))) pa_nil))) (pa_cons (pe_lst (pa_cons (pv 6) (pa_cons (pe_lst (pa_cons pe_non (pa_cons (pe_op (k_repU (K := K) rfl) (pe_tupN (pa_cons pe_int pa_nil)) (pe_op (k_add (K := K) rfl) (pv 1) pe_int)) (pa_cons (pe_listRg rfl rfl T.b_list (prg_1 rfl T.b_range (pv 1))) (pa_cons (pe_op (k_repU (K := K) rfl) (pe_tupN (pa_cons pe_int pa_nil)) (pv 1)) pa_nil))))) pa_nil))) (pa_cons (pe_lst (pa_cons pe_str (pa_cons pe_str pa_nil))) pa_nil))))) pa_nil)))
      (pss_cons (ps_set (i := 20) sc__law_rows.nd rfl (Or.inl rfl) (pe_op (k_add (K := K) rfl) (pe_callB (k_maxTU (K := K) rfl rfl (rUnits hr)) rfl T.b_max (by decide +kernel) (pa_cons (pe_op (k_add (K := K) rfl) (pe_op (k_add (K := K) rfl) (pe_ix (k_ix (K := K) rfl) (pv 5) pe_int (fun _ _ => rfl)) (pe_ix (k_ix (K := K) rfl) (pv 5) pe_int (fun _ _ => rfl))) (pe_tupN (pa_cons pe_int pa_nil))) pa_nil)) pe_int))
      (pss_cons (ps_expr (k_bm (K := K) rfl PySem.F.plainAttrs_list PySem.F.slot_list_append PySem.F.type_list_append mt_append (pv 18) (pa_cons (pe_tupN (pa_cons pe_str (pa_cons (pe_lst (pa_cons (pe_ix (k_ix (K := K) rfl) (pv 5) pe_int (fun _ _ => rfl)) (pa_cons (pv 20) pa_nil))) (pa_cons (pe_lst (pa_cons (pv 9) (pa_cons (pe_lst (pa_cons pe_int (pa_cons pe_int (pa_cons pe_non (pa_cons pe_bl (pa_cons pe_str (pa_cons (pe_callB (k_maxTU (K := K) rfl rfl (rUnits hr)) rfl T.b_max (by decide +kernel) (pa_cons (pe_op (k_add (K := K) rfl) (pe_ix (k_ix (K := K) rfl) (pv 5) pe_int (fun _ _ => rfl)) (pe_tupN (pa_cons pe_int pa_nil))) pa_nil)) pa_nil))))))) pa_nil))) (pa_cons (pe_lst (pa_cons pe_str (pa_cons pe_str pa_nil))) pa_nil))))) pa_nil)))
      (pss_cons (ps_expr (k_bm (K := K) rfl PySem.F.plainAttrs_list PySem.F.slot_list_append PySem.F.type_list_append mt_append (pv 18) (pa_cons (pe_tupN (pa_cons pe_str (pa_cons (pe_lst (pa_cons (pe_ix (k_ix (K := K) rfl) (pv 5) pe_int (fun _ _ => rfl)) (pa_cons (pe_ix (k_ix (K := K) rfl) (pv 5) pe_int (fun _ _ => rfl)) (pa_cons (pv 20) pa_nil)))) (pa_cons (pe_lst (pa_cons (pv 9) (pa_cons (pv 10) (pa_cons (pe_op (k_catS (K := K) rfl) (pv 14) (pe_lst (pa_cons (pe_op op_sub (pv 20) pe_int) pa_nil))) pa_nil)))) (pa_cons (pe_lst (pa_cons pe_str (pa_cons pe_str (pa_cons pe_str pa_nil)))) pa_nil))))) pa_nil)))
      (pss_cons (ps_for PassesOwn.never rfl (k_seq (K := K) rfl (pe_lst (pa_cons pe_str (pa_cons pe_str pa_nil)))) (pg_name (i := 19) sc__law_rows.nd rfl (Or.inl rfl)) (pss_one (ps_expr (k_bm (K := K) rfl PySem.F.plainAttrs_list PySem.F.slot_list_append PySem.F.type_list_append mt_append (pv 18) (pa_cons (pe_tupN (pa_cons (pv 19) (pa_cons (pv 5) (pa_cons (pe_lst (pa_cons (pv 9) (pa_cons (pv 10) pa_nil))) (pa_cons (pe_lst (pa_cons pe_str (pa_cons pe_str pa_nil))) pa_nil))))) pa_nil)))))
      (pss_cons (ps_expr (k_bm (K := K) rfl PySem.F.plainAttrs_list PySem.F.slot_list_append PySem.F.type_list_append mt_append (pv 18) (pa_cons (pe_tupN (pa_cons pe_str (pa_cons (pe_lst (pa_cons (pe_ix (k_ix (K := K) rfl) (pv 5) pe_int (fun _ _ => rfl)) (pa_cons (pe_cal c__law_next (hr.mono (by decide)) rfl pass0 (pa_cons (pv 0) (pa_cons pe_int pa_nil))) pa_nil))) (pa_cons (pe_lst (pa_cons (pv 9) (pa_cons (pe_lst (pa_cons pe_int (pa_cons (pe_un un_neg pe_int) (pa_cons pe_non (pa_cons pe_bl (pa_cons pe_str pa_nil)))))) pa_nil))) (pa_cons (pe_lst (pa_cons pe_str (pa_cons pe_str pa_nil))) pa_nil))))) pa_nil)))
      (pss_cons (ps_expr (k_bm (K := K) rfl PySem.F.plainAttrs_list PySem.F.slot_list_append PySem.F.type_list_append mt_append (pv 18) (pa_cons (pe_tupN (pa_cons pe_str (pa_cons (pe_lst (pa_cons (pe_ix (k_ix (K := K) rfl) (pv 5) pe_int (fun _ _ => rfl)) (pa_cons (pe_cal c__law_order (hr.mono (by decide)) rfl pass0 (pa_cons (pv 0) (pa_cons pe_int pa_nil))) pa_nil))) (pa_cons (pe_lst (pa_cons (pv 9) (pa_cons (pv 15) pa_nil))) (pa_cons (pe_lst (pa_cons pe_str (pa_cons pe_str pa_nil))) pa_nil))))) pa_nil)))
      (pss_cons (ps_expr (k_bm (K := K) rfl PySem.F.plainAttrs_list PySem.F.slot_list_append PySem.F.type_list_append mt_append (pv 18) (pa_cons (pe_tupN (pa_cons pe_str (pa_cons (pe_lst (pa_cons (pe_ix (k_ix (K := K) rfl) (pv 5) pe_int (fun _ _ => rfl)) (pa_cons (pv 16) pa_nil))) (pa_cons (pe_lst (pa_cons (pv 9) (pa_cons (pv 17) pa_nil))) (pa_cons (pe_lst (pa_cons pe_str (pa_cons pe_str pa_nil))) pa_nil))))) pa_nil)))
      (pss_one (ps_ret (pv 18)))))))))))))))))))))))))))))), run_str (N := n__law_rows) (fun st l ds k P' hp => ?_) h⟩)
  obtain ⟨rfl, rfl, rfl⟩ := hp
  have drw : ∀ {Γ : List (Option Rs)} (m : Int), 0 < m → m < 1073741824 → Γ[0]? = some (some (.r (.ref st))) → EvN (sc K st l) (tCall (sp__law_next K) [] E0 (tCons (tVar 0) (tCons (tC (.int m)) tNil))) Γ .v (SomeI fun i => 0 ≤ i ∧ i < m) := fun m m0 m1 h => n_call (st := st) (l := l) rfl h (a_cons d_int a_nil) ⟨m, rfl, m0, m1, rfl, rfl⟩
  refine q_asgN (SomeI fun i => 1 ≤ i ∧ i < 6) (n_add (d_int.sm (Q := fun m => m = 1) rfl) (drw 5 (by decide) (by decide) rfl) (fun m n hm hn => by omega)) ?_
  rintro d ⟨v0, rfl, v1, v6⟩
  obtain ⟨v, rfl⟩ := Int.eq_ofNat_of_zero_le (show 0 ≤ v0 by omega)
  have v1 : 1 ≤ v := by omega
  have v5 : v ≤ 5 := by omega
  refine q_asgN (SomeI fun i => 0 ≤ i ∧ i < 21) (drw 21 (by decide) (by decide) rfl) ?_
  rintro d ⟨b0, rfl, b1, b21⟩
  obtain ⟨b, rfl⟩ := Int.eq_ofNat_of_zero_le b1
  have b20 : b ≤ 20 := by omega
  refine q_asgNO (fun d => ∃ acc, d = .list acc ∧ acc.length = 3 ∧ ∀ x ∈ acc, ∃ ns : List Int, x = .tuple (ns.map .int) ∧ Alc ns (v : Int) (b : Int)) ((n_drawsP (fun d => ∃ ns : List Int, d = .tuple (ns.map .int) ∧ Alc ns (v : Int) (b : Int)) (fun d hd => by obtain ⟨ns, rfl, _⟩ := hd; exact flatT _) (i_rngN (n := 3) (a_cons d_int a_nil) (by decide)) (by simp [browL, bwtL, bnumL, bordL, bplL, bapL, bosL, bctL, bbkL, oneL]) fun a ha => by
    obtain ⟨i, _, rfl⟩ := List.mem_map.mp ha
    exact ⟨_, _, g_name, fun j hj => hj, .v, n_call (st := st) (l := l) rfl rfl (a_cons (d_var rfl) (a_cons (d_var rfl) a_nil)) ⟨(v : Int), (b : Int), rfl, by omega, by omega, by omega, by omega, rfl, rfl⟩⟩).imp fun d hd => by simpa using hd) ?_
  rintro _ ⟨acc, rfl, la, ac⟩
  obtain ⟨as, bs, cs, rfl, ha, hb', hc⟩ : ∃ as bs cs : List Int, acc = [tupD as, tupD bs, tupD cs] ∧ Alc as (v : Int) (b : Int) ∧ Alc bs (v : Int) (b : Int) ∧ Alc cs (v : Int) (b : Int) := by
    match acc, la, ac with
    | [x, y, z], _, ac =>
      obtain ⟨as, rfl, h1⟩ := ac x (by simp [browL, bwtL, bnumL, bordL, bplL, bapL, bosL, bctL, bbkL, oneL])
      obtain ⟨bs, rfl, h2⟩ := ac y (by simp [browL, bwtL, bnumL, bordL, bplL, bapL, bosL, bctL, bbkL, oneL])
      obtain ⟨cs, rfl, h3⟩ := ac z (by simp [browL, bwtL, bnumL, bordL, bplL, bapL, bosL, bctL, bbkL, oneL])
      exact ⟨as, bs, cs, rfl, h1, h2, h3⟩
  refine s_freeze (n := 3) rfl ?_
  refine q_asgNO (fun d => ∃ acc, d = .list acc ∧ acc.length = 2 ∧ ∀ x ∈ acc, ∃ ns : List Int, x = .tuple (ns.map .int) ∧ (ns.length : Int) = (b : Int) ∧ ∀ n ∈ ns, 0 ≤ n ∧ n < (v : Int)) ((n_drawsP (fun d => ∃ ns : List Int, d = .tuple (ns.map .int) ∧ (ns.length : Int) = (b : Int) ∧ ∀ n ∈ ns, 0 ≤ n ∧ n < (v : Int)) (fun d hd => by obtain ⟨ns, rfl, _⟩ := hd; exact flatT _) (i_rngN (n := 2) (a_cons d_int a_nil) (by decide)) (by simp [browL, bwtL, bnumL, bordL, bplL, bapL, bosL, bctL, bbkL, oneL]) fun a ha => by
    obtain ⟨i, _, rfl⟩ := List.mem_map.mp ha
    exact ⟨_, _, g_name, fun j hj => hj, .v, n_call (st := st) (l := l) rfl rfl (a_cons (d_var rfl) (a_cons (d_var rfl) a_nil)) ⟨(v : Int), (b : Int), rfl, by omega, by omega, by omega, by omega, rfl, rfl⟩⟩).imp fun d hd => by simpa using hd) ?_
  rintro _ ⟨acc, rfl, la, ac⟩
  obtain ⟨f, g, rfl, fl, fr, gl, gr⟩ : ∃ f g : List Int, acc = [tupD f, tupD g] ∧ f.length = b ∧ (∀ n ∈ f, 0 ≤ n ∧ n < (v : Int)) ∧ g.length = b ∧ ∀ n ∈ g, 0 ≤ n ∧ n < (v : Int) := by
    match acc, la, ac with
    | [x, y], _, ac =>
      obtain ⟨f, rfl, h1, h2⟩ := ac x (by simp [browL, bwtL, bnumL, bordL, bplL, bapL, bosL, bctL, bbkL, oneL])
      obtain ⟨g, rfl, h3, h4⟩ := ac y (by simp [browL, bwtL, bnumL, bordL, bplL, bapL, bosL, bctL, bbkL, oneL])
      exact ⟨f, g, rfl, by omega, h2, by omega, h4⟩
  refine s_freeze (n := 5) rfl ?_
  have al := ha.len
  have af : Asg f 5 := ⟨by omega, fun n hn => ⟨(fr n hn).1, by have := (fr n hn).2; omega⟩⟩
  have ag : Asg g 5 := ⟨by omega, fun n hn => ⟨(gr n hn).1, by have := (gr n hn).2; omega⟩⟩
  obtain ⟨ini, z, eas⟩ : ∃ ini z, as = ini ++ [z] := by
    rcases List.eq_nil_or_concat as with e | ⟨ini, z, e⟩
    · rw [e] at al; simp at al; omega
    · exact ⟨ini, z, by rw [e, List.concat_eq_append]⟩
  show Sd (sc K st l) _ [some (.r (.ref st)), some (.v (.int (v : Int))), some (.v (.int (b : Int))), some (.v (.list [tupD as, tupD bs, tupD cs])), none, some (.v (.list [tupD f, tupD g])), none, none, none, none, none, none, none, none, none, none, none, none, none, none, none] _
  have s0 : ∀ {Γ : List (Option Rs)}, Γ[3]? = some (some (.v (.list [tupD as, tupD bs, tupD cs]))) → Ev (sc K st l) (tOp (rIx K) (tVar 3) (tC (.int 0))) Γ .v (tupD as) := fun h => e_ixLv (d_var h) d_int rfl
  have r0 : ∀ {Γ : List (Option Rs)}, Γ[5]? = some (some (.v (.list [tupD f, tupD g]))) → Ev (sc K st l) (tOp (rIx K) (tVar 5) (tC (.int 0))) Γ .v (tupD f) := fun h => e_ixLv (d_var h) d_int rfl
  have r1 : ∀ {Γ : List (Option Rs)}, Γ[5]? = some (some (.v (.list [tupD f, tupD g]))) → Ev (sc K st l) (tOp (rIx K) (tVar 5) (tC (.int 1))) Γ .v (tupD g) := fun h => e_ixLv (d_var h) d_int rfl
  have tp1 : ∀ {Γ : List (Option Rs)} (x : Int), Ev (sc K st l) (tTupN (tCons (tC (.int x)) tNil)) Γ .v (tupD [x]) := fun x => d_tup (ds := [x].map .int) (a_consV d_int a_nil) (by simp [browL, bwtL, bnumL, bordL, bplL, bapL, bosL, bctL, bbkL, oneL])
  have tp2 : ∀ {Γ : List (Option Rs)} (x y : Int), Ev (sc K st l) (tTupN (tCons (tC (.int x)) (tCons (tC (.int y)) tNil))) Γ .v (tupD [x, y]) := fun x y => d_tup (ds := [x, y].map .int) (a_consV d_int (a_consV d_int a_nil)) (by simp [browL, bwtL, bnumL, bordL, bplL, bapL, bosL, bctL, bbkL, oneL])
  have tpb : ∀ {Γ : List (Option Rs)}, Ev (sc K st l) (tTupN (tCons (tC (.bl true)) tNil)) Γ .v (.tuple [.bool true]) := d_tup (a_consV d_bl a_nil) (by simp [browL, bwtL, bnumL, bordL, bplL, bapL, bosL, bctL, bbkL, oneL])
  have tps : ∀ {Γ : List (Option Rs)} (s : String), Ev (sc K st l) (tTupN (tCons (tC (.str (Str.ofString s))) tNil)) Γ .v (.tuple [sD s]) := fun s => d_tup (a_consV d_str a_nil) (by simp [browL, bwtL, bnumL, bordL, bplL, bapL, bosL, bctL, bbkL, oneL])
  have rep : ∀ {Γ : List (Option Rs)} {tb : TE} {k : Kd} (x : Int) (n : Nat), Ev (sc K st l) tb Γ k (.int (n : Int)) → n ≤ 1000 → Ev (sc K st l) (tOp (rRepU K) (tTupN (tCons (tC (.int x)) tNil)) tb) Γ .v (tupD (List.replicate n x)) := fun x n h hn => Ev.to (e_repT (d_tup (a_consV d_int a_nil) (by simp [browL, bwtL, bnumL, bordL, bplL, bapL, bosL, bctL, bbkL, oneL])) (by simp [browL, bwtL, bnumL, bordL, bplL, bapL, bosL, bctL, bbkL, oneL]) h (by omega) (by omega) (by simp [browL, bwtL, bnumL, bordL, bplL, bapL, bosL, bctL, bbkL, oneL])) (by rw [rep_flat, Int.toNat_natCast]; simp)
  have cutS : ∀ {Γ : List (Option Rs)}, Γ[3]? = some (some (.v (.list [tupD as, tupD bs, tupD cs]))) → Ev (sc K st l) (tSl (rSlN K) (tOp (rIx K) (tVar 3) (tC (.int 0))) tNoPart (tPart (tUn (rU fun i => .int (-i)) (tC (.int 1))))) Γ .v (tupD ini) := fun h => Ev.to (e_sl (s0 h) o_none (o_some (e_neg d_int))) (by rw [show (-(1 : Int)) = -1 from rfl, cutD_last, eas, List.map_append]; simp)
  refine q_asg (d := .list (bshL as)) (Ev.to (e_lstV (a_consV d_non (a_consV (d_tup (ds := []) a_nil (by simp [browL, bwtL, bnumL, bordL, bplL, bapL, bosL, bctL, bbkL, oneL])) (a_consV (rep 1 6 d_int (by decide)) (a_consV (Ev.frz (e_listT (s0 rfl) (flatAll_ints _))) (a_consV (e_catT (s0 rfl) (rep 0 6 d_int (by decide)) (by simp; omega)) (a_consV (tp1 21) (a_consV (d_tup (ds := [-1, 1].map .int) (a_consV (e_neg d_int) (a_consV d_int a_nil)) (by simp [browL, bwtL, bnumL, bordL, bplL, bapL, bosL, bctL, bbkL, oneL])) (a_consV tpb (a_consV (tps "1") (a_consV (tp2 10 11) a_nil)))))))))) (by simp [browL, bwtL, bnumL, bordL, bplL, bapL, bosL, bctL, bbkL, oneL])) (by unfold bshL; rw [← List.map_append]; rfl)) ?_
  refine q_asgW (ds := oshL ini z) (EvW.to09 (w_lst (a_consV d_non (a_consV (d_tup (ds := []) a_nil (by simp [browL, bwtL, bnumL, bordL, bplL, bapL, bosL, bctL, bbkL, oneL])) (a_consV (Ev.to (e_catT (s0 rfl) (tp1 0) (by simp; omega)) (y := tupD (ini ++ [z] ++ [0])) (by rw [← List.map_append, eas])) (a_consV (cutS rfl) (a_consV (Ev.to (e_catT (cutS rfl) (d_tup (ds := [.int (z + 1)]) (a_consV (e_add (e_ixT (i := -1) (d := .int z) (s0 rfl) (e_neg d_int) (by rw [eas, List.map_append]; exact at_lastI _ _) rfl) d_int) a_nil) (by simp [browL, bwtL, bnumL, bordL, bplL, bapL, bosL, bctL, bbkL, oneL])) (by rw [eas] at al; simp at al ⊢; omega)) (y := tupD (ini ++ [z + 1])) (by rw [show [PyData.int (z + 1)] = [z + 1].map PyData.int from rfl, ← List.map_append])) (a_consV (Ev.to (Ev.frz (e_listT (s0 rfl) (flatAll_ints _))) (y := .list ((ini ++ [z]).map .int)) (by rw [eas])) a_nil)))))) (by simp [browL, bwtL, bnumL, bordL, bplL, bapL, bosL, bctL, bbkL, oneL])) rfl) ?_
  show Sd (sc K st l) _ [some (.r (.ref st)), some (.v (.int (v : Int))), some (.v (.int (b : Int))), some (.v (.list [tupD as, tupD bs, tupD cs])), none, some (.v (.list [tupD f, tupD g])), some (.v (.list (bshL as))), some (.w (oshL ini z)), none, none, none, none, none, none, none, none, none, none, none, none, none] _
  have oB : ∀ x ∈ oshL ini z, SmallT x ∧ isAlloc x (v : Int) (b : Int) = false := fun x hx => osh_bad hx (by rw [← eas]; exact ha) (by omega)
  have oL : (oshL ini z).length = 6 := rfl
  refine s_seqE (fun Γ1 => ∃ O : List PyData, Γ1 = [some (.r (.ref st)), some (.v (.int (v : Int))), some (.v (.int (b : Int))), some (.v (.list [tupD as, tupD bs, tupD cs])), none, some (.v (.list [tupD f, tupD g])), some (.v (.list (bshL as))), some (.w (O)), none, none, none, none, none, none, none, none, none, none, none, none, none] ∧ 0 < O.length ∧ O.length ≤ 10 ∧ ∀ x ∈ O, SmallT x ∧ isAlloc x (v : Int) (b : Int) = false) ?_ ?_
  · refine s_if (a := decide (1 < (v : Int))) (t_test (d_gt (d_var rfl) d_int)) (fun w => ?_) fun _ => s_next ⟨_, rfl, oshL ini z, rfl, by rw [oL]; decide, by rw [oL]; decide, oB⟩
    have w := of_decide_eq_true w
    have sl2 : ∀ {Γ : List (Option Rs)}, Γ[3]? = some (some (.v (.list [tupD as, tupD bs, tupD cs]))) → Ev (sc K st l) (tSl (rSlN K) (tOp (rIx K) (tVar 3) (tC (.int 0))) (tPart (tC (.int 2))) tNoPart) Γ .v (tupD (as.drop 2)) := fun h => Ev.to (e_sl (s0 h) (o_some d_int) o_none) (by rw [show (some (2 : Int)) = some ((2 : Nat) : Int) from rfl, cutD_lo (by rw [List.length_map]; omega), ← List.map_drop])
    refine s_appW rfl (d := tupD (([as.getD 0 0 + as.getD 1 0 + 1, -1] : List Int) ++ as.drop 2)) (Ev.to (e_catT (ds := [.int (as.getD 0 0 + as.getD 1 0 + 1), .int (-1)]) (d_tup (a_consV (e_add (e_add (e_ixT (s0 rfl) d_int (at_ints (j := 0) (by omega)) rfl) (e_ixT (s0 rfl) d_int (at_ints (j := 1) (by omega)) rfl)) d_int) (a_consV (e_neg d_int) a_nil)) (by simp [browL, bwtL, bnumL, bordL, bplL, bapL, bosL, bctL, bbkL, oneL])) (sl2 rfl) (by simp; omega)) rfl) (by rw [oL]; decide) ⟨_, rfl, oshL ini z ++ [tupD (([as.getD 0 0 + as.getD 1 0 + 1, -1] : List Int) ++ as.drop 2)], rfl, by simp, by simp [oL], fun x hx => ?_⟩
    rcases List.mem_append.mp hx with q | q
    · exact oB x q
    · rw [List.mem_singleton.mp q]
      exact ⟨small_of (by simp; omega), noal_mem (x := .int (-1)) (by simp [browL, bwtL, bnumL, bordL, bplL, bapL, bosL, bctL, bbkL, oneL]) (by simp [isIntD])⟩
  rintro Γ1 ⟨O, rfl, o0, o10, oB⟩
  refine s_seqE (fun Γ1 => ∃ (O : List PyData) (t8 : Option Rs), Γ1 = [some (.r (.ref st)), some (.v (.int (v : Int))), some (.v (.int (b : Int))), some (.v (.list [tupD as, tupD bs, tupD cs])), none, some (.v (.list [tupD f, tupD g])), some (.v (.list (bshL as))), some (.w (O)), t8, none, none, none, none, none, none, none, none, none, none, none, none] ∧ 0 < O.length ∧ O.length ≤ 20 ∧ ∀ x ∈ O, SmallT x ∧ isAlloc x (v : Int) (b : Int) = false) ?_ ?_
  · refine s_if (a := decide ((1 : Int) ∈ as)) (EvT.to (t_test (d_inT (neg := false) d_int (s0 rfl))) rfl) (fun w => ?_) fun _ => s_next ⟨_, rfl, O, _, rfl, o0, by omega, oB⟩
    have w := of_decide_eq_true w
    have il : as.idxOf 1 < as.length := List.idxOf_lt_length_iff.mpr w
    refine q_asg (d := .int ((as.idxOf 1 : Nat) : Int)) (e_index (s0 rfl) d_int (by rw [List.getElem?_eq_getElem il, List.getElem_idxOf]) (fun n hn e => ?_)) ?_
    · have nl : n < as.length := by omega
      rw [List.getElem?_eq_getElem nl] at e
      have := List.not_of_lt_findIdx (p := fun x => x == (1 : Int)) (xs := as) hn
      simp at this
      exact this (Option.some.inj e)
    · refine s_appW rfl (d := putX as (as.idxOf 1) (.bool true)) (Ev.to (e_catT (e_catT (Ev.to (e_sl (s0 rfl) o_none (o_some (d_var rfl))) (y := .tuple ((as.take (as.idxOf 1)).map .int)) (by rw [cutD_hi (by rw [List.length_map]; omega), List.map_take])) tpb (by simp; omega)) (Ev.to (e_sl (s0 rfl) (o_some (Ev.to (e_add (d_var rfl) d_int) (y := .int ((as.idxOf 1 + 1 : Nat) : Int)) rfl)) o_none) (y := .tuple ((as.drop (as.idxOf 1 + 1)).map .int)) (by rw [cutD_lo (by rw [List.length_map]; omega), List.map_drop])) (by simp; omega)) rfl) (by omega) ⟨_, rfl, O ++ [putX as (as.idxOf 1) (.bool true)], _, rfl, by simp, by rw [List.length_append]; simp; omega, fun x hx => ?_⟩
      rcases List.mem_append.mp hx with q | q
      · exact oB x q
      · rw [List.mem_singleton.mp q]
        exact ⟨small_of (by simp; omega), put_bal (small_of (by simp; omega))⟩
  clear o0 o10 oB
  rintro Γ1 ⟨O, t8, rfl, o0, o10, oB⟩
  refine s_freezeW (n := 7) rfl ?_
  refine q_asg (d := .list browL) (e_lstV (ds := browL) (a_consV d_non (a_consV (e_lstV (a_consV d_int a_nil) (by simp [browL, bwtL, bnumL, bordL, bplL, bapL, bosL, bctL, bbkL, oneL])) (a_consV (tp1 5) (a_consV (d_tup (ds := [-1].map .int) (a_consV (e_neg d_int) a_nil) (by simp [browL, bwtL, bnumL, bordL, bplL, bapL, bosL, bctL, bbkL, oneL])) (a_consV tpb (a_consV (tps "0") (a_consV (rep 0 21 d_int (by decide)) (a_consV (d_tup (a_consV d_non a_nil) (by simp [browL, bwtL, bnumL, bordL, bplL, bapL, bosL, bctL, bbkL, oneL])) a_nil)))))))) (by simp [browL, bwtL, bnumL, bordL, bplL, bapL, bosL, bctL, bbkL, oneL])) ?_
  refine q_asgW (ds := orowL f) (EvW.to09 (w_lst (a_consV d_non (a_consV (Ev.to (e_catT (r0 rfl) (tp1 0) (by simp; omega)) (y := tupD (f ++ [0])) (by rw [← List.map_append])) (a_consV (Ev.frz (e_listT (r0 rfl) (flatAll_ints _))) (a_consV (rep 5 (f.length + 1) (Ev.to (e_add (d_var rfl) d_int) (by rw [fl]; rfl)) (by omega)) a_nil)))) (by simp [browL, bwtL, bnumL, bordL, bplL, bapL, bosL, bctL, bbkL, oneL])) rfl) ?_
  show Sd (sc K st l) _ [some (.r (.ref st)), some (.v (.int (v : Int))), some (.v (.int (b : Int))), some (.v (.list [tupD as, tupD bs, tupD cs])), none, some (.v (.list [tupD f, tupD g])), some (.v (.list (bshL as))), some (.v (.list O)), t8, some (.v (.list browL)), some (.w (orowL f)), none, none, none, none, none, none, none, none, none, none] _
  have wB : ∀ x ∈ orowL f, SmallT x ∧ isAsgB x 5 (f.length : Int) = false := fun x hx => orow_bad hx (by omega)
  have wL : (orowL f).length = 4 := rfl
  refine s_seqE (fun Γ1 => ∃ (X : List PyData) (t8 : Option Rs), Γ1 = [some (.r (.ref st)), some (.v (.int (v : Int))), some (.v (.int (b : Int))), some (.v (.list [tupD as, tupD bs, tupD cs])), none, some (.v (.list [tupD f, tupD g])), some (.v (.list (bshL as))), some (.v (.list O)), t8, some (.v (.list browL)), some (.w (X)), none, none, none, none, none, none, none, none, none, none] ∧ 0 < X.length ∧ X.length ≤ 20 ∧ ∀ x ∈ X, SmallT x ∧ isAsgB x 5 (f.length : Int) = false) ?_ ?_
  · refine s_if (a := decide (0 < (b : Int))) (t_test (d_gt (d_var rfl) d_int)) (fun w => ?_) fun _ => s_next ⟨_, rfl, orowL f, _, rfl, by rw [wL]; decide, by rw [wL]; decide, wB⟩
    have w := of_decide_eq_true w
    refine q_asgN (SomeI fun i => 0 ≤ i ∧ i < (b : Int)) (n_call (st := st) (l := l) rfl rfl (a_cons (d_var rfl) a_nil) ⟨(b : Int), rfl, w, by omega, rfl, rfl⟩) ?_
    rintro d ⟨i0, rfl, i1, i2⟩
    obtain ⟨i, rfl⟩ := Int.eq_ofNat_of_zero_le i1
    have il : i < f.length := by omega
    refine s_extW (es := oneL.map (putX f i)) rfl (w_lc (l := oneL) (en := Im.d) (putX f i) (i_seqL' (ds := oneL) (e_lstV (a_consV d_int (a_consV (e_neg d_int) (a_consV d_bl (a_consV d_non (a_consV d_str a_nil))))) (by simp [browL, bwtL, bnumL, bordL, bplL, bapL, bosL, bctL, bbkL, oneL])) kv_ne rfl) (by decide) fun x hx => ⟨_, _, g_name, fun j hj => hj, Ev.to (e_catT (e_catT (Ev.to (e_sl (r0 rfl) o_none (o_some (d_var rfl))) (y := .tuple ((f.take i).map .int)) (by rw [cutD_hi (by rw [List.length_map]; omega), List.map_take])) (d_tup (ds := [x]) (a_consV (d_var rfl) a_nil) (by simp [browL, bwtL, bnumL, bordL, bplL, bapL, bosL, bctL, bbkL, oneL])) (by simp; omega)) (Ev.to (e_sl (r0 rfl) (o_some (Ev.to (e_add (d_var rfl) d_int) (y := .int ((i + 1 : Nat) : Int)) rfl)) o_none) (y := .tuple ((f.drop (i + 1)).map .int)) (by rw [cutD_lo (by rw [List.length_map]; omega), List.map_drop])) (by simp; omega)) rfl⟩) (by simp [wL, oneL]) ⟨_, rfl, orowL f ++ oneL.map (putX f i), _, rfl, by simp [wL, oneL], by simp [wL, oneL], fun x hx => ?_⟩
    rcases List.mem_append.mp hx with q | q
    · exact wB x q
    · obtain ⟨y, hy, rfl⟩ := List.mem_map.mp q
      exact put_bad hy (by omega)
  clear wB wL
  clear t8
  rintro Γ1 ⟨X, t8, rfl, x0, x20, wB⟩
  refine s_freezeW (n := 10) rfl ?_
  show Sd (sc K st l) _ [some (.r (.ref st)), some (.v (.int (v : Int))), some (.v (.int (b : Int))), some (.v (.list [tupD as, tupD bs, tupD cs])), none, some (.v (.list [tupD f, tupD g])), some (.v (.list (bshL as))), some (.v (.list O)), t8, some (.v (.list browL)), some (.v (.list X)), none, none, none, none, none, none, none, none, none, none] _
  refine q_asgN (fun d => ∃ ds, d = .tuple ds ∧ ∃ ns : List Int, ds = ns.map .int ∧ ns.length = v ∧ ∀ n ∈ ns, 1 ≤ n ∧ n < 10) ((n_tuple (n_draws (fun n => 1 ≤ n ∧ n < 10) (i_rngN (n := v) (a_cons (d_var rfl) a_nil) (by omega)) (by simp; omega) fun a ha => by
    obtain ⟨i, _, rfl⟩ := List.mem_map.mp ha
    exact ⟨_, _, g_name, fun j hj => hj, .v, n_add (d_int.sm (Q := fun m => m = 1) rfl) (drw 9 (by decide) (by decide) rfl) (fun m n hm hn => by omega)⟩) (fun ds hd => by obtain ⟨ns, rfl, _⟩ := hd; exact flatAll_ints _)).imp fun d hd => by
      obtain ⟨ds, rfl, ns, rfl, h1, h2⟩ := hd
      exact ⟨_, rfl, ns, rfl, by simpa using h1, h2⟩) ?_
  rintro _ ⟨_, rfl, ws, rfl, wl, wr⟩
  have hw : Wts ws := ⟨by omega, by omega, fun x hx => by have := wr x hx; omega, by
    have : ∀ L : List Int, (∀ n ∈ L, 1 ≤ n ∧ n < 10) → (L.length : Int) ≤ L.sum := fun L => by
      induction L with
      | nil => intro _; simp
      | cons a L ih =>
        intro h
        have := ih fun n hn => h n (by simp [hn])
        have := h a (by simp [browL, bwtL, bnumL, bordL, bplL, bapL, bosL, bctL, bbkL, oneL])
        rw [List.length_cons, List.sum_cons]
        omega
    have := this ws wr
    omega⟩
  refine q_asg (d := .list bwtL) (e_lstV (a_consV d_non (a_consV (d_tup (ds := []) a_nil (by simp [browL, bwtL, bnumL, bordL, bplL, bapL, bosL, bctL, bbkL, oneL])) (a_consV (tp1 0) (a_consV (tp2 0 0) (a_consV (tp1 1000001) (a_consV (d_tup (ds := [-1, 2].map .int) (a_consV (e_neg d_int) (a_consV d_int a_nil)) (by simp [browL, bwtL, bnumL, bordL, bplL, bapL, bosL, bctL, bbkL, oneL])) (a_consV (rep 1 6 d_int (by decide)) (a_consV tpb (a_consV (e_lstV (a_consV d_int a_nil) (by simp [browL, bwtL, bnumL, bordL, bplL, bapL, bosL, bctL, bbkL, oneL])) (a_consV (tps "1") a_nil)))))))))) (by simp [browL, bwtL, bnumL, bordL, bplL, bapL, bosL, bctL, bbkL, oneL])) ?_
  refine q_asg (d := .list bnumL) (e_lstV (a_consV d_int (a_consV d_int (a_consV d_non (a_consV d_bl (a_consV d_str (a_consV (e_neg d_int) a_nil)))))) (by simp [browL, bwtL, bnumL, bordL, bplL, bapL, bosL, bctL, bbkL, oneL])) ?_
  refine q_asg (d := .list bordL) (e_lstV (a_consV d_non (a_consV (e_lstV (a_consV d_int (a_consV d_int (a_consV d_int (a_consV d_int (a_consV d_int a_nil))))) (by simp [browL, bwtL, bnumL, bordL, bplL, bapL, bosL, bctL, bbkL, oneL])) (a_consV (d_tup (ds := [0, 1, 2, 3].map .int) (a_consV d_int (a_consV d_int (a_consV d_int (a_consV d_int a_nil)))) (by simp [browL, bwtL, bnumL, bordL, bplL, bapL, bosL, bctL, bbkL, oneL])) (a_consV (d_tup (ds := [0, 1, 2, 3, 3].map .int) (a_consV d_int (a_consV d_int (a_consV d_int (a_consV d_int (a_consV d_int a_nil))))) (by simp [browL, bwtL, bnumL, bordL, bplL, bapL, bosL, bctL, bbkL, oneL])) (a_consV (d_tup (ds := [1, 2, 3, 4, 5].map .int) (a_consV d_int (a_consV d_int (a_consV d_int (a_consV d_int (a_consV d_int a_nil))))) (by simp [browL, bwtL, bnumL, bordL, bplL, bapL, bosL, bctL, bbkL, oneL])) (a_consV (d_tup (a_consV d_int (a_consV d_int (a_consV d_int (a_consV d_int (a_consV d_bl a_nil))))) (by simp [browL, bwtL, bnumL, bordL, bplL, bapL, bosL, bctL, bbkL, oneL])) a_nil)))))) (by simp [browL, bwtL, bnumL, bordL, bplL, bapL, bosL, bctL, bbkL, oneL])) ?_
  show Sd (sc K st l) _ [some (.r (.ref st)), some (.v (.int (v : Int))), some (.v (.int (b : Int))), some (.v (.list [tupD as, tupD bs, tupD cs])), none, some (.v (.list [tupD f, tupD g])), some (.v (.list (bshL as))), some (.v (.list O)), t8, some (.v (.list browL)), some (.v (.list X)), none, some (.v (tupD ws)), some (.v (.list bwtL)), some (.v (.list bnumL)), some (.v (.list bordL)), none, none, none, none, none] _
  refine q_asgN (fun d => ∃ ns : List Int, d = .tuple (ns.map .int) ∧ IsOrd ns (b : Int)) (n_call (st := st) (l := l) rfl rfl (a_cons (d_var rfl) a_nil) ⟨(b : Int), rfl, by omega, by omega, rfl, rfl⟩) ?_
  rintro _ ⟨ps, rfl, hps⟩
  have pl := hps.len
  refine q_asg (d := .list (bplL ps b)) (e_lstV (a_consV d_non (a_consV (Ev.frz (e_listT (d_var rfl) (flatAll_ints _))) (a_consV (Ev.to (e_catT (d_var rfl) (d_tup (ds := [.int ((b : Int) + 1)]) (a_consV (e_add (d_var rfl) d_int) a_nil) (by simp [browL, bwtL, bnumL, bordL, bplL, bapL, bosL, bctL, bbkL, oneL])) (by simp; omega)) (y := tupD (ps ++ [(b : Int) + 1])) (by rw [show [PyData.int ((b : Int) + 1)] = [(b : Int) + 1].map PyData.int from rfl, ← List.map_append])) (a_consV (Ev.to (e_repT (i := ((max b 1 : Nat) : Int)) (d_tup (a_consV d_bl a_nil) (by simp [browL, bwtL, bnumL, bordL, bplL, bapL, bosL, bctL, bbkL, oneL])) (by simp [browL, bwtL, bnumL, bordL, bplL, bapL, bosL, bctL, bbkL, oneL]) (Ev.to (e_max2 (d_var rfl) d_int) (by congr 1; split <;> omega)) (by omega) (by omega) (by simp [browL, bwtL, bnumL, bordL, bplL, bapL, bosL, bctL, bbkL, oneL])) (by rw [rep_flat, Int.toNat_natCast])) (a_consV (rep 0 (b + 2) (Ev.to (e_add (d_var rfl) d_int) rfl) (by omega)) a_nil))))) (by simp [browL, bwtL, bnumL, bordL, bplL, bapL, bosL, bctL, bbkL, oneL])) ?_
  show Sd (sc K st l) _ [some (.r (.ref st)), some (.v (.int (v : Int))), some (.v (.int (b : Int))), some (.v (.list [tupD as, tupD bs, tupD cs])), none, some (.v (.list [tupD f, tupD g])), some (.v (.list (bshL as))), some (.v (.list O)), t8, some (.v (.list browL)), some (.v (.list X)), none, some (.v (tupD ws)), some (.v (.list bwtL)), some (.v (.list bnumL)), some (.v (.list bordL)), some (.v (tupD ps)), some (.v (.list (bplL ps b))), none, none, none] _
  have bsB : ∀ x ∈ bshL as, SmallT x ∧ balB x = false := fun x hx => bsh_bad hx (by omega)
  have bsN : 0 < (bshL as).length ∧ (bshL as).length ≤ 1000 := ⟨by simp [bshL], by simp [bshL]⟩
  have oN : 0 < O.length ∧ O.length ≤ 1000 := ⟨o0, by omega⟩
  have xN : 0 < X.length ∧ X.length ≤ 1000 := ⟨x0, by omega⟩
  have vI : (1 : Int) ≤ (v : Int) := by omega
  have vI5 : (v : Int) ≤ 5 := by omega
  have bI : (b : Int) ≤ 20 := by omega
  have R0 : Row09 0 [tupD as, tupD bs] [bshL as, O] ["first", "second"] := row209 bsN oN (.inl ⟨rfl, as, bs, (v : Int), (b : Int), rfl, ha, hb', vI, vI5, bI⟩) (fun x hx y => .inl ⟨rfl, x, y, rfl, .inl ⟨(bsB x hx).1, (bsB x hx).2, rfl⟩⟩) (fun y hy => .inl ⟨rfl, _, y, rfl, .inr ⟨as, (v : Int), (b : Int), rfl, ha, vI, vI5, bI, (oB y hy).1, (oB y hy).2, rfl⟩⟩)
  have R1 : Row09 1 [tupD as, tupD bs, tupD cs] [bshL as, O, O] ["first", "second", "third"] := row309 bsN oN oN (.inr (.inl ⟨rfl, as, bs, cs, (v : Int), (b : Int), rfl, ha, hb', hc, vI, vI5, bI⟩)) (fun x hx y z => .inr (.inl ⟨rfl, x, y, z, rfl, .inl ⟨(bsB x hx).1, (bsB x hx).2, rfl⟩⟩)) (fun y hy z => .inr (.inl ⟨rfl, _, y, z, rfl, .inr ⟨as, (v : Int), (b : Int), rfl, ha, vI, vI5, bI, .inl ⟨(oB y hy).1, (oB y hy).2, rfl⟩⟩⟩)) (fun z hz => .inr (.inl ⟨rfl, _, _, z, rfl, .inr ⟨as, (v : Int), (b : Int), rfl, ha, vI, vI5, bI, .inr ⟨bs, rfl, hb', (oB z hz).1, (oB z hz).2, rfl⟩⟩⟩))
  have bwN : 0 < bwtL.length ∧ bwtL.length ≤ 1000 := by decide
  have R2 : Row09 2 [tupD ws, .int (b : Int)] [bwtL, bapL] ["weights", "buckets"] := row209 bwN (by decide) (.inr (.inr (.inl ⟨rfl, ws, (b : Int), rfl, hw, by omega, bI⟩))) (fun x hx y => .inr (.inr (.inl ⟨rfl, x, y, rfl, .inl ⟨(bwt_bad hx).1, (bwt_bad hx).2, rfl⟩⟩))) (fun y hy => .inr (.inr (.inl ⟨rfl, _, y, rfl, .inr ⟨ws, rfl, hw, bap_bad hy, rfl⟩⟩)))
  have alw : Alc as (ws.length : Int) (b : Int) := by rw [wl]; exact ha
  have bs1 : ∀ x ∈ bshL as ++ [tupD (as ++ [0])], SmallT x ∧ (balB x && decide ((lenT x : Int) = (ws.length : Int))) = false := fun x hx => by
    rcases List.mem_append.mp hx with q | q
    · exact ⟨(bsB x q).1, by rw [(bsB x q).2]; rfl⟩
    · rw [List.mem_singleton.mp q]
      refine ⟨small_of (by simp; omega), ?_⟩
      rw [lenT_ints, decide_eq_false (by simp; omega), Bool.and_false]
  have R34 : ∀ w, (w = 3 ∨ w = 4) → Row09 w [tupD ws, tupD as] [bwtL, bshL as ++ [tupD (as ++ [0])]] ["weights", "allocation"] := fun w hw34 => row209 bwN ⟨by simp, by simp [bshL]⟩ (.inr (.inr (.inr (.inl ⟨hw34, ws, as, (b : Int), rfl, hw, alw, bI⟩)))) (fun x hx y => .inr (.inr (.inr (.inl ⟨hw34, x, y, rfl, .inl ⟨(bwt_bad hx).1, (bwt_bad hx).2, rfl⟩⟩)))) (fun y hy => .inr (.inr (.inr (.inl ⟨hw34, _, y, rfl, .inr ⟨ws, rfl, hw, (bs1 y hy).1, (bs1 y hy).2, rfl⟩⟩))))
  have R5 : ∀ os, IsOrd os (v : Int) → Row09 5 [tupD as, tupD os] [bshL as, bosL v] ["allocation", "order"] := fun os ho => row209 bsN (by simp [bosL]) (.inr (.inr (.inr (.inr (.inl ⟨rfl, as, os, (v : Int), (b : Int), rfl, ha, ho, vI, vI5, bI⟩))))) (fun x hx y => .inr (.inr (.inr (.inr (.inl ⟨rfl, x, y, rfl, .inl ⟨(bsB x hx).1, (bsB x hx).2, rfl⟩⟩))))) (fun y hy => .inr (.inr (.inr (.inr (.inl ⟨rfl, _, y, rfl, .inr ⟨as, (v : Int), (b : Int), rfl, ha, vI, vI5, bI, (bos_bad hy v1 v5).1, (bos_bad hy v1 v5).2, rfl⟩⟩)))))
  obtain ⟨x1, t1, e1, m1, n1, a1⟩ := max_zero (f ++ g)
  obtain ⟨x2, t2, e2, m2, n2, a2⟩ := max_zero f
  obtain ⟨M, eM⟩ : ∃ M, M = t1.foldl max x1 := ⟨_, rfl⟩
  obtain ⟨M2, eM2⟩ : ∃ M2, M2 = t2.foldl max x2 := ⟨_, rfl⟩
  rw [← eM] at m1 n1 a1
  rw [← eM2] at m2 n2 a2
  have fgN : ∀ n ∈ f ++ g, 0 ≤ n ∧ n < (v : Int) := fun n hn => by
    rcases List.mem_append.mp hn with q | q
    · exact fr n q
    · exact gr n q
  have M5 : M + 1 ≤ 5 := by
    rcases m1 with q | q
    · have := (fgN _ q).2; omega
    · omega
  have fM : Asg f (M + 1) := ⟨by omega, fun n hn => ⟨(fr n hn).1, by have := a1 n (by simp [hn]); omega⟩⟩
  have gM : Asg g (M + 1) := ⟨by omega, fun n hn => ⟨(gr n hn).1, by have := a1 n (by simp [hn]); omega⟩⟩
  have d0 : 0 ≤ mxD 0 f := mxD_nn fun n hn => (fr n hn).1
  have d1 : 0 ≤ mxD 0 (f ++ g) := mxD_nn fun n hn => (fgN n hn).1
  have le2 : M2 ≤ mxD 0 f := by
    rcases m2 with q | q
    · exact mxD_ge _ q
    · omega
  have le1 : M ≤ mxD 0 (f ++ g) := by
    rcases m1 with q | q
    · exact mxD_ge _ q
    · omega
  have brN : 0 < browL.length ∧ browL.length ≤ 1000 := by decide
  have R6 : Row09 6 [tupD f, .int (M + 1)] [browL, bctL M2] ["assignment", "variants"] := row209 brN (by simp [bctL]) (.inr (.inr (.inr (.inr (.inr (.inl ⟨rfl, f, M + 1, rfl, fM, by omega, M5⟩)))))) (fun x hx y => .inr (.inr (.inr (.inr (.inr (.inl ⟨rfl, x, y, rfl, .inl ⟨(brow_bad hx).1, (brow_bad hx).2, rfl⟩⟩)))))) (fun y hy => .inr (.inr (.inr (.inr (.inr (.inl ⟨rfl, _, y, rfl, .inr ⟨f, rfl, af, bct_bad2 hy d0 le2, rfl⟩⟩))))))
  have lfg : f.length = g.length := by omega
  have R78 : ∀ w, (w = 7 ∨ w = 8) → Row09 w [tupD f, tupD g] [browL, X] ["first", "second"] := fun w hw78 => row209 brN xN (.inr (.inr (.inr (.inr (.inr (.inr (.inl ⟨hw78, f, g, rfl, af, ag, lfg⟩))))))) (fun x hx y => .inr (.inr (.inr (.inr (.inr (.inr (.inl ⟨hw78, x, y, rfl, .inl ⟨(brow_bad hx).1, (brow_bad hx).2, rfl⟩⟩))))))) (fun y hy => .inr (.inr (.inr (.inr (.inr (.inr (.inl ⟨hw78, _, y, rfl, .inr ⟨f, rfl, af, (wB y hy).1, (wB y hy).2, rfl⟩⟩)))))))
  have R9 : Row09 9 [tupD f, tupD g, .int (M + 1)] [browL, X, bnumL ++ [.int M]] ["first", "second", "variants"] := row309 brN xN (by simp [bnumL]) (.inr (.inr (.inr (.inr (.inr (.inr (.inr (.inl ⟨rfl, f, g, M + 1, rfl, fM, gM, lfg, by omega, M5⟩)))))))) (fun x hx y z => .inr (.inr (.inr (.inr (.inr (.inr (.inr (.inl ⟨rfl, x, y, z, rfl, .inl ⟨x, y, rfl, .inl ⟨(brow_bad hx).1, (brow_bad hx).2, rfl⟩⟩⟩)))))))) (fun y hy z => .inr (.inr (.inr (.inr (.inr (.inr (.inr (.inl ⟨rfl, _, y, z, rfl, .inl ⟨_, y, rfl, .inr ⟨f, rfl, af, (wB y hy).1, (wB y hy).2, rfl⟩⟩⟩)))))))) (fun z hz => .inr (.inr (.inr (.inr (.inr (.inr (.inr (.inl ⟨rfl, _, _, z, rfl, .inr ⟨f, g, rfl, rfl, af, ag, lfg, by
    rcases List.mem_append.mp hz with q | q
    · exact bnum_bad q d1
    · rw [List.mem_singleton.mp q]; simp [isIntD]; omega, rfl⟩⟩))))))))
  have R10 : ∀ x : Int, 0 ≤ x ∧ x < 5 → Row09 10 [tupD f, .int x] [browL, bbkL] ["assignment", "variant"] := fun x hx => row209 brN (by decide) (.inr (.inr (.inr (.inr (.inr (.inr (.inr (.inr (.inl ⟨rfl, f, x, rfl, af, hx.1, by omega⟩))))))))) (fun x hx y => .inr (.inr (.inr (.inr (.inr (.inr (.inr (.inr (.inl ⟨rfl, x, y, rfl, .inl ⟨(brow_bad hx).1, (brow_bad hx).2, rfl⟩⟩))))))))) (fun y hy => .inr (.inr (.inr (.inr (.inr (.inr (.inr (.inr (.inl ⟨rfl, _, y, rfl, .inr ⟨f, rfl, af, bbk_bad hy, rfl⟩⟩)))))))))
  have R11 : ∀ os, IsOrd os 5 → Row09 11 [tupD f, tupD os] [browL, bordL] ["assignment", "order"] := fun os ho => row209 brN (by decide) (.inr (.inr (.inr (.inr (.inr (.inr (.inr (.inr (.inr (.inl ⟨rfl, f, os, rfl, af, ho⟩)))))))))) (fun x hx y => .inr (.inr (.inr (.inr (.inr (.inr (.inr (.inr (.inr (.inl ⟨rfl, x, y, rfl, .inl ⟨(brow_bad hx).1, (brow_bad hx).2, rfl⟩⟩)))))))))) (fun y hy => .inr (.inr (.inr (.inr (.inr (.inr (.inr (.inr (.inr (.inl ⟨rfl, _, y, rfl, .inr ⟨f, rfl, af, (bord_bad hy).1, (bord_bad hy).2, rfl⟩⟩))))))))))
  have R12 : Row09 12 [tupD f, tupD ps] [browL, bplL ps b] ["assignment", "order"] := row209 brN (by simp [bplL]) (.inr (.inr (.inr (.inr (.inr (.inr (.inr (.inr (.inr (.inr ⟨rfl, f, ps, rfl, af, by rw [fl]; exact hps⟩)))))))))) (fun x hx y => .inr (.inr (.inr (.inr (.inr (.inr (.inr (.inr (.inr (.inr ⟨rfl, x, y, rfl, .inl ⟨(brow_bad hx).1, (brow_bad hx).2, rfl⟩⟩)))))))))) (fun y hy => .inr (.inr (.inr (.inr (.inr (.inr (.inr (.inr (.inr (.inr ⟨rfl, _, y, rfl, .inr ⟨f, rfl, af, (bpl_bad hy (by omega) b20).1, by rw [fl]; exact (bpl_bad hy (by omega) b20).2, rfl⟩⟩))))))))))
  have nm2 : ∀ {Γ : List (Option Rs)} (s t : String), Ev (sc K st l) (tLst (tCons (tC (.str (Str.ofString s))) (tCons (tC (.str (Str.ofString t))) tNil))) Γ .v (.list ([s, t].map fun s => .str (Str.ofString s))) := fun s t => e_lstV (a_consV d_str (a_consV d_str a_nil)) (by simp [browL, bwtL, bnumL, bordL, bplL, bapL, bosL, bctL, bbkL, oneL])
  have nm3 : ∀ {Γ : List (Option Rs)} (s t u : String), Ev (sc K st l) (tLst (tCons (tC (.str (Str.ofString s))) (tCons (tC (.str (Str.ofString t))) (tCons (tC (.str (Str.ofString u))) tNil)))) Γ .v (.list ([s, t, u].map fun s => .str (Str.ofString s))) := fun s t u => e_lstV (a_consV d_str (a_consV d_str (a_consV d_str a_nil))) (by simp [browL, bwtL, bnumL, bordL, bplL, bapL, bosL, bctL, bbkL, oneL])
  have row : ∀ {Γ : List (Option Rs)} {ta tb tc td : TE} {w : Nat} {gd : List PyData} {bd : List (List PyData)} {nms : List String}, Ev (sc K st l) ta Γ .v (.str (wdS w)) → Ev (sc K st l) tb Γ .v (.list gd) → Ev (sc K st l) tc Γ .v (.list (bd.map .list)) → Ev (sc K st l) td Γ .v (.list (nms.map fun s => .str (Str.ofString s))) → Ev (sc K st l) (tTupN (tCons ta (tCons tb (tCons tc (tCons td tNil))))) Γ .v (rowD09 w gd bd nms) := fun h1 h2 h3 h4 => d_tup (a_consV h1 (a_consV h2 (a_consV h3 (a_consV h4 a_nil)))) (by simp [browL, bwtL, bnumL, bordL, bplL, bapL, bosL, bctL, bbkL, oneL])
  have bd2 : ∀ {Γ : List (Option Rs)} {ta tb : TE} {x y : List PyData}, Ev (sc K st l) ta Γ .v (.list x) → Ev (sc K st l) tb Γ .v (.list y) → Ev (sc K st l) (tLst (tCons ta (tCons tb tNil))) Γ .v (.list ([x, y].map .list)) := fun h1 h2 => e_lstV (a_consV h1 (a_consV h2 a_nil)) (by simp [browL, bwtL, bnumL, bordL, bplL, bapL, bosL, bctL, bbkL, oneL])
  have bd3 : ∀ {Γ : List (Option Rs)} {ta tb tc : TE} {x y z : List PyData}, Ev (sc K st l) ta Γ .v (.list x) → Ev (sc K st l) tb Γ .v (.list y) → Ev (sc K st l) tc Γ .v (.list z) → Ev (sc K st l) (tLst (tCons ta (tCons tb (tCons tc tNil)))) Γ .v (.list ([x, y, z].map .list)) := fun h1 h2 h3 => e_lstV (a_consV h1 (a_consV h2 (a_consV h3 a_nil))) (by simp [browL, bwtL, bnumL, bordL, bplL, bapL, bosL, bctL, bbkL, oneL])
  have gd2 : ∀ {Γ : List (Option Rs)} {ta tb : TE} {x y : PyData}, Ev (sc K st l) ta Γ .v x → Ev (sc K st l) tb Γ .v y → Ev (sc K st l) (tLst (tCons ta (tCons tb tNil))) Γ .v (.list [x, y]) := fun h1 h2 => e_lstV (a_consV h1 (a_consV h2 a_nil)) (by simp [browL, bwtL, bnumL, bordL, bplL, bapL, bosL, bctL, bbkL, oneL])
  have app : ∀ (fl : List PyData) (r : PyData), (∀ x ∈ fl, RowP x) → RowP r → ∀ x ∈ fl ++ [r], RowP x := fun fl r h1 h2 x hx => by
    rcases List.mem_append.mp hx with q | q
    · exact h1 x q
    · rw [List.mem_singleton.mp q]; exact h2
  refine q_asgW (ds := [rowD09 0 [tupD as, tupD bs] [bshL as, O] ["first", "second"], rowD09 1 [tupD as, tupD bs, tupD cs] [bshL as, O, O] ["first", "second", "third"], rowD09 2 [tupD ws, .int (b : Int)] [bwtL, bapL] ["weights", "buckets"]]) (w_lst (a_consV (row (w := 0) d_str (Ev.to (e_slLV (d_var rfl) o_none (o_some d_int)) (y := .list [tupD as, tupD bs]) rfl) (bd2 (d_var rfl) (d_var rfl)) (nm2 "first" "second")) (a_consV (row (w := 1) d_str (d_var rfl) (bd3 (d_var rfl) (d_var rfl) (d_var rfl)) (nm3 "first" "second" "third")) (a_consV (row (w := 2) d_str (gd2 (d_var rfl) (d_var rfl)) (bd2 (d_var rfl) (e_lstV (a_consV (e_neg d_int) (a_consV d_int (a_consV d_non (a_consV d_bl (a_consV d_str a_nil))))) (by simp [browL, bwtL, bnumL, bordL, bplL, bapL, bosL, bctL, bbkL, oneL]))) (nm2 "weights" "buckets")) a_nil))) (by simp [browL, bwtL, bnumL, bordL, bplL, bapL, bosL, bctL, bbkL, oneL])) ?_
  refine q_for (i_seqL (e_lstV (ds := [.str (wdS 3), .str (wdS 4)]) (a_consV d_str (a_consV d_str a_nil)) (by simp [browL, bwtL, bnumL, bordL, bplL, bapL, bosL, bctL, bbkL, oneL])) kv_ne) (fun n Γ1 => ∃ (fl : List PyData) (t19 : Option Rs), Γ1 = [some (.r (.ref st)), some (.v (.int (v : Int))), some (.v (.int (b : Int))), some (.v (.list [tupD as, tupD bs, tupD cs])), none, some (.v (.list [tupD f, tupD g])), some (.v (.list (bshL as))), some (.v (.list O)), t8, some (.v (.list browL)), some (.v (.list X)), none, some (.v (tupD ws)), some (.v (.list bwtL)), some (.v (.list bnumL)), some (.v (.list bordL)), some (.v (tupD ps)), some (.v (.list (bplL ps b))), some (.w (fl)), t19, none] ∧ fl.length = 3 + n ∧ ∀ x ∈ fl, RowP x) ⟨_, _, rfl, rfl, fun x hx => ?_⟩ (fun n a Γ1 hn' hI => ?_) (fun Γ1 hI => ?_)
  · simp only [List.mem_cons, List.not_mem_nil, or_false] at hx
    rcases hx with rfl | rfl | rfl
    · exact ⟨_, _, _, _, rfl, R0⟩
    · exact ⟨_, _, _, _, rfl, R1⟩
    · exact ⟨_, _, _, _, rfl, R2⟩
  · obtain ⟨fl', t19, rfl, ll, hl⟩ := hI
    obtain ⟨w, rfl, hw34⟩ : ∃ w : Nat, a = .d (.str (wdS w)) ∧ (w = 3 ∨ w = 4) := by
      match n, hn' with
      | 0, h => exact ⟨3, (Option.some.inj h).symm, .inl rfl⟩
      | 1, h => exact ⟨4, (Option.some.inj h).symm, .inr rfl⟩
    have n2 : n < 2 := by have := (List.getElem?_eq_some_iff.mp hn').1; simpa using this
    exact ⟨_, _, g_name, s_appW rfl (row (w := w) (gd := [tupD ws, tupD as]) (bd := [bwtL, bshL as ++ [tupD (as ++ [0])]]) (nms := ["weights", "allocation"]) (d_var rfl) (gd2 (d_var rfl) (s0 rfl)) (bd2 (d_var rfl) (e_catS (d_var rfl) (e_lstV (a_consV (Ev.to (e_catT (s0 rfl) (tp1 0) (by simp; omega)) (y := tupD (as ++ [0])) (by rw [← List.map_append])) a_nil) (by simp [browL, bwtL, bnumL, bordL, bplL, bapL, bosL, bctL, bbkL, oneL])) (by simp [bshL]))) (nm2 "weights" "allocation")) (by omega) (.inl ⟨_, .inl rfl, _, _, rfl, by rw [List.length_append, ll]; simp; omega, app _ _ hl ⟨_, _, _, _, rfl, R34 w hw34⟩⟩)⟩
  obtain ⟨f5, t19, rfl, l5, h5⟩ := hI
  have l5 : f5.length = 5 := l5
  refine s_seqE (fun Γ1 => ∃ fl : List PyData, Γ1 = [some (.r (.ref st)), some (.v (.int (v : Int))), some (.v (.int (b : Int))), some (.v (.list [tupD as, tupD bs, tupD cs])), none, some (.v (.list [tupD f, tupD g])), some (.v (.list (bshL as))), some (.v (.list O)), t8, some (.v (.list browL)), some (.v (.list X)), none, some (.v (tupD ws)), some (.v (.list bwtL)), some (.v (.list bnumL)), some (.v (.list bordL)), some (.v (tupD ps)), some (.v (.list (bplL ps b))), some (.w (fl)), t19, none] ∧ fl.length = 6 ∧ ∀ x ∈ fl, RowP x) (s_appWN (Pe := RowP) rfl ((n_tupVN (an_consD (d := .str (wdS 5)) d_str (an_cons (n_lstVN (an_consD (s0 rfl) (an_cons (P := fun d => ∃ os : List Int, d = .tuple (os.map .int) ∧ IsOrd os (v : Int)) (n_call (st := st) (l := l) rfl rfl (a_cons (d_var rfl) a_nil) ⟨(v : Int), rfl, by omega, by omega, rfl, rfl⟩) an_nil)) (fun ds h => by obtain ⟨_, _, rfl, _, _, _, rfl, _, rfl⟩ := h; simp)) (an_consD (d := .list ([bshL as, bosL v].map .list)) (bd2 (d_var rfl) (e_lstV (a_consV d_non (a_consV (rep 0 (v + 1) (Ev.to (e_add (d_var rfl) d_int) rfl) (by omega)) (a_consV (Ev.to (Ev.frz (e_listRg (i := (v : Int)) (d_var rfl) (by omega) (by omega))) (by rw [Int.toNat_natCast])) (a_consV (rep 1 v (d_var rfl) (by omega)) a_nil)))) (by simp [browL, bwtL, bnumL, bordL, bplL, bapL, bosL, bctL, bbkL, oneL]))) (an_consD (nm2 "allocation" "order") an_nil)))) (fun ds h => by obtain ⟨_, _, rfl, _, _, _, rfl, _, _, _, rfl, _, _, _, rfl, _, rfl⟩ := h; simp)).imp fun d hd => ?_) (by omega) (fun d hd => ⟨_, rfl, _, rfl, by simp [l5], app _ _ h5 hd⟩)) ?_
  · obtain ⟨_, rfl, _, _, rfl, rfl, _, _, rfl, ⟨_, rfl, _, _, rfl, rfl, _, _, rfl, ⟨os, rfl, ho⟩, rfl⟩, _, _, rfl, rfl, _, _, rfl, rfl, rfl⟩ := hd
    exact ⟨5, [tupD as, tupD os], [bshL as, bosL v], ["allocation", "order"], rfl, R5 os ho⟩
  rintro Γ1 ⟨f6, rfl, l6, h6⟩
  refine q_asg (d := .int (M + 1)) (e_add (Ev.to (e_maxTI (x := x1) (ns := t1) (Ev.to (e_catT (ds := (f ++ g).map .int) (Ev.to (e_catT (r0 rfl) (r1 rfl) (by simp; omega)) (by rw [← List.map_append])) (tp1 0) (by simp; omega)) (by rw [← List.map_append, e1]))) (by rw [eM])) d_int) ?_
  refine s_seqE (fun Γ1 => ∃ fl : List PyData, Γ1 = [some (.r (.ref st)), some (.v (.int (v : Int))), some (.v (.int (b : Int))), some (.v (.list [tupD as, tupD bs, tupD cs])), none, some (.v (.list [tupD f, tupD g])), some (.v (.list (bshL as))), some (.v (.list O)), t8, some (.v (.list browL)), some (.v (.list X)), none, some (.v (tupD ws)), some (.v (.list bwtL)), some (.v (.list bnumL)), some (.v (.list bordL)), some (.v (tupD ps)), some (.v (.list (bplL ps b))), some (.w (fl)), t19, some (.v (.int (M + 1)))] ∧ fl.length = 7 ∧ ∀ x ∈ fl, RowP x) (s_appW rfl (row (w := 6) (gd := [tupD f, .int (M + 1)]) (bd := [browL, bctL M2]) (nms := ["assignment", "variants"]) d_str (gd2 (r0 rfl) (d_var rfl)) (bd2 (d_var rfl) (e_lstV (a_consV d_int (a_consV d_int (a_consV d_non (a_consV d_bl (a_consV d_str (a_consV (Ev.to (e_maxTI (x := x2) (ns := t2) (Ev.to (e_catT (r0 rfl) (tp1 0) (by simp; omega)) (by rw [← List.map_append, e2]))) (by rw [eM2])) a_nil)))))) (by simp [browL, bwtL, bnumL, bordL, bplL, bapL, bosL, bctL, bbkL, oneL]))) (nm2 "assignment" "variants")) (by omega) ⟨_, rfl, _, rfl, by simp [l6], app _ _ h6 ⟨_, _, _, _, rfl, R6⟩⟩) ?_
  rintro Γ1 ⟨f7, rfl, l7, h7⟩
  refine s_seqE (fun Γ1 => ∃ fl : List PyData, Γ1 = [some (.r (.ref st)), some (.v (.int (v : Int))), some (.v (.int (b : Int))), some (.v (.list [tupD as, tupD bs, tupD cs])), none, some (.v (.list [tupD f, tupD g])), some (.v (.list (bshL as))), some (.v (.list O)), t8, some (.v (.list browL)), some (.v (.list X)), none, some (.v (tupD ws)), some (.v (.list bwtL)), some (.v (.list bnumL)), some (.v (.list bordL)), some (.v (tupD ps)), some (.v (.list (bplL ps b))), some (.w (fl)), t19, some (.v (.int (M + 1)))] ∧ fl.length = 8 ∧ ∀ x ∈ fl, RowP x) (s_appW rfl (row (w := 9) (gd := [tupD f, tupD g, .int (M + 1)]) (bd := [browL, X, bnumL ++ [.int M]]) (nms := ["first", "second", "variants"]) d_str (e_lstV (a_consV (r0 rfl) (a_consV (r1 rfl) (a_consV (d_var rfl) a_nil))) (by simp [browL, bwtL, bnumL, bordL, bplL, bapL, bosL, bctL, bbkL, oneL])) (bd3 (d_var rfl) (d_var rfl) (e_catS (d_var rfl) (e_lstV (a_consV (Ev.to (d_sub (d_var rfl) d_int) (y := .int M) (by congr 1; omega)) a_nil) (by simp [browL, bwtL, bnumL, bordL, bplL, bapL, bosL, bctL, bbkL, oneL])) (by simp [bnumL]))) (nm3 "first" "second" "variants")) (by omega) ⟨_, rfl, _, rfl, by simp [l7], app _ _ h7 ⟨_, _, _, _, rfl, R9⟩⟩) ?_
  rintro Γ1 ⟨f8, rfl, l8, h8⟩
  refine q_for (i_seqL (e_lstV (ds := [.str (wdS 7), .str (wdS 8)]) (a_consV d_str (a_consV d_str a_nil)) (by simp [browL, bwtL, bnumL, bordL, bplL, bapL, bosL, bctL, bbkL, oneL])) kv_ne) (fun n Γ1 => ∃ (fl : List PyData) (t19 : Option Rs), Γ1 = [some (.r (.ref st)), some (.v (.int (v : Int))), some (.v (.int (b : Int))), some (.v (.list [tupD as, tupD bs, tupD cs])), none, some (.v (.list [tupD f, tupD g])), some (.v (.list (bshL as))), some (.v (.list O)), t8, some (.v (.list browL)), some (.v (.list X)), none, some (.v (tupD ws)), some (.v (.list bwtL)), some (.v (.list bnumL)), some (.v (.list bordL)), some (.v (tupD ps)), some (.v (.list (bplL ps b))), some (.w (fl)), t19, some (.v (.int (M + 1)))] ∧ fl.length = 8 + n ∧ ∀ x ∈ fl, RowP x) ⟨f8, _, rfl, l8, h8⟩ (fun n a Γ1 hn' hI => ?_) (fun Γ1 hI => ?_)
  · obtain ⟨fl', t19, rfl, ll, hl⟩ := hI
    obtain ⟨w, rfl, hw78⟩ : ∃ w : Nat, a = .d (.str (wdS w)) ∧ (w = 7 ∨ w = 8) := by
      match n, hn' with
      | 0, h => exact ⟨7, (Option.some.inj h).symm, .inl rfl⟩
      | 1, h => exact ⟨8, (Option.some.inj h).symm, .inr rfl⟩
    have n2 : n < 2 := by have := (List.getElem?_eq_some_iff.mp hn').1; simpa using this
    exact ⟨_, _, g_name, s_appW rfl (row (w := w) (gd := [tupD f, tupD g]) (bd := [browL, X]) (nms := ["first", "second"]) (d_var rfl) (d_var rfl) (bd2 (d_var rfl) (d_var rfl)) (nm2 "first" "second")) (by omega) (.inl ⟨_, .inl rfl, _, _, rfl, by rw [List.length_append, ll]; simp; omega, app _ _ hl ⟨_, _, _, _, rfl, R78 w hw78⟩⟩)⟩
  clear t19
  obtain ⟨f10, t19, rfl, l10, h10⟩ := hI
  have l10 : f10.length = 10 := l10
  refine s_seqE (fun Γ1 => ∃ fl : List PyData, Γ1 = [some (.r (.ref st)), some (.v (.int (v : Int))), some (.v (.int (b : Int))), some (.v (.list [tupD as, tupD bs, tupD cs])), none, some (.v (.list [tupD f, tupD g])), some (.v (.list (bshL as))), some (.v (.list O)), t8, some (.v (.list browL)), some (.v (.list X)), none, some (.v (tupD ws)), some (.v (.list bwtL)), some (.v (.list bnumL)), some (.v (.list bordL)), some (.v (tupD ps)), some (.v (.list (bplL ps b))), some (.w (fl)), t19, some (.v (.int (M + 1)))] ∧ fl.length = 11 ∧ ∀ x ∈ fl, RowP x) (s_appWN (Pe := RowP) rfl ((n_tupVN (an_consD (d := .str (wdS 10)) d_str (an_cons (n_lstVN (an_consD (r0 rfl) (an_cons (drw 5 (by decide) (by decide) rfl) an_nil)) (fun ds h => by obtain ⟨_, _, rfl, _, _, _, rfl, _, rfl⟩ := h; simp)) (an_consD (d := .list ([browL, bbkL].map .list)) (bd2 (d_var rfl) (e_lstV (a_consV d_int (a_consV (e_neg d_int) (a_consV d_non (a_consV d_bl (a_consV d_str a_nil))))) (by simp [browL, bwtL, bnumL, bordL, bplL, bapL, bosL, bctL, bbkL, oneL]))) (an_consD (nm2 "assignment" "variant") an_nil)))) (fun ds h => by obtain ⟨_, _, rfl, _, _, _, rfl, _, _, _, rfl, _, _, _, rfl, _, rfl⟩ := h; simp)).imp fun d hd => ?_) (by omega) (fun d hd => ⟨_, rfl, _, rfl, by simp [l10], app _ _ h10 hd⟩)) ?_
  · obtain ⟨_, rfl, _, _, rfl, rfl, _, _, rfl, ⟨_, rfl, _, _, rfl, rfl, _, _, rfl, ⟨x, rfl, hx⟩, rfl⟩, _, _, rfl, rfl, _, _, rfl, rfl, rfl⟩ := hd
    exact ⟨10, [tupD f, .int x], [browL, bbkL], ["assignment", "variant"], rfl, R10 x hx⟩
  rintro Γ1 ⟨f11, rfl, l11, h11⟩
  refine s_seqE (fun Γ1 => ∃ fl : List PyData, Γ1 = [some (.r (.ref st)), some (.v (.int (v : Int))), some (.v (.int (b : Int))), some (.v (.list [tupD as, tupD bs, tupD cs])), none, some (.v (.list [tupD f, tupD g])), some (.v (.list (bshL as))), some (.v (.list O)), t8, some (.v (.list browL)), some (.v (.list X)), none, some (.v (tupD ws)), some (.v (.list bwtL)), some (.v (.list bnumL)), some (.v (.list bordL)), some (.v (tupD ps)), some (.v (.list (bplL ps b))), some (.w (fl)), t19, some (.v (.int (M + 1)))] ∧ fl.length = 12 ∧ ∀ x ∈ fl, RowP x) (s_appWN (Pe := RowP) rfl ((n_tupVN (an_consD (d := .str (wdS 11)) d_str (an_cons (n_lstVN (an_consD (r0 rfl) (an_cons (P := fun d => ∃ os : List Int, d = .tuple (os.map .int) ∧ IsOrd os 5) (n_call (st := st) (l := l) rfl rfl (a_cons d_int a_nil) ⟨5, rfl, by decide, by decide, rfl, rfl⟩) an_nil)) (fun ds h => by obtain ⟨_, _, rfl, _, _, _, rfl, _, rfl⟩ := h; simp)) (an_consD (d := .list ([browL, bordL].map .list)) (bd2 (d_var rfl) (d_var rfl)) (an_consD (nm2 "assignment" "order") an_nil)))) (fun ds h => by obtain ⟨_, _, rfl, _, _, _, rfl, _, _, _, rfl, _, _, _, rfl, _, rfl⟩ := h; simp)).imp fun d hd => ?_) (by omega) (fun d hd => ⟨_, rfl, _, rfl, by simp [l11], app _ _ h11 hd⟩)) ?_
  · obtain ⟨_, rfl, _, _, rfl, rfl, _, _, rfl, ⟨_, rfl, _, _, rfl, rfl, _, _, rfl, ⟨os, rfl, ho⟩, rfl⟩, _, _, rfl, rfl, _, _, rfl, rfl, rfl⟩ := hd
    exact ⟨11, [tupD f, tupD os], [browL, bordL], ["assignment", "order"], rfl, R11 os ho⟩
  rintro Γ1 ⟨f12, rfl, l12, h12⟩
  refine s_seqE (fun Γ1 => ∃ fl : List PyData, Γ1 = [some (.r (.ref st)), some (.v (.int (v : Int))), some (.v (.int (b : Int))), some (.v (.list [tupD as, tupD bs, tupD cs])), none, some (.v (.list [tupD f, tupD g])), some (.v (.list (bshL as))), some (.v (.list O)), t8, some (.v (.list browL)), some (.v (.list X)), none, some (.v (tupD ws)), some (.v (.list bwtL)), some (.v (.list bnumL)), some (.v (.list bordL)), some (.v (tupD ps)), some (.v (.list (bplL ps b))), some (.w (fl)), t19, some (.v (.int (M + 1)))] ∧ fl.length = 13 ∧ ∀ x ∈ fl, RowP x) (s_appW rfl (row (w := 12) (gd := [tupD f, tupD ps]) (bd := [browL, bplL ps b]) (nms := ["assignment", "order"]) d_str (gd2 (r0 rfl) (d_var rfl)) (bd2 (d_var rfl) (d_var rfl)) (nm2 "assignment" "order")) (by omega) ⟨_, rfl, _, rfl, by simp [l12], app _ _ h12 ⟨_, _, _, _, rfl, R12⟩⟩) ?_
  rintro Γ1 ⟨f13, rfl, l13, h13⟩
  refine s_freezeW (n := 18) rfl ?_
  exact s_retB (x := (st, l)) (fun d => ∃ ds, d = .list ds ∧ ∀ r ∈ ds, RowP r) rfl ((d_var rfl).n.imp fun d hd => ⟨f13, hd, h13⟩) (fun d hd => ⟨d, rfl, hd⟩)

theorem ok_ini_BadValue {P : Program} {w : World} {K : PySem.W.Frag} {mg : Str → Option Value} {base : Heap} {f C cc cda : Addr} {kV doc pm ct oc cl ccl : Value} {an od cdd cld : Option Addr} {osl csl ccs : Array (Option Value)} {vs : Array Value} {file : Str} {tf : Tok}
    (lk : K.lookup f = some ⟨oc, od, .func (PySem.W.ksFn "__init__" "BadValue.__init__" (defArgs s_ini_BadValue) (defBody s_ini_BadValue) (defScope s_ini_BadValue) .none kV doc pm an (.ref cda) ct cc), osl⟩)
    (hcd : PySem.W.codeIn K (.ref cda) "BadValue.__init__" = true) (hcode : K.lookup cda = some ⟨ccl, cdd, .fields vs, ccs⟩) (hvs : vs[2]? = some (.str file tf)) (hfile : ((P.main.file : Str) == file) = true) (hcell : K.lookup cc = some ⟨cl, cld, .cell (some (.ref C)), csl⟩)
    (O : OexC K C) (hno : PySem.W.findIn K (.ref C) "name" = some none) (hsuper : mg "super" = none) (hsub : PySem.W.subIn K (.ref C) (.type "ValueError") = some true) (hop : PySem.W.nsIn K cStatics "thirdparty.any" = some none)
    (hm : PySem.W.ks_superIn K C C "__init__" = some (some (.builtin "ValueError.__init__"))) (htop : (P.main.scope.names.lookup ("super" : Str)).isSome = false) :
    FnOk P w K mg base (L2.CX P w) 1 f (PySem.W.ksFn "__init__" "BadValue.__init__" (defArgs s_ini_BadValue) (defBody s_ini_BadValue) (defScope s_ini_BadValue) .none kV doc pm an (.ref cda) ct cc) ["self", "name"] (spIni C "name") :=
  fn_super (k := 0) (N := ["self", "name"]) (ps := ["self", "name"]) lk hcd ⟨rfl, rfl, rfl, by decide +kernel, rfl, by decide +kernel, by decide +kernel, by decide +kernel, rfl, rfl⟩ rfl rfl hcode hvs hfile hcell O hsuper hsub hop hm htop (fun vs H Q E h => by obtain ⟨a, nm, rfl, _⟩ := h; rfl)
    (fun A outer s H vs Q E hr h => by
      obtain ⟨a, nm, rfl, hz, ha, hq⟩ := h
      exact ⟨a, [.str nm], _, _, rfl, ha, pe_joined (PJ.cons pe_str (PJ.cons (pe_fmt (pv 1)) PJ.nil)), pss_one (ps_ost (pv 0) (pv 1)), run_ini (Q := Q) (by decide) hz O hno rfl rfl ha hq⟩)
end W

namespace W
open PySem PySem.Spec PyProof.Rows L2 Lm
theorem ok_requireX {P : Program} {w : World} {K : PySem.W.Frag} {mg : Str → Option Value} {base : Heap} {f C : Addr} {fd : FuncData} (F : Fun K "require" "require" s_require f fd) (T : Txt mg) (X : Exc1 P w K mg base "BadValue" "name" C) :
    FnOk P w K mg base (L2.CX P w) 4 f fd p_require (spReq C) := by
  obtain ⟨fI, fdI, iC, tI, F1, hb⟩ := X.ini
  refine F.okX sc_require (fun vs H Q E h => by obtain ⟨b, nm, rfl, _⟩ := h; rfl) (fun cdv A outer s H vs Q E hr h => ⟨_, (pss_one (ps_if (pt_not (pt_val (pv 0))) (pss_one (ps_raise rfl (takes_of rfl rfl rfl rfl) (pmk_oex X.O iC tI F1 (hr.mono (by decide)) hb .nil passL rfl X.hC (pa_cons (pv 1) pa_nil)))) pss_nil)), ?_⟩)
  obtain ⟨b, nm, rfl, hz, h1, h2⟩ := h
  cases b with
  | true => exact ⟨.bl true, rfl, true, rfl, h1 rfl⟩
  | false => exact ⟨.bl false, rfl, false, rfl, mkO_req hz (fun Q' q => ⟨_, rfl, q⟩) (h2 rfl)⟩

theorem ok_check_allocationX {P : Program} {w : World} {K : PySem.W.Frag} {mg : Str → Option Value} {base : Heap} {f C : Addr} {fd : FuncData} (F : Fun K "check_allocation" "check_allocation" s_check_allocation f fd) (T : Txt mg) (c_is_bounded_allocation : Cal P w K mg base CX0 3 "is_bounded_allocation" p_is_bounded_allocation (sp_is_bounded_allocationX K)) {fx_require : Addr} {fdx_require : FuncData} (X_require : FnOk P w K mg base (L2.CX P w) 4 fx_require fdx_require p_require (spReq C)) (m_require : mg "require" = some (.ref fx_require)) (k_require : PySem.W.keepIn K (.ref fx_require) = true) (b_require : Binds K fdx_require p_require []) :
    FnOk P w K mg base (L2.CX P w) 5 f fd p_check_allocation (spRef K C RcAl) := by
  refine F.okX sc_check_allocation (fun vs H Q E h => by obtain ⟨ds, nm, hb, hd, _⟩ := h; rw [hb.len, RcAl_len hd]; rfl) (fun cdv A outer s H vs Q E hr h => ⟨_, (pss_one (ps_expr (pe_call X_require (hr.mono (by decide)) rfl m_require k_require b_require .nil (passes_call (E := E) (takes_of rfl rfl rfl rfl) (fun _ _ _ _ h => h)) (pa_cons (pe_cal (cal_up0 c_is_bounded_allocation) (hr.mono (by decide)) rfl passL (pa_cons (pv 0) pa_nil)) (pa_cons (pv 1) pa_nil))))), run_ref (N := n_check_allocation) (C := C) (fun ds nm hd hE => ?_) h⟩)
  obtain ⟨x, rfl, hz, hs, hb⟩ := hd
  exact xl_reqE hz hE (d_call (k := .v) (d := .bool false) (a_cons (d_var rfl) a_nil) ⟨x, rfl, hs, rfl, by rw [hb]⟩) (d_var rfl)

theorem ok_check_alikeX {P : Program} {w : World} {K : PySem.W.Frag} {mg : Str → Option Value} {base : Heap} {f C : Addr} {fd : FuncData} (F : Fun K "check_alike" "check_alike" s_check_alike f fd) (T : Txt mg) (c_is_allocation : Cal P w K mg base CX0 3 "is_allocation" p_is_allocation (sp_is_allocation K)) {fx_require : Addr} {fdx_require : FuncData} (X_require : FnOk P w K mg base (L2.CX P w) 4 fx_require fdx_require p_require (spReq C)) (m_require : mg "require" = some (.ref fx_require)) (k_require : PySem.W.keepIn K (.ref fx_require) = true) (b_require : Binds K fdx_require p_require []) :
    FnOk P w K mg base (L2.CX P w) 5 f fd p_check_alike (spRef K C RcLk) := by
  refine F.okX sc_check_alike (fun vs H Q E h => by obtain ⟨ds, nm, hb, hd, _⟩ := h; rw [hb.len, RcLk_len hd]; rfl) (fun cdv A outer s H vs Q E hr h => ⟨_, (pss_one (ps_expr (pe_call X_require (hr.mono (by decide)) rfl m_require k_require b_require .nil (passes_call (E := E) (takes_of rfl rfl rfl rfl) (fun _ _ _ _ h => h)) (pa_cons (pe_cal (cal_up0 c_is_allocation) (hr.mono (by decide)) rfl passL (pa_cons (pv 0) (pa_cons (pe_callB (k_len (K := K) rfl) rfl T.b_len (by decide +kernel) (pa_cons (pv 1) pa_nil)) (pa_cons (pe_callB (k_sum (K := K) rfl rfl) rfl T.b_sum (by decide +kernel) (pa_cons (pv 1) pa_nil)) pa_nil)))) (pa_cons (pv 2) pa_nil))))), run_ref (N := n_check_alike) (C := C) (fun ds nm hd hE => ?_) h⟩)
  obtain ⟨x, as, v, b, rfl, hz, ha, hs, hb⟩ := hd
  exact xl_reqE hz hE (d_call (k := .v) (d := .bool false) (a_cons (d_var rfl) (a_cons ((d_lenT (d_var rfl)).to (y := .int v) (by rw [List.length_map, ha.len])) (a_cons ((e_sumT (d_var rfl)).to (y := .int b) (by rw [ha.sum])) a_nil))) ⟨x, v, b, rfl, hs, rfl, by rw [hb]⟩) (d_var rfl)

theorem ok_check_weightedX {P : Program} {w : World} {K : PySem.W.Frag} {mg : Str → Option Value} {base : Heap} {f C : Addr} {fd : FuncData} (F : Fun K "check_weighted" "check_weighted" s_check_weighted f fd) (T : Txt mg) (c_are_weights : Cal P w K mg base CX0 3 "are_weights" p_are_weights (sp_are_weights K)) (c_is_bounded_allocation : Cal P w K mg base CX0 3 "is_bounded_allocation" p_is_bounded_allocation (sp_is_bounded_allocationX K)) {fx_require : Addr} {fdx_require : FuncData} (X_require : FnOk P w K mg base (L2.CX P w) 4 fx_require fdx_require p_require (spReq C)) (m_require : mg "require" = some (.ref fx_require)) (k_require : PySem.W.keepIn K (.ref fx_require) = true) (b_require : Binds K fdx_require p_require []) :
    FnOk P w K mg base (L2.CX P w) 5 f fd p_check_weighted (spRef K C RcWt) := by
  refine F.okX sc_check_weighted (fun vs H Q E h => by obtain ⟨ds, nm, hb, hd, _⟩ := h; rw [hb.len, RcWt_len hd]; rfl) (fun cdv A outer s H vs Q E hr h => ⟨_, (pss_cons (ps_expr (pe_call X_require (hr.mono (by decide)) rfl m_require k_require b_require .nil (passes_call (E := E) (takes_of rfl rfl rfl rfl) (fun _ _ _ _ h => h)) (pa_cons (pe_cal (cal_up0 c_are_weights) (hr.mono (by decide)) rfl passL (pa_cons (pv 0) pa_nil)) (pa_cons pe_str pa_nil))))
      (pss_one (ps_expr (pe_call X_require (hr.mono (by decide)) rfl m_require k_require b_require .nil (passes_call (E := E) (takes_of rfl rfl rfl rfl) (fun _ _ _ _ h => h)) (pa_cons (pe_and (pe_cal (cal_up0 c_is_bounded_allocation) (hr.mono (by decide)) rfl passL (pa_cons (pv 1) pa_nil)) (pe_one (pe_cmpR (k_eq (K := K) rfl (rUnits hr)) (pe_callB (k_len (K := K) rfl) rfl T.b_len (by decide +kernel) (pa_cons (pv 1) pa_nil)) (pe_callB (k_len (K := K) rfl) rfl T.b_len (by decide +kernel) (pa_cons (pv 0) pa_nil)) (nomark _)))) (pa_cons pe_str pa_nil)))))), run_ref (N := n_check_weighted) (C := C) (fun ds nm hd hE => ?_) h⟩)
  obtain ⟨a, x, rfl, ⟨hs, hb, rfl⟩ | ⟨ws, rfl, hw, hs, hb, rfl⟩⟩ := hd
  · exact x_req (by decide) hE (d_call (k := .v) (d := .bool false) (a_cons (d_var rfl) a_nil) ⟨a, rfl, hs, rfl, by rw [hb]⟩)
  · have l5 := hw.l5
    refine x_okreq (by decide) (d_call (k := .v) (d := .bool true) (a_cons (d_var rfl) a_nil) ⟨tupD ws, rfl, small_ints (by omega), rfl, by rw [hw.isB]⟩) ?_
    refine xl_req (by decide) hE ((d_andV (a := balB x) (b := decide ((lenT x : Int) = (ws.length : Int))) (d_call (k := .v) (a_cons (d_var rfl) a_nil) ⟨x, rfl, hs, rfl, rfl⟩) fun w => ?_).to (by rw [hb]))
    unfold balB at w
    rw [Bool.and_eq_true] at w
    obtain ⟨ns, rfl, _⟩ := areInts_ints w.1
    exact (e_eqI (d_lenT (d_var rfl)) (d_lenT (d_var rfl))).to (by rw [lenT_ints, List.length_map, List.length_map])

theorem ok_transferX {P : Program} {w : World} {K : PySem.W.Frag} {mg : Str → Option Value} {base : Heap} {f C : Addr} {fd : FuncData} (F : Fun K "transfer" "transfer" s_transfer f fd) (T : Txt mg) {fx_check_allocation : Addr} {fdx_check_allocation : FuncData} (X_check_allocation : FnOk P w K mg base (L2.CX P w) 5 fx_check_allocation fdx_check_allocation p_check_allocation (spDR K C (sp_check_allocation K) RcAl)) (m_check_allocation : mg "check_allocation" = some (.ref fx_check_allocation)) (k_check_allocation : PySem.W.keepIn K (.ref fx_check_allocation) = true) (b_check_allocation : Binds K fdx_check_allocation p_check_allocation []) {fx_check_alike : Addr} {fdx_check_alike : FuncData} (X_check_alike : FnOk P w K mg base (L2.CX P w) 5 fx_check_alike fdx_check_alike p_check_alike (spDR K C (sp_check_alike K) RcLk)) (m_check_alike : mg "check_alike" = some (.ref fx_check_alike)) (k_check_alike : PySem.W.keepIn K (.ref fx_check_alike) = true) (b_check_alike : Binds K fdx_check_alike p_check_alike []) :
    FnOk P w K mg base (L2.CX P w) 6 f fd p_transfer (spRef K C Rc2) := by
  refine F.okX sc_transfer (fun vs H Q E h => by obtain ⟨ds, nm, hb, hd, _⟩ := h; rw [hb.len, Rc2_len hd]; rfl) (fun cdv A outer s H vs Q E hr h => ⟨_, (pss_cons (ps_expr (pe_call X_check_allocation (hr.mono (by decide)) rfl m_check_allocation k_check_allocation b_check_allocation .nil (passes_call (E := E) (takes_of rfl rfl rfl rfl) (fun _ _ _ _ h => h)) (pa_cons (pv 0) (pa_cons pe_str pa_nil))))
      (pss_cons (ps_expr (pe_call X_check_alike (hr.mono (by decide)) rfl m_check_alike k_check_alike b_check_alike .nil (passes_call (E := E) (takes_of rfl rfl rfl rfl) (fun _ _ _ _ h => h)) (pa_cons (pv 1) (pa_cons (pv 0) (pa_cons pe_str pa_nil)))))
      (pss_one (ps_ret (pe_callB (k_sum (K := K) rfl rfl) rfl T.b_sum (by decide +kernel) (pa_cons (pe_lc rfl sc_transfer.nd (k_zip (K := K) rfl rfl T.b_zip (pa_cons (pv 0) (pa_cons (pv 1) pa_nil))) (blkOk_by (own := [("old", 2), ("new", 3)]) (N := n_transfer) (sc := defScope s_transfer) (by decide +kernel)) (fun _ _ _ _ _ => by exact (k_tup (K := K) (n := 2) rfl rfl (pgs_cons (pg_name (i := 2) sc_transfer.nd rfl (Or.inl rfl)) (pgs_cons (pg_name (i := 3) sc_transfer.nd rfl (Or.inl rfl)) pgs_nil)))) (fun _ _ _ _ _ => by exact pts_nil) (fun _ _ _ _ _ => by exact (pe_callB (call_max2 rfl) rfl T.b_max (by decide +kernel) (pa_cons (pe_op op_sub (pv 2) (pv 3)) (pa_cons pe_int pa_nil))))) pa_nil)))))), run_ref (N := n_transfer) (C := C) (fun ds nm hd hE => ?_) h⟩)
  obtain ⟨a, x, rfl, ⟨hs, hb, rfl⟩ | ⟨as, v, b, rfl, ha, v1, v5, b20, hs, hb, rfl⟩⟩ := hd
  · exact x_seq (x_dropE (x_ref (ds := [a, .str "first"]) (nm := "first") (a_cons (d_var rfl) (a_cons d_str a_nil)) ⟨a, rfl, by decide, hs, hb⟩ hE))
  · refine x_drop (x_good (k := .v) (d := .none) (a_cons (d_var rfl) (a_cons d_str a_nil)) ⟨as, v, b, "first", rfl, ha, v1, v5, b20, rfl, rfl⟩) ?_
    exact x_seq (x_dropE (x_ref (ds := [x, tupD as, .str "second"]) (nm := "second") (a_cons (d_var rfl) (a_cons (d_var rfl) (a_cons d_str a_nil))) ⟨x, as, v, b, rfl, by decide, ha, hs, hb⟩ hE))

theorem ok_mediansX {P : Program} {w : World} {K : PySem.W.Frag} {mg : Str → Option Value} {base : Heap} {f C : Addr} {fd : FuncData} (F : Fun K "medians" "medians" s_medians f fd) (T : Txt mg) {fx_check_allocation : Addr} {fdx_check_allocation : FuncData} (X_check_allocation : FnOk P w K mg base (L2.CX P w) 5 fx_check_allocation fdx_check_allocation p_check_allocation (spDR K C (sp_check_allocation K) RcAl)) (m_check_allocation : mg "check_allocation" = some (.ref fx_check_allocation)) (k_check_allocation : PySem.W.keepIn K (.ref fx_check_allocation) = true) (b_check_allocation : Binds K fdx_check_allocation p_check_allocation []) {fx_check_alike : Addr} {fdx_check_alike : FuncData} (X_check_alike : FnOk P w K mg base (L2.CX P w) 5 fx_check_alike fdx_check_alike p_check_alike (spDR K C (sp_check_alike K) RcLk)) (m_check_alike : mg "check_alike" = some (.ref fx_check_alike)) (k_check_alike : PySem.W.keepIn K (.ref fx_check_alike) = true) (b_check_alike : Binds K fdx_check_alike p_check_alike []) :
    FnOk P w K mg base (L2.CX P w) 6 f fd p_medians (spRef K C RcM1) := by
  refine F.okX sc_medians (fun vs H Q E h => by obtain ⟨ds, nm, hb, hd, _⟩ := h; rw [hb.len, RcM1_len hd]; rfl) (fun cdv A outer s H vs Q E hr h => ⟨_, (pss_cons (ps_expr (pe_call X_check_allocation (hr.mono (by decide)) rfl m_check_allocation k_check_allocation b_check_allocation .nil (passes_call (E := E) (takes_of rfl rfl rfl rfl) (fun _ _ _ _ h => h)) (pa_cons (pv 0) (pa_cons pe_str pa_nil))))
      (pss_cons (ps_expr (pe_call X_check_alike (hr.mono (by decide)) rfl m_check_alike k_check_alike b_check_alike .nil (passes_call (E := E) (takes_of rfl rfl rfl rfl) (fun _ _ _ _ h => h)) (pa_cons (pv 1) (pa_cons (pv 0) (pa_cons pe_str pa_nil)))))
      (pss_cons (ps_expr (pe_call X_check_alike (hr.mono (by decide)) rfl m_check_alike k_check_alike b_check_alike .nil (passes_call (E := E) (takes_of rfl rfl rfl rfl) (fun _ _ _ _ h => h)) (pa_cons (pv 2) (pa_cons (pv 0) (pa_cons pe_str pa_nil)))))
      (pss_one (ps_ret (pe_callTy (k_tuple (K := K) rfl) rfl T.b_tuple (by decide +kernel) (pa_cons (pe_lc rfl sc_medians.nd (k_zip3 (K := K) rfl rfl T.b_zip (pa_cons (pv 0) (pa_cons (pv 1) (pa_cons (pv 2) pa_nil)))) (blkOk_by (own := [("shares", 3)]) (N := n_medians) (sc := defScope s_medians) (by decide +kernel)) (fun _ _ _ _ _ => by exact (pg_name (i := 3) sc_medians.nd rfl (Or.inl rfl))) (fun _ _ _ _ _ => by exact pts_nil) (fun _ _ _ _ _ => by exact (pe_ix (k_ix (K := K) rfl) (pe_callB (k_sorted (K := K) rfl) rfl T.b_sorted (by decide +kernel) (pa_cons (pv 3) pa_nil)) pe_int (fun _ _ => rfl)))) pa_nil))))))), run_ref (N := n_medians) (C := C) (fun ds nm hd hE => ?_) h⟩)
  obtain ⟨a, x, y, rfl, ⟨hs, hb, rfl⟩ | ⟨as, v, b, rfl, ha, v1, v5, b20, ⟨hs, hb, rfl⟩ | ⟨cs, rfl, hc, hs, hb, rfl⟩⟩⟩ := hd
  · exact x_seq (x_dropE (x_ref (ds := [a, .str "first"]) (nm := "first") (a_cons (d_var rfl) (a_cons d_str a_nil)) ⟨a, rfl, by decide, hs, hb⟩ hE))
  · refine x_drop (x_good (k := .v) (d := .none) (a_cons (d_var rfl) (a_cons d_str a_nil)) ⟨as, v, b, "first", rfl, ha, v1, v5, b20, rfl, rfl⟩) ?_
    exact x_seq (x_dropE (x_ref (ds := [x, tupD as, .str "second"]) (nm := "second") (a_cons (d_var rfl) (a_cons (d_var rfl) (a_cons d_str a_nil))) ⟨x, as, v, b, rfl, by decide, ha, hs, hb⟩ hE))
  · refine x_drop (x_good (k := .v) (d := .none) (a_cons (d_var rfl) (a_cons d_str a_nil)) ⟨as, v, b, "first", rfl, ha, v1, v5, b20, rfl, rfl⟩) ?_
    refine x_drop (x_good (k := .v) (d := .none) (a_cons (d_var rfl) (a_cons (d_var rfl) (a_cons d_str a_nil))) ⟨cs, as, v, b, "second", rfl, hc, ha, by omega, rfl, rfl⟩) ?_
    exact x_seq (x_dropE (x_ref (ds := [y, tupD as, .str "third"]) (nm := "third") (a_cons (d_var rfl) (a_cons (d_var rfl) (a_cons d_str a_nil))) ⟨y, as, v, b, rfl, by decide, ha, hs, hb⟩ hE))

theorem ok_apportionedX {P : Program} {w : World} {K : PySem.W.Frag} {mg : Str → Option Value} {base : Heap} {f C : Addr} {fd : FuncData} (F : Fun K "apportioned" "apportioned" s_apportioned f fd) (T : Txt mg) (c_by_largest_rests : Cal P w K mg base CX0 2 "by_largest_rests" p_by_largest_rests (sp_by_largest_rests K)) (c_are_weights : Cal P w K mg base CX0 3 "are_weights" p_are_weights (sp_are_weights K)) (c_is_integer : Cal P w K mg base CX0 1 "is_integer" p_is_integer (sp_is_integer K)) {fx_require : Addr} {fdx_require : FuncData} (X_require : FnOk P w K mg base (L2.CX P w) 4 fx_require fdx_require p_require (spReq C)) (m_require : mg "require" = some (.ref fx_require)) (k_require : PySem.W.keepIn K (.ref fx_require) = true) (b_require : Binds K fdx_require p_require []) :
    FnOk P w K mg base (L2.CX P w) 5 f fd p_apportioned (spRef K C RcAp) := by
  refine F.okX sc_apportioned (fun vs H Q E h => by obtain ⟨ds, nm, hb, hd, _⟩ := h; rw [hb.len, RcAp_len hd]; rfl) (fun cdv A outer s H vs Q E hr h => ⟨_, (pss_cons (ps_expr (pe_call X_require (hr.mono (by decide)) rfl m_require k_require b_require .nil (passes_call (E := E) (takes_of rfl rfl rfl rfl) (fun _ _ _ _ h => h)) (pa_cons (pe_cal (cal_up0 c_are_weights) (hr.mono (by decide)) rfl passL (pa_cons (pv 0) pa_nil)) (pa_cons pe_str pa_nil))))
      (pss_cons (ps_expr (pe_call X_require (hr.mono (by decide)) rfl m_require k_require b_require .nil (passes_call (E := E) (takes_of rfl rfl rfl rfl) (fun _ _ _ _ h => h)) (pa_cons (pe_cal (cal_up0 c_is_integer) (hr.mono (by decide)) rfl passL (pa_cons (pv 1) (pa_cons pe_int (pa_cons (pe_const rfl T.k_MOST_BUCKETS) pa_nil)))) (pa_cons pe_str pa_nil))))
      (pss_one (ps_ret (pe_cal (cal_up0 c_by_largest_rests) (hr.mono (by decide)) rfl passL (pa_cons (pv 0) (pa_cons (pv 1) pa_nil))))))), run_ref (N := n_apportioned) (C := C) (fun ds nm hd hE => ?_) h⟩)
  obtain ⟨a, x, rfl, ⟨hs, hb, rfl⟩ | ⟨ws, rfl, hw, hb, rfl⟩⟩ := hd
  · exact x_req (by decide) hE (d_call (k := .v) (d := .bool false) (a_cons (d_var rfl) a_nil) ⟨a, rfl, hs, rfl, by rw [hb]⟩)
  · have l5 := hw.l5
    refine x_okreq (by decide) (d_call (k := .v) (d := .bool true) (a_cons (d_var rfl) a_nil) ⟨tupD ws, rfl, small_ints (by omega), rfl, by rw [hw.isB]⟩) ?_
    exact x_req (by decide) hE (d_call (k := .v) (d := .bool false) (a_cons (d_var rfl) (a_cons d_int (a_cons d_int a_nil))) ⟨x, 0, 20, rfl, rfl, by rw [hb]⟩)

theorem ok_deviationX {P : Program} {w : World} {K : PySem.W.Frag} {mg : Str → Option Value} {base : Heap} {f C : Addr} {fd : FuncData} (F : Fun K "deviation" "deviation" s_deviation f fd) (T : Txt mg) (c_in_lowest_terms : Cal P w K mg base CX0 1 "in_lowest_terms" p_in_lowest_terms (sp_in_lowest_terms K)) (c_surpluses : Cal P w K mg base CX0 1 "surpluses" p_surpluses (sp_surpluses K)) {fx_check_weighted : Addr} {fdx_check_weighted : FuncData} (X_check_weighted : FnOk P w K mg base (L2.CX P w) 5 fx_check_weighted fdx_check_weighted p_check_weighted (spDR K C (sp_check_weighted K) RcWt)) (m_check_weighted : mg "check_weighted" = some (.ref fx_check_weighted)) (k_check_weighted : PySem.W.keepIn K (.ref fx_check_weighted) = true) (b_check_weighted : Binds K fdx_check_weighted p_check_weighted []) :
    FnOk P w K mg base (L2.CX P w) 6 f fd p_deviation (spRef K C RcWt) := by
  refine F.okX sc_deviation (fun vs H Q E h => by obtain ⟨ds, nm, hb, hd, _⟩ := h; rw [hb.len, RcWt_len hd]; rfl) (fun cdv A outer s H vs Q E hr h => ⟨_, (pss_cons (ps_expr (pe_call X_check_weighted (hr.mono (by decide)) rfl m_check_weighted k_check_weighted b_check_weighted .nil (passes_call (E := E) (takes_of rfl rfl rfl rfl) (fun _ _ _ _ h => h)) (pa_cons (pv 0) (pa_cons (pv 1) pa_nil))))
      (pss_cons (ps_set (i := 2) sc_deviation.nd rfl (Or.inl rfl) (pe_callB (k_sum (K := K) rfl rfl) rfl T.b_sum (by decide +kernel) (pa_cons (pe_lc rfl sc_deviation.nd (k_seq (K := K) rfl (pe_cal (cal_up0 c_surpluses) (hr.mono (by decide)) rfl passL (pa_cons (pv 0) (pa_cons (pv 1) pa_nil)))) (blkOk_by (own := [("surplus", 3)]) (N := n_deviation) (sc := defScope s_deviation) (by decide +kernel)) (fun _ _ _ _ _ => by exact (pg_name (i := 3) sc_deviation.nd rfl (Or.inl rfl))) (fun _ _ _ _ _ => by exact pts_nil) (fun _ _ _ _ _ => by exact (pe_callB call_abs rfl T.b_abs (by decide +kernel) (pa_cons (pv 3) pa_nil)))) pa_nil)))
      (pss_one (ps_ret (pe_cal (cal_up0 c_in_lowest_terms) (hr.mono (by decide)) rfl passL (pa_cons (pv 2) (pa_cons (pe_callB (k_sum (K := K) rfl rfl) rfl T.b_sum (by decide +kernel) (pa_cons (pv 0) pa_nil)) pa_nil))))))), run_ref (N := n_deviation) (C := C) (fun ds nm hd hE => ?_) h⟩)
  obtain ⟨a, x, e, _⟩ := id hd
  subst e
  exact x_seq (x_dropE (x_ref (a_cons (d_var rfl) (a_cons (d_var rfl) a_nil)) hd hE))

theorem ok_is_nearestX {P : Program} {w : World} {K : PySem.W.Frag} {mg : Str → Option Value} {base : Heap} {f C : Addr} {fd : FuncData} (F : Fun K "is_nearest" "is_nearest" s_is_nearest f fd) (T : Txt mg) (c_surpluses : Cal P w K mg base CX0 1 "surpluses" p_surpluses (sp_surpluses K)) (c_rests_of : Cal P w K mg base CX0 1 "rests_of" p_rests_of (sp_rests_of K)) {fx_check_weighted : Addr} {fdx_check_weighted : FuncData} (X_check_weighted : FnOk P w K mg base (L2.CX P w) 5 fx_check_weighted fdx_check_weighted p_check_weighted (spDR K C (sp_check_weighted K) RcWt)) (m_check_weighted : mg "check_weighted" = some (.ref fx_check_weighted)) (k_check_weighted : PySem.W.keepIn K (.ref fx_check_weighted) = true) (b_check_weighted : Binds K fdx_check_weighted p_check_weighted []) :
    FnOk P w K mg base (L2.CX P w) 6 f fd p_is_nearest (spRef K C RcWt) := by
  refine F.okX sc_is_nearest (fun vs H Q E h => by obtain ⟨ds, nm, hb, hd, _⟩ := h; rw [hb.len, RcWt_len hd]; rfl) (fun cdv A outer s H vs Q E hr h => ⟨_, (pss_cons (ps_expr (pe_call X_check_weighted (hr.mono (by decide)) rfl m_check_weighted k_check_weighted b_check_weighted .nil (passes_call (E := E) (takes_of rfl rfl rfl rfl) (fun _ _ _ _ h => h)) (pa_cons (pv 0) (pa_cons (pv 1) pa_nil))))
      (pss_cons (ps_set (i := 2) sc_is_nearest.nd rfl (Or.inl rfl) (pe_cal (cal_up0 c_surpluses) (hr.mono (by decide)) rfl passL (pa_cons (pv 0) (pa_cons (pv 1) pa_nil))))
      (pss_cons (ps_if (pt_cmpR op_ge (pe_callB (k_max (K := K) rfl rfl) rfl T.b_max (by decide +kernel) (pa_cons (pe_lc rfl sc_is_nearest.nd (k_seq (K := K) rfl (pv 2)) (blkOk_by (own := [("surplus", 3)]) (N := n_is_nearest) (sc := defScope s_is_nearest) (by decide +kernel)) (fun _ _ _ _ _ => by exact (pg_name (i := 3) sc_is_nearest.nd rfl (Or.inl rfl))) (fun _ _ _ _ _ => by exact pts_nil) (fun _ _ _ _ _ => by exact (pe_callB call_abs rfl T.b_abs (by decide +kernel) (pa_cons (pv 3) pa_nil)))) pa_nil)) (pe_callB (k_sum (K := K) rfl rfl) rfl T.b_sum (by decide +kernel) (pa_cons (pv 0) pa_nil)) (nomark _)) (pss_one (ps_ret pe_bl)) pss_nil)
      (pss_cons (ps_set (i := 4) sc_is_nearest.nd rfl (Or.inl rfl) (pe_cal (cal_up0 c_rests_of) (hr.mono (by decide)) rfl passL (pa_cons (pv 0) (pa_cons (pe_callB (k_sum (K := K) rfl rfl) rfl T.b_sum (by decide +kernel) (pa_cons (pv 1) pa_nil)) pa_nil))))
      (pss_cons (ps_setLc (i := 5) rfl sc_is_nearest.nd rfl rfl (sw_true rfl rfl rfl (by decide +kernel)) (k_zip (K := K) rfl rfl T.b_zip (pa_cons (pv 4) (pa_cons (pv 2) pa_nil))) (blkOk_by (own := [("rest", 6), ("surplus", 3)]) (N := n_is_nearest) (sc := defScope s_is_nearest) (by decide +kernel)) (fun _ _ _ _ _ => by exact (k_tup (K := K) (n := 2) rfl rfl (pgs_cons (pg_name (i := 6) sc_is_nearest.nd rfl (Or.inl rfl)) (pgs_cons (pg_name (i := 3) sc_is_nearest.nd rfl (Or.inl rfl)) pgs_nil)))) (fun _ _ _ _ _ => by exact (pts_one (pt_cmpR op_gt (pv 3) pe_int (nomark _)))) (fun _ _ _ _ _ => by exact (pv 6)))
      (pss_cons (ps_setLc (i := 7) rfl sc_is_nearest.nd rfl rfl (sw_true rfl rfl rfl (by decide +kernel)) (k_zip (K := K) rfl rfl T.b_zip (pa_cons (pv 4) (pa_cons (pv 2) pa_nil))) (blkOk_by (own := [("rest", 6), ("surplus", 3)]) (N := n_is_nearest) (sc := defScope s_is_nearest) (by decide +kernel)) (fun _ _ _ _ _ => by exact (k_tup (K := K) (n := 2) rfl rfl (pgs_cons (pg_name (i := 6) sc_is_nearest.nd rfl (Or.inl rfl)) (pgs_cons (pg_name (i := 3) sc_is_nearest.nd rfl (Or.inl rfl)) pgs_nil)))) (fun _ _ _ _ _ => by exact (pts_one (pt_cmpR op_lt (pv 3) pe_int (nomark _)))) (fun _ _ _ _ _ => by exact (pv 6)))
      (pss_one (ps_ret (pe_or (k_notT (K := K) rfl (pv 5)) (pe_one (pe_cmpR op_ge (pe_callB (k_min (K := K) rfl rfl) rfl T.b_min (by decide +kernel) (pa_cons (pv 5) pa_nil)) (pe_callB (k_max (K := K) rfl rfl) rfl T.b_max (by decide +kernel) (pa_cons (pv 7) pa_nil)) (nomark _)))))))))))), run_ref (N := n_is_nearest) (C := C) (fun ds nm hd hE => ?_) h⟩)
  obtain ⟨a, x, e, _⟩ := id hd
  subst e
  exact x_seq (x_dropE (x_ref (a_cons (d_var rfl) (a_cons (d_var rfl) a_nil)) hd hE))

theorem ok_renamed_sharesX {P : Program} {w : World} {K : PySem.W.Frag} {mg : Str → Option Value} {base : Heap} {f C : Addr} {fd : FuncData} (F : Fun K "renamed_shares" "renamed_shares" s_renamed_shares f fd) (T : Txt mg) (c_placed : Cal P w K mg base CX0 1 "placed" p_placed (sp_placed K)) (c_is_order : Cal P w K mg base CX0 3 "is_order" p_is_order (sp_is_orderD K)) {fx_check_allocation : Addr} {fdx_check_allocation : FuncData} (X_check_allocation : FnOk P w K mg base (L2.CX P w) 5 fx_check_allocation fdx_check_allocation p_check_allocation (spDR K C (sp_check_allocation K) RcAl)) (m_check_allocation : mg "check_allocation" = some (.ref fx_check_allocation)) (k_check_allocation : PySem.W.keepIn K (.ref fx_check_allocation) = true) (b_check_allocation : Binds K fdx_check_allocation p_check_allocation []) {fx_require : Addr} {fdx_require : FuncData} (X_require : FnOk P w K mg base (L2.CX P w) 4 fx_require fdx_require p_require (spReq C)) (m_require : mg "require" = some (.ref fx_require)) (k_require : PySem.W.keepIn K (.ref fx_require) = true) (b_require : Binds K fdx_require p_require []) :
    FnOk P w K mg base (L2.CX P w) 6 f fd p_renamed_shares (spRef K C RcOd) := by
  refine F.okX sc_renamed_shares (fun vs H Q E h => by obtain ⟨ds, nm, hb, hd, _⟩ := h; rw [hb.len, RcOd_len hd]; rfl) (fun cdv A outer s H vs Q E hr h => ⟨_, (pss_cons (ps_expr (pe_call X_check_allocation (hr.mono (by decide)) rfl m_check_allocation k_check_allocation b_check_allocation .nil (passes_call (E := E) (takes_of rfl rfl rfl rfl) (fun _ _ _ _ h => h)) (pa_cons (pv 0) (pa_cons pe_str pa_nil))))
      (pss_cons (ps_expr (pe_call X_require (hr.mono (by decide)) rfl m_require k_require b_require .nil (passes_call (E := E) (takes_of rfl rfl rfl rfl) (fun _ _ _ _ h => h)) (pa_cons (pe_cal (cal_up0 c_is_order) (hr.mono (by decide)) rfl passL (pa_cons (pv 1) (pa_cons (pe_callB (k_len (K := K) rfl) rfl T.b_len (by decide +kernel) (pa_cons (pv 0) pa_nil)) pa_nil))) (pa_cons pe_str pa_nil))))
      (pss_one (ps_ret (pe_cal (cal_up0 c_placed) (hr.mono (by decide)) rfl passL (pa_cons (pv 0) (pa_cons (pv 1) pa_nil))))))), run_ref (N := n_renamed_shares) (C := C) (fun ds nm hd hE => ?_) h⟩)
  obtain ⟨a, x, rfl, ⟨hs, hb, rfl⟩ | ⟨as, v, b, rfl, ha, v1, v5, b20, hs, hb, rfl⟩⟩ := hd
  · exact x_seq (x_dropE (x_ref (ds := [a, .str "allocation"]) (nm := "allocation") (a_cons (d_var rfl) (a_cons d_str a_nil)) ⟨a, rfl, by decide, hs, hb⟩ hE))
  · have hl := ha.len
    refine x_drop (x_good (k := .v) (d := .none) (a_cons (d_var rfl) (a_cons d_str a_nil)) ⟨as, v, b, "allocation", rfl, ha, v1, v5, b20, rfl, rfl⟩) ?_
    exact x_req (by decide) hE (d_call (k := .v) (d := .bool false) (a_cons (d_var rfl) (a_cons ((d_lenT (d_var rfl)).to (y := .int v) (by rw [List.length_map, hl])) a_nil)) ⟨x, v, rfl, hs, by omega, rfl, by rw [hb]⟩)

theorem ok_check_assignmentX {P : Program} {w : World} {K : PySem.W.Frag} {mg : Str → Option Value} {base : Heap} {f C : Addr} {fd : FuncData} (F : Fun K "check_assignment" "check_assignment" s_check_assignment f fd) (T : Txt mg) (c_is_bounded_assignment : Cal P w K mg base CX0 3 "is_bounded_assignment" p_is_bounded_assignment (sp_is_bounded_assignment K)) {fx_require : Addr} {fdx_require : FuncData} (X_require : FnOk P w K mg base (L2.CX P w) 4 fx_require fdx_require p_require (spReq C)) (m_require : mg "require" = some (.ref fx_require)) (k_require : PySem.W.keepIn K (.ref fx_require) = true) (b_require : Binds K fdx_require p_require []) :
    FnOk P w K mg base (L2.CX P w) 5 f fd p_check_assignment (spRef K C RcAs) := by
  refine F.okX sc_check_assignment (fun vs H Q E h => by obtain ⟨ds, nm, hb, hd, _⟩ := h; rw [hb.len, RcAs_len hd]; rfl) (fun cdv A outer s H vs Q E hr h => ⟨_, (pss_one (ps_expr (pe_call X_require (hr.mono (by decide)) rfl m_require k_require b_require .nil (passes_call (E := E) (takes_of rfl rfl rfl rfl) (fun _ _ _ _ h => h)) (pa_cons (pe_cal (cal_up0 c_is_bounded_assignment) (hr.mono (by decide)) rfl passL (pa_cons (pv 0) (pa_cons (pe_const rfl T.k_MOST_VARIANTS) pa_nil))) (pa_cons (pv 1) pa_nil))))), run_ref (N := n_check_assignment) (C := C) (fun ds nm hd hE => ?_) h⟩)
  obtain ⟨x, rfl, hz, hs, hb⟩ := hd
  exact xl_reqE hz hE (d_call (k := .v) (d := .bool false) (a_cons (d_var rfl) (a_cons d_int a_nil)) ⟨x, 5, rfl, hs, rfl, by rw [hb]⟩) (d_var rfl)

theorem ok_check_pairX {P : Program} {w : World} {K : PySem.W.Frag} {mg : Str → Option Value} {base : Heap} {f C : Addr} {fd : FuncData} (F : Fun K "check_pair" "check_pair" s_check_pair f fd) (T : Txt mg) (c_is_assignment : Cal P w K mg base CX0 3 "is_assignment" p_is_assignment (sp_is_assignment K)) {fx_check_assignment : Addr} {fdx_check_assignment : FuncData} (X_check_assignment : FnOk P w K mg base (L2.CX P w) 5 fx_check_assignment fdx_check_assignment p_check_assignment (spDR K C (sp_check_assignment K) RcAs)) (m_check_assignment : mg "check_assignment" = some (.ref fx_check_assignment)) (k_check_assignment : PySem.W.keepIn K (.ref fx_check_assignment) = true) (b_check_assignment : Binds K fdx_check_assignment p_check_assignment []) {fx_require : Addr} {fdx_require : FuncData} (X_require : FnOk P w K mg base (L2.CX P w) 4 fx_require fdx_require p_require (spReq C)) (m_require : mg "require" = some (.ref fx_require)) (k_require : PySem.W.keepIn K (.ref fx_require) = true) (b_require : Binds K fdx_require p_require []) :
    FnOk P w K mg base (L2.CX P w) 6 f fd p_check_pair (spRef K C RcPr) := by
  refine F.okX sc_check_pair (fun vs H Q E h => by obtain ⟨ds, nm, hb, hd, _⟩ := h; rw [hb.len, RcPr_len hd]; rfl) (fun cdv A outer s H vs Q E hr h => ⟨_, (pss_cons (ps_expr (pe_call X_check_assignment (hr.mono (by decide)) rfl m_check_assignment k_check_assignment b_check_assignment .nil (passes_call (E := E) (takes_of rfl rfl rfl rfl) (fun _ _ _ _ h => h)) (pa_cons (pv 0) (pa_cons pe_str pa_nil))))
      (pss_one (ps_expr (pe_call X_require (hr.mono (by decide)) rfl m_require k_require b_require .nil (passes_call (E := E) (takes_of rfl rfl rfl rfl) (fun _ _ _ _ h => h)) (pa_cons (pe_cal (cal_up0 c_is_assignment) (hr.mono (by decide)) rfl passL (pa_cons (pv 1) (pa_cons (pe_const rfl T.k_MOST_VARIANTS) (pa_cons (pe_callB (k_len (K := K) rfl) rfl T.b_len (by decide +kernel) (pa_cons (pv 0) pa_nil)) pa_nil)))) (pa_cons pe_str pa_nil)))))), run_ref (N := n_check_pair) (C := C) (fun ds nm hd hE => ?_) h⟩)
  obtain ⟨a, x, rfl, ⟨hs, hb, rfl⟩ | ⟨ns, rfl, hn, hs, hb, rfl⟩⟩ := hd
  · exact x_seq (x_dropE (x_ref (ds := [a, .str "first"]) (nm := "first") (a_cons (d_var rfl) (a_cons d_str a_nil)) ⟨a, rfl, by decide, hs, hb⟩ hE))
  · refine x_drop (x_good (k := .v) (d := .none) (a_cons (d_var rfl) (a_cons d_str a_nil)) ⟨_, _, rfl, hn.small, hn.bAsg (Int.le_refl _), rfl, rfl⟩) ?_
    exact xl_req (by decide) hE (d_call (k := .v) (d := .bool false) (a_cons (d_var rfl) (a_cons d_int (a_cons ((d_lenT (d_var rfl)).to (y := .int (ns.length : Int)) (by rw [List.length_map])) a_nil))) ⟨x, 5, (ns.length : Int), rfl, hs, rfl, by rw [hb]⟩)

theorem ok_check_enoughX {P : Program} {w : World} {K : PySem.W.Frag} {mg : Str → Option Value} {base : Heap} {f C : Addr} {fd : FuncData} (F : Fun K "check_enough" "check_enough" s_check_enough f fd) (T : Txt mg) (c_is_integer : Cal P w K mg base CX0 1 "is_integer" p_is_integer (sp_is_integer K)) {fx_require : Addr} {fdx_require : FuncData} (X_require : FnOk P w K mg base (L2.CX P w) 4 fx_require fdx_require p_require (spReq C)) (m_require : mg "require" = some (.ref fx_require)) (k_require : PySem.W.keepIn K (.ref fx_require) = true) (b_require : Binds K fdx_require p_require []) :
    FnOk P w K mg base (L2.CX P w) 5 f fd p_check_enough (spRef K C RcCe) := by
  refine F.okX sc_check_enough (fun vs H Q E h => by obtain ⟨ds, nm, hb, hd, _⟩ := h; rw [hb.len, RcCe_len hd]; rfl) (fun cdv A outer s H vs Q E hr h => ⟨_, (pss_cons (ps_set (i := 2) sc_check_enough.nd rfl (Or.inl rfl) (pe_op (k_add (K := K) rfl) (pe_callBK (k_maxD (K := K) rfl rfl) rfl T.b_max (by decide +kernel) (pa_cons (pv 1) pa_nil) (pk_cons pe_int pk_nil)) pe_int))
      (pss_one (ps_expr (pe_call X_require (hr.mono (by decide)) rfl m_require k_require b_require .nil (passes_call (E := E) (takes_of rfl rfl rfl rfl) (fun _ _ _ _ h => h)) (pa_cons (pe_cal (cal_up0 c_is_integer) (hr.mono (by decide)) rfl passL (pa_cons (pv 0) (pa_cons (pv 2) (pa_cons (pe_const rfl T.k_MOST_VARIANTS) pa_nil)))) (pa_cons pe_str pa_nil)))))), run_ref (N := n_check_enough) (C := C) (fun ds nm hd hE => ?_) h⟩)
  obtain ⟨x, ns, rfl, hb, rfl⟩ := hd
  refine x_asg (d := .int (mxD 0 ns + 1)) (e_add (e_maxD (d_var rfl) d_int) d_int) ?_
  exact xl_req (by decide) hE (d_call (k := .v) (d := .bool false) (a_cons (d_var rfl) (a_cons (d_var rfl) (a_cons d_int a_nil))) ⟨x, mxD 0 ns + 1, 5, rfl, rfl, by rw [hb]⟩)

theorem ok_allocation_ofX {P : Program} {w : World} {K : PySem.W.Frag} {mg : Str → Option Value} {base : Heap} {f C : Addr} {fd : FuncData} (F : Fun K "allocation_of" "allocation_of" s_allocation_of f fd) (T : Txt mg) {fx_check_assignment : Addr} {fdx_check_assignment : FuncData} (X_check_assignment : FnOk P w K mg base (L2.CX P w) 5 fx_check_assignment fdx_check_assignment p_check_assignment (spDR K C (sp_check_assignment K) RcAs)) (m_check_assignment : mg "check_assignment" = some (.ref fx_check_assignment)) (k_check_assignment : PySem.W.keepIn K (.ref fx_check_assignment) = true) (b_check_assignment : Binds K fdx_check_assignment p_check_assignment []) {fx_check_enough : Addr} {fdx_check_enough : FuncData} (X_check_enough : FnOk P w K mg base (L2.CX P w) 5 fx_check_enough fdx_check_enough p_check_enough (spDR K C (sp_check_enough K) RcCe)) (m_check_enough : mg "check_enough" = some (.ref fx_check_enough)) (k_check_enough : PySem.W.keepIn K (.ref fx_check_enough) = true) (b_check_enough : Binds K fdx_check_enough p_check_enough []) :
    FnOk P w K mg base (L2.CX P w) 6 f fd p_allocation_of (spRef K C RcAo) := by
  refine F.okX sc_allocation_of (fun vs H Q E h => by obtain ⟨ds, nm, hb, hd, _⟩ := h; rw [hb.len, RcAo_len hd]; rfl) (fun cdv A outer s H vs Q E hr h => ⟨_, (pss_cons (ps_expr (pe_call X_check_assignment (hr.mono (by decide)) rfl m_check_assignment k_check_assignment b_check_assignment .nil (passes_call (E := E) (takes_of rfl rfl rfl rfl) (fun _ _ _ _ h => h)) (pa_cons (pv 0) (pa_cons pe_str pa_nil))))
      (pss_cons (ps_expr (pe_call X_check_enough (hr.mono (by decide)) rfl m_check_enough k_check_enough b_check_enough .nil (passes_call (E := E) (takes_of rfl rfl rfl rfl) (fun _ _ _ _ h => h)) (pa_cons (pv 1) (pa_cons (pv 0) pa_nil))))
      (pss_one (ps_ret (pe_callTy (k_tuple (K := K) rfl) rfl T.b_tuple (by decide +kernel) (pa_cons (pe_lc rfl sc_allocation_of.nd (pi_range1 rfl T.b_range (pa_cons (pv 1) pa_nil)) (blkOk_by (own := [("variant", 2)]) (N := n_allocation_of) (sc := defScope s_allocation_of) (by decide +kernel)) (fun _ _ _ _ _ => by exact (pg_name (i := 2) sc_allocation_of.nd rfl (Or.inl rfl))) (fun _ _ _ _ _ => by exact pts_nil) (fun _ _ _ _ _ => by exact (k_tm (K := K) rfl PySem.F.slot_tuple_count PySem.F.type_tuple_count (k_count (K := K) rfl) (pv 0) (pa_cons (pv 2) pa_nil)))) pa_nil)))))), run_ref (N := n_allocation_of) (C := C) (fun ds nm hd hE => ?_) h⟩)
  obtain ⟨a, x, rfl, ⟨hs, hb, rfl⟩ | ⟨ns, rfl, hn, hb, rfl⟩⟩ := hd
  · exact x_seq (x_dropE (x_ref (ds := [a, .str "assignment"]) (nm := "assignment") (a_cons (d_var rfl) (a_cons d_str a_nil)) ⟨a, rfl, by decide, hs, hb⟩ hE))
  · refine x_drop (x_good (k := .v) (d := .none) (a_cons (d_var rfl) (a_cons d_str a_nil)) ⟨_, _, rfl, hn.small, hn.bAsg (Int.le_refl _), rfl, rfl⟩) ?_
    exact x_seq (x_dropE (x_ref (ds := [x, tupD ns]) (nm := "variants") (a_cons (d_var rfl) (a_cons (d_var rfl) a_nil)) ⟨x, ns, rfl, hb, rfl⟩ hE))

theorem ok_movesX {P : Program} {w : World} {K : PySem.W.Frag} {mg : Str → Option Value} {base : Heap} {f C : Addr} {fd : FuncData} (F : Fun K "moves" "moves" s_moves f fd) (T : Txt mg) {fx_check_pair : Addr} {fdx_check_pair : FuncData} (X_check_pair : FnOk P w K mg base (L2.CX P w) 6 fx_check_pair fdx_check_pair p_check_pair (spDR K C (sp_check_pair K) RcPr)) (m_check_pair : mg "check_pair" = some (.ref fx_check_pair)) (k_check_pair : PySem.W.keepIn K (.ref fx_check_pair) = true) (b_check_pair : Binds K fdx_check_pair p_check_pair []) :
    FnOk P w K mg base (L2.CX P w) 7 f fd p_moves (spRef K C RcPr) := by
  refine F.okX sc_moves (fun vs H Q E h => by obtain ⟨ds, nm, hb, hd, _⟩ := h; rw [hb.len, RcPr_len hd]; rfl) (fun cdv A outer s H vs Q E hr h => ⟨_, (pss_cons (ps_expr (pe_call X_check_pair (hr.mono (by decide)) rfl m_check_pair k_check_pair b_check_pair .nil (passes_call (E := E) (takes_of rfl rfl rfl rfl) (fun _ _ _ _ h => h)) (pa_cons (pv 0) (pa_cons (pv 1) pa_nil))))
      (pss_one (ps_ret (pe_lc rfl sc_moves.nd (k_enumZ (K := K) rfl rfl T.b_enumerate rfl T.b_zip (pa_cons (pv 0) (pa_cons (pv 1) pa_nil))) (blkOk_by (own := [("bucket", 2), ("old", 3), ("new", 4)]) (N := n_moves) (sc := defScope s_moves) (by decide +kernel)) (fun _ _ _ _ _ => by exact (k_tup (K := K) (n := 2) rfl rfl (pgs_cons (pg_name (i := 2) sc_moves.nd rfl (Or.inl rfl)) (pgs_cons (k_tup (K := K) (n := 2) rfl rfl (pgs_cons (pg_name (i := 3) sc_moves.nd rfl (Or.inl rfl)) (pgs_cons (pg_name (i := 4) sc_moves.nd rfl (Or.inl rfl)) pgs_nil))) pgs_nil)))) (fun _ _ _ _ _ => by exact (pts_one (pt_cmpR (k_ne (K := K) rfl (rUnits hr)) (pv 3) (pv 4) (nomark _)))) (fun _ _ _ _ _ => by exact (pe_tupN (pa_cons (pv 2) (pa_cons (pv 3) (pa_cons (pv 4) pa_nil))))))))), run_ref (N := n_moves) (C := C) (fun ds nm hd hE => ?_) h⟩)
  obtain ⟨a, x, e, _⟩ := id hd
  subst e
  exact x_seq (x_dropE (x_ref (a_cons (d_var rfl) (a_cons (d_var rfl) a_nil)) hd hE))

theorem ok_churnX {P : Program} {w : World} {K : PySem.W.Frag} {mg : Str → Option Value} {base : Heap} {f C : Addr} {fd : FuncData} (F : Fun K "churn" "churn" s_churn f fd) (T : Txt mg) {fx_moves : Addr} {fdx_moves : FuncData} (X_moves : FnOk P w K mg base (L2.CX P w) 7 fx_moves fdx_moves p_moves (spDR K C (sp_moves K) RcPr)) (m_moves : mg "moves" = some (.ref fx_moves)) (k_moves : PySem.W.keepIn K (.ref fx_moves) = true) (b_moves : Binds K fdx_moves p_moves []) :
    FnOk P w K mg base (L2.CX P w) 8 f fd p_churn (spRef K C RcPr) := by
  refine F.okX sc_churn (fun vs H Q E h => by obtain ⟨ds, nm, hb, hd, _⟩ := h; rw [hb.len, RcPr_len hd]; rfl) (fun cdv A outer s H vs Q E hr h => ⟨_, (pss_one (ps_ret (pe_callB (k_len (K := K) rfl) rfl T.b_len (by decide +kernel) (pa_cons (pe_call X_moves (hr.mono (by decide)) rfl m_moves k_moves b_moves .nil (passes_call (E := E) (takes_of rfl rfl rfl rfl) (fun _ _ _ _ h => h)) (pa_cons (pv 0) (pa_cons (pv 1) pa_nil))) pa_nil)))), run_ref (N := n_churn) (C := C) (fun ds nm hd hE => ?_) h⟩)
  obtain ⟨a, x, e, _⟩ := id hd
  subst e
  exact x_retE (x_cb1 (x_ref (a_cons (d_var rfl) (a_cons (d_var rfl) a_nil)) hd hE))

theorem ok_flowsX {P : Program} {w : World} {K : PySem.W.Frag} {mg : Str → Option Value} {base : Heap} {f C : Addr} {fd : FuncData} (F : Fun K "flows" "flows" s_flows f fd) (T : Txt mg) {fx_check_pair : Addr} {fdx_check_pair : FuncData} (X_check_pair : FnOk P w K mg base (L2.CX P w) 6 fx_check_pair fdx_check_pair p_check_pair (spDR K C (sp_check_pair K) RcPr)) (m_check_pair : mg "check_pair" = some (.ref fx_check_pair)) (k_check_pair : PySem.W.keepIn K (.ref fx_check_pair) = true) (b_check_pair : Binds K fdx_check_pair p_check_pair []) {fx_check_enough : Addr} {fdx_check_enough : FuncData} (X_check_enough : FnOk P w K mg base (L2.CX P w) 5 fx_check_enough fdx_check_enough p_check_enough (spDR K C (sp_check_enough K) RcCe)) (m_check_enough : mg "check_enough" = some (.ref fx_check_enough)) (k_check_enough : PySem.W.keepIn K (.ref fx_check_enough) = true) (b_check_enough : Binds K fdx_check_enough p_check_enough []) :
    FnOk P w K mg base (L2.CX P w) 7 f fd p_flows (spRef K C RcFl) := by
  refine F.okX sc_flows (fun vs H Q E h => by obtain ⟨ds, nm, hb, hd, _⟩ := h; rw [hb.len, RcFl_len hd]; rfl) (fun cdv A outer s H vs Q E hr h => ⟨_, (pss_cons (ps_expr (pe_call X_check_pair (hr.mono (by decide)) rfl m_check_pair k_check_pair b_check_pair .nil (passes_call (E := E) (takes_of rfl rfl rfl rfl) (fun _ _ _ _ h => h)) (pa_cons (pv 0) (pa_cons (pv 1) pa_nil))))
      (pss_cons (ps_expr (pe_call X_check_enough (hr.mono (by decide)) rfl m_check_enough k_check_enough b_check_enough .nil (passes_call (E := E) (takes_of rfl rfl rfl rfl) (fun _ _ _ _ h => h)) (pa_cons (pv 2) (pa_cons (pe_op (k_add (K := K) rfl) (pv 0) (pv 1)) pa_nil))))
      (pss_cons (ps_set (i := 3) sc_flows.nd rfl (Or.inr rfl) (k_listZip (K := K) rfl rfl rfl T.b_list rfl T.b_zip (pa_cons (pv 0) (pa_cons (pv 1) pa_nil))))
      (pss_one (ps_ret (pe_callTy (k_tuple (K := K) rfl) rfl T.b_tuple (by decide +kernel) (pa_cons (pe_lc rfl sc_flows.nd (pi_range1 rfl T.b_range (pa_cons (pv 2) pa_nil)) (blkOk_by (own := [("old", 5)]) (N := n_flows) (sc := defScope s_flows) (by decide +kernel)) (fun _ _ _ _ _ => by exact (pg_name (i := 5) sc_flows.nd rfl (Or.inr rfl))) (fun _ _ _ _ _ => by exact pts_nil) (fun _ _ _ _ _ => by exact (pe_callTy (k_tuple (K := K) rfl) rfl T.b_tuple (by decide +kernel) (pa_cons (pe_lc rfl sc_flows.nd (pi_range1 rfl T.b_range (pa_cons (pv 2) pa_nil)) (show BlkOk n_flows (L2.relS _ (defScope s_flows)) _ [("new", 4)] from blkOk_by (by decide +kernel)) (fun _ _ _ _ _ => by exact (pg_name (i := 4) sc_flows.nd rfl (Or.inl rfl))) (fun _ _ _ _ _ => by exact pts_nil) (fun _ _ _ _ _ => by exact (k_bm (K := K) rfl PySem.F.plainAttrs_list PySem.F.slot_list_count PySem.F.type_list_count (k_lcount (K := K) rfl (rUnits5 hr)) (pv 3) (pa_cons (pe_tupN (pa_cons (pv 5) (pa_cons (pv 4) pa_nil))) pa_nil)))) pa_nil)))) pa_nil))))))), run_ref (N := n_flows) (C := C) (fun ds nm hd hE => ?_) h⟩)
  obtain ⟨a, y, x, rfl, hd | ⟨ns, ms, rfl, rfl, hn, hm, hl, hb, rfl⟩⟩ := hd
  · exact x_seq (x_dropE (x_ref (a_cons (d_var rfl) (a_cons (d_var rfl) a_nil)) hd hE))
  · have l1 := hn.len
    have l2 := hm.len
    refine x_drop (x_good (k := .v) (d := .none) (a_cons (d_var rfl) (a_cons (d_var rfl) a_nil)) ⟨ns, ms, rfl, hn, hm, hl, rfl, rfl⟩) ?_
    exact x_seq (x_dropE (x_ref (ds := [x, tupD (ns ++ ms)]) (nm := "variants") (a_cons (d_var rfl) (a_cons (Ev.to (e_catT (ds := ns.map .int) (es := ms.map .int) (d_var rfl) (d_var rfl) (by simp; omega)) (y := tupD (ns ++ ms)) (by rw [← List.map_append])) a_nil)) ⟨x, ns ++ ms, rfl, hb, rfl⟩ hE))

theorem ok_buckets_ofX {P : Program} {w : World} {K : PySem.W.Frag} {mg : Str → Option Value} {base : Heap} {f C : Addr} {fd : FuncData} (F : Fun K "buckets_of" "buckets_of" s_buckets_of f fd) (T : Txt mg) (c_is_integer : Cal P w K mg base CX0 1 "is_integer" p_is_integer (sp_is_integer K)) {fx_check_assignment : Addr} {fdx_check_assignment : FuncData} (X_check_assignment : FnOk P w K mg base (L2.CX P w) 5 fx_check_assignment fdx_check_assignment p_check_assignment (spDR K C (sp_check_assignment K) RcAs)) (m_check_assignment : mg "check_assignment" = some (.ref fx_check_assignment)) (k_check_assignment : PySem.W.keepIn K (.ref fx_check_assignment) = true) (b_check_assignment : Binds K fdx_check_assignment p_check_assignment []) {fx_require : Addr} {fdx_require : FuncData} (X_require : FnOk P w K mg base (L2.CX P w) 4 fx_require fdx_require p_require (spReq C)) (m_require : mg "require" = some (.ref fx_require)) (k_require : PySem.W.keepIn K (.ref fx_require) = true) (b_require : Binds K fdx_require p_require []) :
    FnOk P w K mg base (L2.CX P w) 6 f fd p_buckets_of (spRef K C RcBk) := by
  refine F.okX sc_buckets_of (fun vs H Q E h => by obtain ⟨ds, nm, hb, hd, _⟩ := h; rw [hb.len, RcBk_len hd]; rfl) (fun cdv A outer s H vs Q E hr h => ⟨_, (pss_cons (ps_expr (pe_call X_check_assignment (hr.mono (by decide)) rfl m_check_assignment k_check_assignment b_check_assignment .nil (passes_call (E := E) (takes_of rfl rfl rfl rfl) (fun _ _ _ _ h => h)) (pa_cons (pv 0) (pa_cons pe_str pa_nil))))
      (pss_cons (ps_expr (pe_call X_require (hr.mono (by decide)) rfl m_require k_require b_require .nil (passes_call (E := E) (takes_of rfl rfl rfl rfl) (fun _ _ _ _ h => h)) (pa_cons (pe_cal (cal_up0 c_is_integer) (hr.mono (by decide)) rfl passL (pa_cons (pv 1) (pa_cons pe_int (pa_cons (pe_op op_sub (pe_const rfl T.k_MOST_VARIANTS) pe_int) pa_nil)))) (pa_cons pe_str pa_nil))))
      (pss_one (ps_ret (pe_lc rfl sc_buckets_of.nd (k_enum (K := K) rfl rfl T.b_enumerate (pa_cons (pv 0) pa_nil)) (blkOk_by (own := [("bucket", 2), ("own", 3)]) (N := n_buckets_of) (sc := defScope s_buckets_of) (by decide +kernel)) (fun _ _ _ _ _ => by exact (k_tup (K := K) (n := 2) rfl rfl (pgs_cons (pg_name (i := 2) sc_buckets_of.nd rfl (Or.inl rfl)) (pgs_cons (pg_name (i := 3) sc_buckets_of.nd rfl (Or.inl rfl)) pgs_nil)))) (fun _ _ _ _ _ => by exact (pts_one (pt_cmpR (k_eq (K := K) rfl (rUnits hr)) (pv 3) (pv 1) (nomark _)))) (fun _ _ _ _ _ => by exact (pv 2))))))), run_ref (N := n_buckets_of) (C := C) (fun ds nm hd hE => ?_) h⟩)
  obtain ⟨a, x, rfl, ⟨hs, hb, rfl⟩ | ⟨ns, rfl, hn, hb, rfl⟩⟩ := hd
  · exact x_seq (x_dropE (x_ref (ds := [a, .str "assignment"]) (nm := "assignment") (a_cons (d_var rfl) (a_cons d_str a_nil)) ⟨a, rfl, by decide, hs, hb⟩ hE))
  · have nl := hn.len
    refine x_drop (x_good (k := .v) (d := .none) (a_cons (d_var rfl) (a_cons d_str a_nil)) ⟨_, _, rfl, hn.small, hn.bAsg (Int.le_refl _), rfl, rfl⟩) ?_
    exact x_req (by decide) hE (d_call (k := .v) (d := .bool false) (a_cons (d_var rfl) (a_cons d_int (a_cons (d_sub d_int d_int) a_nil))) ⟨x, 0, 4, rfl, rfl, by rw [hb]⟩)

theorem ok_renamedX {P : Program} {w : World} {K : PySem.W.Frag} {mg : Str → Option Value} {base : Heap} {f C : Addr} {fd : FuncData} (F : Fun K "renamed" "renamed" s_renamed f fd) (T : Txt mg) (c_is_order : Cal P w K mg base CX0 3 "is_order" p_is_order (sp_is_orderD K)) {fx_check_assignment : Addr} {fdx_check_assignment : FuncData} (X_check_assignment : FnOk P w K mg base (L2.CX P w) 5 fx_check_assignment fdx_check_assignment p_check_assignment (spDR K C (sp_check_assignment K) RcAs)) (m_check_assignment : mg "check_assignment" = some (.ref fx_check_assignment)) (k_check_assignment : PySem.W.keepIn K (.ref fx_check_assignment) = true) (b_check_assignment : Binds K fdx_check_assignment p_check_assignment []) {fx_require : Addr} {fdx_require : FuncData} (X_require : FnOk P w K mg base (L2.CX P w) 4 fx_require fdx_require p_require (spReq C)) (m_require : mg "require" = some (.ref fx_require)) (k_require : PySem.W.keepIn K (.ref fx_require) = true) (b_require : Binds K fdx_require p_require []) :
    FnOk P w K mg base (L2.CX P w) 6 f fd p_renamed (spRef K C RcRn) := by
  refine F.okX sc_renamed (fun vs H Q E h => by obtain ⟨ds, nm, hb, hd, _⟩ := h; rw [hb.len, RcRn_len hd]; rfl) (fun cdv A outer s H vs Q E hr h => ⟨_, (pss_cons (ps_expr (pe_call X_check_assignment (hr.mono (by decide)) rfl m_check_assignment k_check_assignment b_check_assignment .nil (passes_call (E := E) (takes_of rfl rfl rfl rfl) (fun _ _ _ _ h => h)) (pa_cons (pv 0) (pa_cons pe_str pa_nil))))
      (pss_cons (ps_expr (pe_call X_require (hr.mono (by decide)) rfl m_require k_require b_require .nil (passes_call (E := E) (takes_of rfl rfl rfl rfl) (fun _ _ _ _ h => h)) (pa_cons (pe_cal (cal_up0 c_is_order) (hr.mono (by decide)) rfl passL (pa_cons (pv 1) (pa_cons (pe_const rfl T.k_MOST_VARIANTS) pa_nil))) (pa_cons pe_str pa_nil))))
      (pss_one (ps_ret (pe_callTy (k_tuple (K := K) rfl) rfl T.b_tuple (by decide +kernel) (pa_cons (pe_lc rfl sc_renamed.nd (k_seq (K := K) rfl (pv 0)) (blkOk_by (own := [("variant", 2)]) (N := n_renamed) (sc := defScope s_renamed) (by decide +kernel)) (fun _ _ _ _ _ => by exact (pg_name (i := 2) sc_renamed.nd rfl (Or.inl rfl))) (fun _ _ _ _ _ => by exact pts_nil) (fun _ _ _ _ _ => by exact (pe_ix (k_ix (K := K) rfl) (pv 1) (pv 2) (fun _ _ => rfl)))) pa_nil)))))), run_ref (N := n_renamed) (C := C) (fun ds nm hd hE => ?_) h⟩)
  obtain ⟨a, x, rfl, ⟨hs, hb, rfl⟩ | ⟨ns, rfl, hn, hs, hb, rfl⟩⟩ := hd
  · exact x_seq (x_dropE (x_ref (ds := [a, .str "assignment"]) (nm := "assignment") (a_cons (d_var rfl) (a_cons d_str a_nil)) ⟨a, rfl, by decide, hs, hb⟩ hE))
  · have nl := hn.len
    refine x_drop (x_good (k := .v) (d := .none) (a_cons (d_var rfl) (a_cons d_str a_nil)) ⟨_, _, rfl, hn.small, hn.bAsg (Int.le_refl _), rfl, rfl⟩) ?_
    exact x_req (by decide) hE (d_call (k := .v) (d := .bool false) (a_cons (d_var rfl) (a_cons d_int a_nil)) ⟨x, 5, rfl, hs, by decide, rfl, by rw [hb]⟩)

theorem ok_rearrangedX {P : Program} {w : World} {K : PySem.W.Frag} {mg : Str → Option Value} {base : Heap} {f C : Addr} {fd : FuncData} (F : Fun K "rearranged" "rearranged" s_rearranged f fd) (T : Txt mg) (c_placed : Cal P w K mg base CX0 1 "placed" p_placed (sp_placed K)) (c_is_order : Cal P w K mg base CX0 3 "is_order" p_is_order (sp_is_orderD K)) {fx_check_assignment : Addr} {fdx_check_assignment : FuncData} (X_check_assignment : FnOk P w K mg base (L2.CX P w) 5 fx_check_assignment fdx_check_assignment p_check_assignment (spDR K C (sp_check_assignment K) RcAs)) (m_check_assignment : mg "check_assignment" = some (.ref fx_check_assignment)) (k_check_assignment : PySem.W.keepIn K (.ref fx_check_assignment) = true) (b_check_assignment : Binds K fdx_check_assignment p_check_assignment []) {fx_require : Addr} {fdx_require : FuncData} (X_require : FnOk P w K mg base (L2.CX P w) 4 fx_require fdx_require p_require (spReq C)) (m_require : mg "require" = some (.ref fx_require)) (k_require : PySem.W.keepIn K (.ref fx_require) = true) (b_require : Binds K fdx_require p_require []) :
    FnOk P w K mg base (L2.CX P w) 6 f fd p_rearranged (spRef K C RcRr) := by
  refine F.okX sc_rearranged (fun vs H Q E h => by obtain ⟨ds, nm, hb, hd, _⟩ := h; rw [hb.len, RcRr_len hd]; rfl) (fun cdv A outer s H vs Q E hr h => ⟨_, (pss_cons (ps_expr (pe_call X_check_assignment (hr.mono (by decide)) rfl m_check_assignment k_check_assignment b_check_assignment .nil (passes_call (E := E) (takes_of rfl rfl rfl rfl) (fun _ _ _ _ h => h)) (pa_cons (pv 0) (pa_cons pe_str pa_nil))))
      (pss_cons (ps_expr (pe_call X_require (hr.mono (by decide)) rfl m_require k_require b_require .nil (passes_call (E := E) (takes_of rfl rfl rfl rfl) (fun _ _ _ _ h => h)) (pa_cons (pe_cal (cal_up0 c_is_order) (hr.mono (by decide)) rfl passL (pa_cons (pv 1) (pa_cons (pe_callB (k_len (K := K) rfl) rfl T.b_len (by decide +kernel) (pa_cons (pv 0) pa_nil)) pa_nil))) (pa_cons pe_str pa_nil))))
      (pss_one (ps_ret (pe_cal (cal_up0 c_placed) (hr.mono (by decide)) rfl passL (pa_cons (pv 0) (pa_cons (pv 1) pa_nil))))))), run_ref (N := n_rearranged) (C := C) (fun ds nm hd hE => ?_) h⟩)
  obtain ⟨a, x, rfl, ⟨hs, hb, rfl⟩ | ⟨ns, rfl, hn, hs, hb, rfl⟩⟩ := hd
  · exact x_seq (x_dropE (x_ref (ds := [a, .str "assignment"]) (nm := "assignment") (a_cons (d_var rfl) (a_cons d_str a_nil)) ⟨a, rfl, by decide, hs, hb⟩ hE))
  · have nl := hn.len
    refine x_drop (x_good (k := .v) (d := .none) (a_cons (d_var rfl) (a_cons d_str a_nil)) ⟨_, _, rfl, hn.small, hn.bAsg (Int.le_refl _), rfl, rfl⟩) ?_
    exact x_req (by decide) hE (d_call (k := .v) (d := .bool false) (a_cons (d_var rfl) (a_cons ((d_lenT (d_var rfl)).to (y := .int (ns.length : Int)) (by rw [List.length_map])) a_nil)) ⟨x, (ns.length : Int), rfl, hs, by omega, rfl, by rw [hb]⟩)

theorem ok__law_toldX {P : Program} {w : World} {K : PySem.W.Frag} {mg : Str → Option Value} {base : Heap} {f C : Addr} {fd : FuncData} (F : Fun K "_law_told" "_law_told" s__law_told f fd) (T : Txt mg) (X : Exc1 P w K mg base "BadValue" "name" C) {L1 : Addr} (XH : ExcH K mg C L1) (kL : PySem.W.kitOne K (.ref C) (.ref L1) = some true) {fx_transfer : Addr} {fdx_transfer : FuncData} (X_transfer : FnOk P w K mg base (L2.CX P w) 6 fx_transfer fdx_transfer p_transfer (spDR K C (sp_transfer K) Rc2)) (m_transfer : mg "transfer" = some (.ref fx_transfer)) (k_transfer : PySem.W.keepIn K (.ref fx_transfer) = true) (b_transfer : Binds K fdx_transfer p_transfer []) {fx_medians : Addr} {fdx_medians : FuncData} (X_medians : FnOk P w K mg base (L2.CX P w) 6 fx_medians fdx_medians p_medians (spDR K C (sp_medians K) RcM1)) (m_medians : mg "medians" = some (.ref fx_medians)) (k_medians : PySem.W.keepIn K (.ref fx_medians) = true) (b_medians : Binds K fdx_medians p_medians []) {fx_apportioned : Addr} {fdx_apportioned : FuncData} (X_apportioned : FnOk P w K mg base (L2.CX P w) 5 fx_apportioned fdx_apportioned p_apportioned (spDR K C (sp_apportioned K) RcAp)) (m_apportioned : mg "apportioned" = some (.ref fx_apportioned)) (k_apportioned : PySem.W.keepIn K (.ref fx_apportioned) = true) (b_apportioned : Binds K fdx_apportioned p_apportioned []) {fx_deviation : Addr} {fdx_deviation : FuncData} (X_deviation : FnOk P w K mg base (L2.CX P w) 6 fx_deviation fdx_deviation p_deviation (spDR K C (sp_deviation K) RcWt)) (m_deviation : mg "deviation" = some (.ref fx_deviation)) (k_deviation : PySem.W.keepIn K (.ref fx_deviation) = true) (b_deviation : Binds K fdx_deviation p_deviation []) {fx_is_nearest : Addr} {fdx_is_nearest : FuncData} (X_is_nearest : FnOk P w K mg base (L2.CX P w) 6 fx_is_nearest fdx_is_nearest p_is_nearest (spDR K C (sp_is_nearest K) RcWt)) (m_is_nearest : mg "is_nearest" = some (.ref fx_is_nearest)) (k_is_nearest : PySem.W.keepIn K (.ref fx_is_nearest) = true) (b_is_nearest : Binds K fdx_is_nearest p_is_nearest []) {fx_renamed_shares : Addr} {fdx_renamed_shares : FuncData} (X_renamed_shares : FnOk P w K mg base (L2.CX P w) 6 fx_renamed_shares fdx_renamed_shares p_renamed_shares (spDR K C (sp_renamed_shares K) RcOd)) (m_renamed_shares : mg "renamed_shares" = some (.ref fx_renamed_shares)) (k_renamed_shares : PySem.W.keepIn K (.ref fx_renamed_shares) = true) (b_renamed_shares : Binds K fdx_renamed_shares p_renamed_shares []) {fx_allocation_of : Addr} {fdx_allocation_of : FuncData} (X_allocation_of : FnOk P w K mg base (L2.CX P w) 6 fx_allocation_of fdx_allocation_of p_allocation_of (spDR K C (sp_allocation_of K) RcAo)) (m_allocation_of : mg "allocation_of" = some (.ref fx_allocation_of)) (k_allocation_of : PySem.W.keepIn K (.ref fx_allocation_of) = true) (b_allocation_of : Binds K fdx_allocation_of p_allocation_of []) {fx_churn : Addr} {fdx_churn : FuncData} (X_churn : FnOk P w K mg base (L2.CX P w) 8 fx_churn fdx_churn p_churn (spDR K C (sp_churn K) RcPr)) (m_churn : mg "churn" = some (.ref fx_churn)) (k_churn : PySem.W.keepIn K (.ref fx_churn) = true) (b_churn : Binds K fdx_churn p_churn []) {fx_moves : Addr} {fdx_moves : FuncData} (X_moves : FnOk P w K mg base (L2.CX P w) 7 fx_moves fdx_moves p_moves (spDR K C (sp_moves K) RcPr)) (m_moves : mg "moves" = some (.ref fx_moves)) (k_moves : PySem.W.keepIn K (.ref fx_moves) = true) (b_moves : Binds K fdx_moves p_moves []) {fx_flows : Addr} {fdx_flows : FuncData} (X_flows : FnOk P w K mg base (L2.CX P w) 7 fx_flows fdx_flows p_flows (spDR K C (sp_flows K) RcFl)) (m_flows : mg "flows" = some (.ref fx_flows)) (k_flows : PySem.W.keepIn K (.ref fx_flows) = true) (b_flows : Binds K fdx_flows p_flows []) {fx_buckets_of : Addr} {fdx_buckets_of : FuncData} (X_buckets_of : FnOk P w K mg base (L2.CX P w) 6 fx_buckets_of fdx_buckets_of p_buckets_of (spDR K C (sp_buckets_of K) RcBk)) (m_buckets_of : mg "buckets_of" = some (.ref fx_buckets_of)) (k_buckets_of : PySem.W.keepIn K (.ref fx_buckets_of) = true) (b_buckets_of : Binds K fdx_buckets_of p_buckets_of []) {fx_renamed : Addr} {fdx_renamed : FuncData} (X_renamed : FnOk P w K mg base (L2.CX P w) 6 fx_renamed fdx_renamed p_renamed (spDR K C (sp_renamed K) RcRn)) (m_renamed : mg "renamed" = some (.ref fx_renamed)) (k_renamed : PySem.W.keepIn K (.ref fx_renamed) = true) (b_renamed : Binds K fdx_renamed p_renamed []) {fx_rearranged : Addr} {fdx_rearranged : FuncData} (X_rearranged : FnOk P w K mg base (L2.CX P w) 6 fx_rearranged fdx_rearranged p_rearranged (spDR K C (sp_rearranged K) RcRr)) (m_rearranged : mg "rearranged" = some (.ref fx_rearranged)) (k_rearranged : PySem.W.keepIn K (.ref fx_rearranged) = true) (b_rearranged : Binds K fdx_rearranged p_rearranged []) :
    FnOk P w K mg base (L2.CX P w) 9 f fd p__law_told (sp__law_told09 K) := by
  refine F.okX sc__law_told (fun vs H Q E h => spD_len (E := E) h (by rintro ds k d ⟨w, row, rfl, _⟩; rfl)) (fun cdv A outer s H vs Q E hr h => ⟨_, (pss_cons (ps_try_as (i := 2) (Wout := fun cls d _ H => E cls d H) rfl rfl sc__law_told.nd rfl rfl ⟨rfl, by decide, .inl X.hC⟩ (takes_of rfl rfl rfl rfl)
    (fun W pn xe tk po => (pss_one (ps_if (pt_cmpR (k_eq (K := K) rfl (rUnits hr)) (pv 0) pe_str (nomark _)) (pss_one (ps_expr (pe_callS X_transfer (hr.mono (by decide)) rfl m_transfer k_transfer b_transfer (fun σ => passAt tk σ) (pa_cons (pe_ix (k_ix (K := K) rfl) (pv 1) pe_int (fun _ _ => rfl)) (pa_cons (pe_ix (k_ix (K := K) rfl) (pv 1) pe_int (fun _ _ => rfl)) pa_nil))))) (pss_one (ps_if (pt_cmpR (k_eq (K := K) rfl (rUnits hr)) (pv 0) pe_str (nomark _)) (pss_one (ps_expr (pe_callS X_medians (hr.mono (by decide)) rfl m_medians k_medians b_medians (fun σ => passAt tk σ) (pa_cons (pe_ix (k_ix (K := K) rfl) (pv 1) pe_int (fun _ _ => rfl)) (pa_cons (pe_ix (k_ix (K := K) rfl) (pv 1) pe_int (fun _ _ => rfl)) (pa_cons (pe_ix (k_ix (K := K) rfl) (pv 1) pe_int (fun _ _ => rfl)) pa_nil)))))) (pss_one (ps_if (pt_cmpR (k_eq (K := K) rfl (rUnits hr)) (pv 0) pe_str (nomark _)) (pss_one (ps_expr (pe_callS X_apportioned (hr.mono (by decide)) rfl m_apportioned k_apportioned b_apportioned (fun σ => passAt tk σ) (pa_cons (pe_ix (k_ix (K := K) rfl) (pv 1) pe_int (fun _ _ => rfl)) (pa_cons (pe_ix (k_ix (K := K) rfl) (pv 1) pe_int (fun _ _ => rfl)) pa_nil))))) (pss_one (ps_if (pt_cmpR (k_eq (K := K) rfl (rUnits hr)) (pv 0) pe_str (nomark _)) (pss_one (ps_expr (pe_callS X_deviation (hr.mono (by decide)) rfl m_deviation k_deviation b_deviation (fun σ => passAt tk σ) (pa_cons (pe_ix (k_ix (K := K) rfl) (pv 1) pe_int (fun _ _ => rfl)) (pa_cons (pe_ix (k_ix (K := K) rfl) (pv 1) pe_int (fun _ _ => rfl)) pa_nil))))) (pss_one (ps_if (pt_cmpR (k_eq (K := K) rfl (rUnits hr)) (pv 0) pe_str (nomark _)) (pss_one (ps_expr (pe_callS X_is_nearest (hr.mono (by decide)) rfl m_is_nearest k_is_nearest b_is_nearest (fun σ => passAt tk σ) (pa_cons (pe_ix (k_ix (K := K) rfl) (pv 1) pe_int (fun _ _ => rfl)) (pa_cons (pe_ix (k_ix (K := K) rfl) (pv 1) pe_int (fun _ _ => rfl)) pa_nil))))) (pss_one (ps_if (pt_cmpR (k_eq (K := K) rfl (rUnits hr)) (pv 0) pe_str (nomark _)) (pss_one (ps_expr (pe_callS X_renamed_shares (hr.mono (by decide)) rfl m_renamed_shares k_renamed_shares b_renamed_shares (fun σ => passAt tk σ) (pa_cons (pe_ix (k_ix (K := K) rfl) (pv 1) pe_int (fun _ _ => rfl)) (pa_cons (pe_ix (k_ix (K := K) rfl) (pv 1) pe_int (fun _ _ => rfl)) pa_nil))))) (pss_one (ps_if (pt_cmpR (k_eq (K := K) rfl (rUnits hr)) (pv 0) pe_str (nomark _)) (pss_one (ps_expr (pe_callS X_allocation_of (hr.mono (by decide)) rfl m_allocation_of k_allocation_of b_allocation_of (fun σ => passAt tk σ) (pa_cons (pe_ix (k_ix (K := K) rfl) (pv 1) pe_int (fun _ _ => rfl)) (pa_cons (pe_ix (k_ix (K := K) rfl) (pv 1) pe_int (fun _ _ => rfl)) pa_nil))))) (pss_one (ps_if (pt_cmpR (k_eq (K := K) rfl (rUnits hr)) (pv 0) pe_str (nomark _)) (pss_one (ps_expr (pe_callS X_churn (hr.mono (by decide)) rfl m_churn k_churn b_churn (fun σ => passAt tk σ) (pa_cons (pe_ix (k_ix (K := K) rfl) (pv 1) pe_int (fun _ _ => rfl)) (pa_cons (pe_ix (k_ix (K := K) rfl) (pv 1) pe_int (fun _ _ => rfl)) pa_nil))))) (pss_one (ps_if (pt_cmpR (k_eq (K := K) rfl (rUnits hr)) (pv 0) pe_str (nomark _)) (pss_one (ps_expr (pe_callS X_moves (hr.mono (by decide)) rfl m_moves k_moves b_moves (fun σ => passAt tk σ) (pa_cons (pe_ix (k_ix (K := K) rfl) (pv 1) pe_int (fun _ _ => rfl)) (pa_cons (pe_ix (k_ix (K := K) rfl) (pv 1) pe_int (fun _ _ => rfl)) pa_nil))))) (pss_one (ps_if (pt_cmpR (k_eq (K := K) rfl (rUnits hr)) (pv 0) pe_str (nomark _)) (pss_one (ps_expr (pe_callS X_flows (hr.mono (by decide)) rfl m_flows k_flows b_flows (fun σ => passAt tk σ) (pa_cons (pe_ix (k_ix (K := K) rfl) (pv 1) pe_int (fun _ _ => rfl)) (pa_cons (pe_ix (k_ix (K := K) rfl) (pv 1) pe_int (fun _ _ => rfl)) (pa_cons (pe_ix (k_ix (K := K) rfl) (pv 1) pe_int (fun _ _ => rfl)) pa_nil)))))) (pss_one (ps_if (pt_cmpR (k_eq (K := K) rfl (rUnits hr)) (pv 0) pe_str (nomark _)) (pss_one (ps_expr (pe_callS X_buckets_of (hr.mono (by decide)) rfl m_buckets_of k_buckets_of b_buckets_of (fun σ => passAt tk σ) (pa_cons (pe_ix (k_ix (K := K) rfl) (pv 1) pe_int (fun _ _ => rfl)) (pa_cons (pe_ix (k_ix (K := K) rfl) (pv 1) pe_int (fun _ _ => rfl)) pa_nil))))) (pss_one (ps_if (pt_cmpR (k_eq (K := K) rfl (rUnits hr)) (pv 0) pe_str (nomark _)) (pss_one (ps_expr (pe_callS X_renamed (hr.mono (by decide)) rfl m_renamed k_renamed b_renamed (fun σ => passAt tk σ) (pa_cons (pe_ix (k_ix (K := K) rfl) (pv 1) pe_int (fun _ _ => rfl)) (pa_cons (pe_ix (k_ix (K := K) rfl) (pv 1) pe_int (fun _ _ => rfl)) pa_nil))))) (pss_one (ps_expr (pe_callS X_rearranged (hr.mono (by decide)) rfl m_rearranged k_rearranged b_rearranged (fun σ => passAt tk σ) (pa_cons (pe_ix (k_ix (K := K) rfl) (pv 1) pe_int (fun _ _ => rfl)) (pa_cons (pe_ix (k_ix (K := K) rfl) (pv 1) pe_int (fun _ _ => rfl)) pa_nil))))))))))))))))))))))))))))))
    (fun a oe cls d pn hz hf => (pss_one (ps_ret (pe_ifExp (PW.pt (pw_and (pt_val (pe_callB (call_isX XH.isC hz hf) rfl T.b_isinstance (by decide +kernel) (pa_cons (pv 2) (pa_cons (pe_glob (v := .ref L1) rfl XH.hL rfl) pa_nil)))) (pw_and1 (pt_val (pe_callB (call_isX XH.isC hz hf) rfl T.b_isinstance (by decide +kernel) (pa_cons (pv 2) (pa_cons (pe_ty (n := "ValueError") rfl T.b_ValueError (by decide +kernel)) pa_nil))))))) (pe_xf X.X X.no hz hf (pv 2)) pe_non))))) (pss_one (ps_ret pe_str))), ?_⟩)
  obtain ⟨ds, k', d, hb, ⟨w, row, rfl, rfl, hd⟩, q⟩ := h
  have lv : vs.length = 2 := by rw [hb.len]; rfl
  obtain ⟨a0, a1, rfl⟩ : ∃ a0 a1, vs = [a0, a1] := match vs, lv with | [x, y], _ => ⟨x, y, rfl⟩
  have tst0 : ∀ (w : Nat) (row : List PyData), w < 13 → ∀ i : Nat, i < 13 → EvT (pc K) (tTest (tOp (rEqA K) (tVar 0) (tC (.str (wdS i))))) (argsG [.str (wdS w), .list row] n__law_told.length) (decide (w = i)) := fun w row hw i hi => t_test (e_eqS (d_var rfl) d_str rfl rfl rfl (wd_ne w hw i hi))
  have p0 : ∀ (w : Nat) (row : List PyData) (j : Nat) (z : PyData), row[j]? = some z → Ev (pc K) (tOp (rIx K) (tVar 1) (tC (.int (j : Int)))) (argsG [.str (wdS w), .list row] n__law_told.length) .v z := fun w row j z hz => e_ixLv (d_var rfl) d_int (atI_nat hz)
  rcases hd with ⟨hG, rfl⟩ | ⟨nm, hR, rfl⟩
  · refine run_pure (K := K) (N := n__law_told) (pre := fun ds k d => ds = [.str (wdS w), .list row] ∧ k = .v ∧ d = .str "") (E := E) (fun ds k d hp => ?_) ⟨_, _, _, hb, ⟨rfl, rfl, rfl⟩, q⟩
    obtain ⟨rfl, rfl, rfl⟩ := hp
    refine s_seqE (fun Γ1 => Γ1 = argsG [.str (wdS w), .list row] n__law_told.length) (fun H0 O Hh σ D e s => ?_) (by rintro Γ1 rfl; exact s_ret d_str (.inr ⟨rfl, rfl⟩) (.inl rfl))
    rcases hG with ⟨rfl, as, bs, v, b, rfl, h1, h2, h3, h4, h5⟩ | ⟨rfl, as, bs, cs, v, b, rfl, h1, h2, h3, h4, h5, h6⟩ | ⟨rfl, ws, b, rfl, h1, h2, h3⟩ | ⟨hw34, ws, as, b, rfl, h1, h2, h3⟩ | ⟨rfl, as, os, v, b, rfl, h1, h2, h3, h4, h5⟩ | ⟨rfl, f, v, rfl, h1, h2, h3⟩ | ⟨hw78, f, g, rfl, h1, h2, h3⟩ | ⟨rfl, f, g, v, rfl, h1, h2, h3, h4, h5⟩ | ⟨rfl, f, v, rfl, h1, h2, h3⟩ | ⟨rfl, f, os, rfl, h1, h2⟩ | ⟨rfl, f, os, rfl, h1, h2⟩
    · exact (s_yes (EvT.to (tst0 0 _ (by decide) 0 (by decide)) rfl) (s_drop (d_callS (a_cons (p0 0 _ 0 _ rfl) (a_cons (p0 0 _ 1 _ rfl) a_nil)) ⟨as, bs, v, b, rfl, h1, h2, h3, h4, h5, rfl, rfl⟩) ⟨_, rfl, rfl⟩) : Sd (pc K) (tIfS _ _ _) _ _) H0 O Hh σ D e s
    · exact (s_no (EvT.to (tst0 1 _ (by decide) 0 (by decide)) rfl) (s_yes (EvT.to (tst0 1 _ (by decide) 1 (by decide)) rfl) (s_drop (d_callS (a_cons (p0 1 _ 0 _ rfl) (a_cons (p0 1 _ 1 _ rfl) (a_cons (p0 1 _ 2 _ rfl) a_nil))) ⟨as, bs, cs, v, b, rfl, h1, h2, h3, h4, h5, h6, rfl, rfl⟩) ⟨_, rfl, rfl⟩)) : Sd (pc K) (tIfS _ _ _) _ _) H0 O Hh σ D e s
    · exact (s_no (EvT.to (tst0 2 _ (by decide) 0 (by decide)) rfl) (s_no (EvT.to (tst0 2 _ (by decide) 1 (by decide)) rfl) (s_yes (EvT.to (tst0 2 _ (by decide) 2 (by decide)) rfl) (s_drop (d_callS (a_cons (p0 2 _ 0 _ rfl) (a_cons (p0 2 _ 1 _ rfl) a_nil)) ⟨ws, b, rfl, h1, h2, h3, rfl, rfl⟩) ⟨_, rfl, rfl⟩))) : Sd (pc K) (tIfS _ _ _) _ _) H0 O Hh σ D e s
    · rcases hw34 with rfl | rfl
      · exact (s_no (EvT.to (tst0 3 _ (by decide) 0 (by decide)) rfl) (s_no (EvT.to (tst0 3 _ (by decide) 1 (by decide)) rfl) (s_no (EvT.to (tst0 3 _ (by decide) 2 (by decide)) rfl) (s_yes (EvT.to (tst0 3 _ (by decide) 3 (by decide)) rfl) (s_drop (d_callS (a_cons (p0 3 _ 0 _ rfl) (a_cons (p0 3 _ 1 _ rfl) a_nil)) ⟨ws, as, b, rfl, h1, h2, h3, rfl, rfl⟩) ⟨_, rfl, rfl⟩)))) : Sd (pc K) (tIfS _ _ _) _ _) H0 O Hh σ D e s
      · exact (s_no (EvT.to (tst0 4 _ (by decide) 0 (by decide)) rfl) (s_no (EvT.to (tst0 4 _ (by decide) 1 (by decide)) rfl) (s_no (EvT.to (tst0 4 _ (by decide) 2 (by decide)) rfl) (s_no (EvT.to (tst0 4 _ (by decide) 3 (by decide)) rfl) (s_yes (EvT.to (tst0 4 _ (by decide) 4 (by decide)) rfl) (s_drop (d_callS (a_cons (p0 4 _ 0 _ rfl) (a_cons (p0 4 _ 1 _ rfl) a_nil)) ⟨ws, as, b, rfl, h1, h2, h3, rfl, rfl⟩) ⟨_, rfl, rfl⟩))))) : Sd (pc K) (tIfS _ _ _) _ _) H0 O Hh σ D e s
    · exact (s_no (EvT.to (tst0 5 _ (by decide) 0 (by decide)) rfl) (s_no (EvT.to (tst0 5 _ (by decide) 1 (by decide)) rfl) (s_no (EvT.to (tst0 5 _ (by decide) 2 (by decide)) rfl) (s_no (EvT.to (tst0 5 _ (by decide) 3 (by decide)) rfl) (s_no (EvT.to (tst0 5 _ (by decide) 4 (by decide)) rfl) (s_yes (EvT.to (tst0 5 _ (by decide) 5 (by decide)) rfl) (s_drop (d_callS (a_cons (p0 5 _ 0 _ rfl) (a_cons (p0 5 _ 1 _ rfl) a_nil)) ⟨as, os, v, b, rfl, h1, h2, h3, h4, h5, rfl, rfl⟩) ⟨_, rfl, rfl⟩)))))) : Sd (pc K) (tIfS _ _ _) _ _) H0 O Hh σ D e s
    · exact (s_no (EvT.to (tst0 6 _ (by decide) 0 (by decide)) rfl) (s_no (EvT.to (tst0 6 _ (by decide) 1 (by decide)) rfl) (s_no (EvT.to (tst0 6 _ (by decide) 2 (by decide)) rfl) (s_no (EvT.to (tst0 6 _ (by decide) 3 (by decide)) rfl) (s_no (EvT.to (tst0 6 _ (by decide) 4 (by decide)) rfl) (s_no (EvT.to (tst0 6 _ (by decide) 5 (by decide)) rfl) (s_yes (EvT.to (tst0 6 _ (by decide) 6 (by decide)) rfl) (s_drop (d_callS (a_cons (p0 6 _ 0 _ rfl) (a_cons (p0 6 _ 1 _ rfl) a_nil)) ⟨f, v, rfl, h1, h2, h3, rfl, rfl⟩) ⟨_, rfl, rfl⟩))))))) : Sd (pc K) (tIfS _ _ _) _ _) H0 O Hh σ D e s
    · rcases hw78 with rfl | rfl
      · exact (s_no (EvT.to (tst0 7 _ (by decide) 0 (by decide)) rfl) (s_no (EvT.to (tst0 7 _ (by decide) 1 (by decide)) rfl) (s_no (EvT.to (tst0 7 _ (by decide) 2 (by decide)) rfl) (s_no (EvT.to (tst0 7 _ (by decide) 3 (by decide)) rfl) (s_no (EvT.to (tst0 7 _ (by decide) 4 (by decide)) rfl) (s_no (EvT.to (tst0 7 _ (by decide) 5 (by decide)) rfl) (s_no (EvT.to (tst0 7 _ (by decide) 6 (by decide)) rfl) (s_yes (EvT.to (tst0 7 _ (by decide) 7 (by decide)) rfl) (s_drop (d_callS (a_cons (p0 7 _ 0 _ rfl) (a_cons (p0 7 _ 1 _ rfl) a_nil)) ⟨f, g, rfl, h1, h2, h3, rfl, rfl⟩) ⟨_, rfl, rfl⟩)))))))) : Sd (pc K) (tIfS _ _ _) _ _) H0 O Hh σ D e s
      · exact (s_no (EvT.to (tst0 8 _ (by decide) 0 (by decide)) rfl) (s_no (EvT.to (tst0 8 _ (by decide) 1 (by decide)) rfl) (s_no (EvT.to (tst0 8 _ (by decide) 2 (by decide)) rfl) (s_no (EvT.to (tst0 8 _ (by decide) 3 (by decide)) rfl) (s_no (EvT.to (tst0 8 _ (by decide) 4 (by decide)) rfl) (s_no (EvT.to (tst0 8 _ (by decide) 5 (by decide)) rfl) (s_no (EvT.to (tst0 8 _ (by decide) 6 (by decide)) rfl) (s_no (EvT.to (tst0 8 _ (by decide) 7 (by decide)) rfl) (s_yes (EvT.to (tst0 8 _ (by decide) 8 (by decide)) rfl) (s_drop (d_callS (a_cons (p0 8 _ 0 _ rfl) (a_cons (p0 8 _ 1 _ rfl) a_nil)) ⟨f, g, rfl, h1, h2, h3, rfl, rfl⟩) ⟨_, rfl, rfl⟩))))))))) : Sd (pc K) (tIfS _ _ _) _ _) H0 O Hh σ D e s
    · exact (s_no (EvT.to (tst0 9 _ (by decide) 0 (by decide)) rfl) (s_no (EvT.to (tst0 9 _ (by decide) 1 (by decide)) rfl) (s_no (EvT.to (tst0 9 _ (by decide) 2 (by decide)) rfl) (s_no (EvT.to (tst0 9 _ (by decide) 3 (by decide)) rfl) (s_no (EvT.to (tst0 9 _ (by decide) 4 (by decide)) rfl) (s_no (EvT.to (tst0 9 _ (by decide) 5 (by decide)) rfl) (s_no (EvT.to (tst0 9 _ (by decide) 6 (by decide)) rfl) (s_no (EvT.to (tst0 9 _ (by decide) 7 (by decide)) rfl) (s_no (EvT.to (tst0 9 _ (by decide) 8 (by decide)) rfl) (s_yes (EvT.to (tst0 9 _ (by decide) 9 (by decide)) rfl) (s_drop (d_callS (a_cons (p0 9 _ 0 _ rfl) (a_cons (p0 9 _ 1 _ rfl) (a_cons (p0 9 _ 2 _ rfl) a_nil))) ⟨f, g, v, rfl, h1, h2, h3, h4, h5, rfl, rfl⟩) ⟨_, rfl, rfl⟩)))))))))) : Sd (pc K) (tIfS _ _ _) _ _) H0 O Hh σ D e s
    · exact (s_no (EvT.to (tst0 10 _ (by decide) 0 (by decide)) rfl) (s_no (EvT.to (tst0 10 _ (by decide) 1 (by decide)) rfl) (s_no (EvT.to (tst0 10 _ (by decide) 2 (by decide)) rfl) (s_no (EvT.to (tst0 10 _ (by decide) 3 (by decide)) rfl) (s_no (EvT.to (tst0 10 _ (by decide) 4 (by decide)) rfl) (s_no (EvT.to (tst0 10 _ (by decide) 5 (by decide)) rfl) (s_no (EvT.to (tst0 10 _ (by decide) 6 (by decide)) rfl) (s_no (EvT.to (tst0 10 _ (by decide) 7 (by decide)) rfl) (s_no (EvT.to (tst0 10 _ (by decide) 8 (by decide)) rfl) (s_no (EvT.to (tst0 10 _ (by decide) 9 (by decide)) rfl) (s_yes (EvT.to (tst0 10 _ (by decide) 10 (by decide)) rfl) (s_drop (d_callS (a_cons (p0 10 _ 0 _ rfl) (a_cons (p0 10 _ 1 _ rfl) a_nil)) ⟨f, v, rfl, h1, h2, h3, rfl, rfl⟩) ⟨_, rfl, rfl⟩))))))))))) : Sd (pc K) (tIfS _ _ _) _ _) H0 O Hh σ D e s
    · exact (s_no (EvT.to (tst0 11 _ (by decide) 0 (by decide)) rfl) (s_no (EvT.to (tst0 11 _ (by decide) 1 (by decide)) rfl) (s_no (EvT.to (tst0 11 _ (by decide) 2 (by decide)) rfl) (s_no (EvT.to (tst0 11 _ (by decide) 3 (by decide)) rfl) (s_no (EvT.to (tst0 11 _ (by decide) 4 (by decide)) rfl) (s_no (EvT.to (tst0 11 _ (by decide) 5 (by decide)) rfl) (s_no (EvT.to (tst0 11 _ (by decide) 6 (by decide)) rfl) (s_no (EvT.to (tst0 11 _ (by decide) 7 (by decide)) rfl) (s_no (EvT.to (tst0 11 _ (by decide) 8 (by decide)) rfl) (s_no (EvT.to (tst0 11 _ (by decide) 9 (by decide)) rfl) (s_no (EvT.to (tst0 11 _ (by decide) 10 (by decide)) rfl) (s_yes (EvT.to (tst0 11 _ (by decide) 11 (by decide)) rfl) (s_drop (d_callS (a_cons (p0 11 _ 0 _ rfl) (a_cons (p0 11 _ 1 _ rfl) a_nil)) ⟨f, os, rfl, h1, h2, rfl, rfl⟩) ⟨_, rfl, rfl⟩)))))))))))) : Sd (pc K) (tIfS _ _ _) _ _) H0 O Hh σ D e s
    · exact (s_no (EvT.to (tst0 12 _ (by decide) 0 (by decide)) rfl) (s_no (EvT.to (tst0 12 _ (by decide) 1 (by decide)) rfl) (s_no (EvT.to (tst0 12 _ (by decide) 2 (by decide)) rfl) (s_no (EvT.to (tst0 12 _ (by decide) 3 (by decide)) rfl) (s_no (EvT.to (tst0 12 _ (by decide) 4 (by decide)) rfl) (s_no (EvT.to (tst0 12 _ (by decide) 5 (by decide)) rfl) (s_no (EvT.to (tst0 12 _ (by decide) 6 (by decide)) rfl) (s_no (EvT.to (tst0 12 _ (by decide) 7 (by decide)) rfl) (s_no (EvT.to (tst0 12 _ (by decide) 8 (by decide)) rfl) (s_no (EvT.to (tst0 12 _ (by decide) 9 (by decide)) rfl) (s_no (EvT.to (tst0 12 _ (by decide) 10 (by decide)) rfl) (s_no (EvT.to (tst0 12 _ (by decide) 11 (by decide)) rfl) (s_drop (d_callS (a_cons (p0 12 _ 0 _ rfl) (a_cons (p0 12 _ 1 _ rfl) a_nil)) ⟨f, os, rfl, h1, h2, rfl, rfl⟩) ⟨_, rfl, rfl⟩)))))))))))) : Sd (pc K) (tIfS _ _ _) _ _) H0 O Hh σ D e s
  · have env := env_args (N := n__law_told) Ji.pc hb
    have fin : ∀ (dx : Addr) (H1 : Hp), Same H H1 → Q (.str nm) H1 := fun dx H1 sm => q _ _ sm ⟨rfl, .str _⟩
    dsimp only [tSeq]
    refine (?_ : SdY (pc K) H (start n__law_told [a0, a1]) (tIfS _ _ _) _) [] H _ env
    rcases hR with ⟨rfl, hR⟩ | ⟨rfl, hR⟩ | ⟨rfl, hR⟩ | ⟨hw34, hR⟩ | ⟨rfl, hR⟩ | ⟨rfl, hR⟩ | ⟨hw78, hR⟩ | ⟨rfl, hR⟩ | ⟨rfl, hR⟩ | ⟨rfl, hR⟩ | ⟨rfl, hR⟩
    · obtain ⟨a, x, e, _⟩ := id hR
      subst e
      exact y_yes (EvT.to (tst0 0 _ (by decide) 0 (by decide)) rfl) (y_drop (a_cons (p0 0 _ 0 _ rfl) (a_cons (p0 0 _ 1 _ rfl) a_nil)) hR fun dx H1 sm hdx => was_isL X XH kL (id (by decide : (2 : Nat) < 3)) hdx (fin dx H1 sm))
    · obtain ⟨a, x, y, e, _⟩ := id hR
      subst e
      exact y_no (EvT.to (tst0 1 _ (by decide) 0 (by decide)) rfl) (y_yes (EvT.to (tst0 1 _ (by decide) 1 (by decide)) rfl) (y_drop (a_cons (p0 1 _ 0 _ rfl) (a_cons (p0 1 _ 1 _ rfl) (a_cons (p0 1 _ 2 _ rfl) a_nil))) hR fun dx H1 sm hdx => was_isL X XH kL (id (by decide : (2 : Nat) < 3)) hdx (fin dx H1 sm)))
    · obtain ⟨a, x, e, _⟩ := id hR
      subst e
      exact y_no (EvT.to (tst0 2 _ (by decide) 0 (by decide)) rfl) (y_no (EvT.to (tst0 2 _ (by decide) 1 (by decide)) rfl) (y_yes (EvT.to (tst0 2 _ (by decide) 2 (by decide)) rfl) (y_drop (a_cons (p0 2 _ 0 _ rfl) (a_cons (p0 2 _ 1 _ rfl) a_nil)) hR fun dx H1 sm hdx => was_isL X XH kL (id (by decide : (2 : Nat) < 3)) hdx (fin dx H1 sm))))
    · rcases hw34 with rfl | rfl
      · obtain ⟨a, x, e, _⟩ := id hR
        subst e
        exact y_no (EvT.to (tst0 3 _ (by decide) 0 (by decide)) rfl) (y_no (EvT.to (tst0 3 _ (by decide) 1 (by decide)) rfl) (y_no (EvT.to (tst0 3 _ (by decide) 2 (by decide)) rfl) (y_yes (EvT.to (tst0 3 _ (by decide) 3 (by decide)) rfl) (y_drop (a_cons (p0 3 _ 0 _ rfl) (a_cons (p0 3 _ 1 _ rfl) a_nil)) hR fun dx H1 sm hdx => was_isL X XH kL (id (by decide : (2 : Nat) < 3)) hdx (fin dx H1 sm)))))
      · obtain ⟨a, x, e, _⟩ := id hR
        subst e
        exact y_no (EvT.to (tst0 4 _ (by decide) 0 (by decide)) rfl) (y_no (EvT.to (tst0 4 _ (by decide) 1 (by decide)) rfl) (y_no (EvT.to (tst0 4 _ (by decide) 2 (by decide)) rfl) (y_no (EvT.to (tst0 4 _ (by decide) 3 (by decide)) rfl) (y_yes (EvT.to (tst0 4 _ (by decide) 4 (by decide)) rfl) (y_drop (a_cons (p0 4 _ 0 _ rfl) (a_cons (p0 4 _ 1 _ rfl) a_nil)) hR fun dx H1 sm hdx => was_isL X XH kL (id (by decide : (2 : Nat) < 3)) hdx (fin dx H1 sm))))))
    · obtain ⟨a, x, e, _⟩ := id hR
      subst e
      exact y_no (EvT.to (tst0 5 _ (by decide) 0 (by decide)) rfl) (y_no (EvT.to (tst0 5 _ (by decide) 1 (by decide)) rfl) (y_no (EvT.to (tst0 5 _ (by decide) 2 (by decide)) rfl) (y_no (EvT.to (tst0 5 _ (by decide) 3 (by decide)) rfl) (y_no (EvT.to (tst0 5 _ (by decide) 4 (by decide)) rfl) (y_yes (EvT.to (tst0 5 _ (by decide) 5 (by decide)) rfl) (y_drop (a_cons (p0 5 _ 0 _ rfl) (a_cons (p0 5 _ 1 _ rfl) a_nil)) hR fun dx H1 sm hdx => was_isL X XH kL (id (by decide : (2 : Nat) < 3)) hdx (fin dx H1 sm)))))))
    · obtain ⟨a, x, e, _⟩ := id hR
      subst e
      exact y_no (EvT.to (tst0 6 _ (by decide) 0 (by decide)) rfl) (y_no (EvT.to (tst0 6 _ (by decide) 1 (by decide)) rfl) (y_no (EvT.to (tst0 6 _ (by decide) 2 (by decide)) rfl) (y_no (EvT.to (tst0 6 _ (by decide) 3 (by decide)) rfl) (y_no (EvT.to (tst0 6 _ (by decide) 4 (by decide)) rfl) (y_no (EvT.to (tst0 6 _ (by decide) 5 (by decide)) rfl) (y_yes (EvT.to (tst0 6 _ (by decide) 6 (by decide)) rfl) (y_drop (a_cons (p0 6 _ 0 _ rfl) (a_cons (p0 6 _ 1 _ rfl) a_nil)) hR fun dx H1 sm hdx => was_isL X XH kL (id (by decide : (2 : Nat) < 3)) hdx (fin dx H1 sm))))))))
    · rcases hw78 with rfl | rfl
      · obtain ⟨a, x, e, _⟩ := id hR
        subst e
        exact y_no (EvT.to (tst0 7 _ (by decide) 0 (by decide)) rfl) (y_no (EvT.to (tst0 7 _ (by decide) 1 (by decide)) rfl) (y_no (EvT.to (tst0 7 _ (by decide) 2 (by decide)) rfl) (y_no (EvT.to (tst0 7 _ (by decide) 3 (by decide)) rfl) (y_no (EvT.to (tst0 7 _ (by decide) 4 (by decide)) rfl) (y_no (EvT.to (tst0 7 _ (by decide) 5 (by decide)) rfl) (y_no (EvT.to (tst0 7 _ (by decide) 6 (by decide)) rfl) (y_yes (EvT.to (tst0 7 _ (by decide) 7 (by decide)) rfl) (y_drop (a_cons (p0 7 _ 0 _ rfl) (a_cons (p0 7 _ 1 _ rfl) a_nil)) hR fun dx H1 sm hdx => was_isL X XH kL (id (by decide : (2 : Nat) < 3)) hdx (fin dx H1 sm)))))))))
      · obtain ⟨a, x, e, _⟩ := id hR
        subst e
        exact y_no (EvT.to (tst0 8 _ (by decide) 0 (by decide)) rfl) (y_no (EvT.to (tst0 8 _ (by decide) 1 (by decide)) rfl) (y_no (EvT.to (tst0 8 _ (by decide) 2 (by decide)) rfl) (y_no (EvT.to (tst0 8 _ (by decide) 3 (by decide)) rfl) (y_no (EvT.to (tst0 8 _ (by decide) 4 (by decide)) rfl) (y_no (EvT.to (tst0 8 _ (by decide) 5 (by decide)) rfl) (y_no (EvT.to (tst0 8 _ (by decide) 6 (by decide)) rfl) (y_no (EvT.to (tst0 8 _ (by decide) 7 (by decide)) rfl) (y_yes (EvT.to (tst0 8 _ (by decide) 8 (by decide)) rfl) (y_drop (a_cons (p0 8 _ 0 _ rfl) (a_cons (p0 8 _ 1 _ rfl) a_nil)) hR fun dx H1 sm hdx => was_isL X XH kL (id (by decide : (2 : Nat) < 3)) hdx (fin dx H1 sm))))))))))
    · obtain ⟨a, y, x, e, _⟩ := id hR
      subst e
      exact y_no (EvT.to (tst0 9 _ (by decide) 0 (by decide)) rfl) (y_no (EvT.to (tst0 9 _ (by decide) 1 (by decide)) rfl) (y_no (EvT.to (tst0 9 _ (by decide) 2 (by decide)) rfl) (y_no (EvT.to (tst0 9 _ (by decide) 3 (by decide)) rfl) (y_no (EvT.to (tst0 9 _ (by decide) 4 (by decide)) rfl) (y_no (EvT.to (tst0 9 _ (by decide) 5 (by decide)) rfl) (y_no (EvT.to (tst0 9 _ (by decide) 6 (by decide)) rfl) (y_no (EvT.to (tst0 9 _ (by decide) 7 (by decide)) rfl) (y_no (EvT.to (tst0 9 _ (by decide) 8 (by decide)) rfl) (y_yes (EvT.to (tst0 9 _ (by decide) 9 (by decide)) rfl) (y_drop (a_cons (p0 9 _ 0 _ rfl) (a_cons (p0 9 _ 1 _ rfl) (a_cons (p0 9 _ 2 _ rfl) a_nil))) hR fun dx H1 sm hdx => was_isL X XH kL (id (by decide : (2 : Nat) < 3)) hdx (fin dx H1 sm)))))))))))
    · obtain ⟨a, x, e, _⟩ := id hR
      subst e
      exact y_no (EvT.to (tst0 10 _ (by decide) 0 (by decide)) rfl) (y_no (EvT.to (tst0 10 _ (by decide) 1 (by decide)) rfl) (y_no (EvT.to (tst0 10 _ (by decide) 2 (by decide)) rfl) (y_no (EvT.to (tst0 10 _ (by decide) 3 (by decide)) rfl) (y_no (EvT.to (tst0 10 _ (by decide) 4 (by decide)) rfl) (y_no (EvT.to (tst0 10 _ (by decide) 5 (by decide)) rfl) (y_no (EvT.to (tst0 10 _ (by decide) 6 (by decide)) rfl) (y_no (EvT.to (tst0 10 _ (by decide) 7 (by decide)) rfl) (y_no (EvT.to (tst0 10 _ (by decide) 8 (by decide)) rfl) (y_no (EvT.to (tst0 10 _ (by decide) 9 (by decide)) rfl) (y_yes (EvT.to (tst0 10 _ (by decide) 10 (by decide)) rfl) (y_drop (a_cons (p0 10 _ 0 _ rfl) (a_cons (p0 10 _ 1 _ rfl) a_nil)) hR fun dx H1 sm hdx => was_isL X XH kL (id (by decide : (2 : Nat) < 3)) hdx (fin dx H1 sm))))))))))))
    · obtain ⟨a, x, e, _⟩ := id hR
      subst e
      exact y_no (EvT.to (tst0 11 _ (by decide) 0 (by decide)) rfl) (y_no (EvT.to (tst0 11 _ (by decide) 1 (by decide)) rfl) (y_no (EvT.to (tst0 11 _ (by decide) 2 (by decide)) rfl) (y_no (EvT.to (tst0 11 _ (by decide) 3 (by decide)) rfl) (y_no (EvT.to (tst0 11 _ (by decide) 4 (by decide)) rfl) (y_no (EvT.to (tst0 11 _ (by decide) 5 (by decide)) rfl) (y_no (EvT.to (tst0 11 _ (by decide) 6 (by decide)) rfl) (y_no (EvT.to (tst0 11 _ (by decide) 7 (by decide)) rfl) (y_no (EvT.to (tst0 11 _ (by decide) 8 (by decide)) rfl) (y_no (EvT.to (tst0 11 _ (by decide) 9 (by decide)) rfl) (y_no (EvT.to (tst0 11 _ (by decide) 10 (by decide)) rfl) (y_yes (EvT.to (tst0 11 _ (by decide) 11 (by decide)) rfl) (y_drop (a_cons (p0 11 _ 0 _ rfl) (a_cons (p0 11 _ 1 _ rfl) a_nil)) hR fun dx H1 sm hdx => was_isL X XH kL (id (by decide : (2 : Nat) < 3)) hdx (fin dx H1 sm)))))))))))))
    · obtain ⟨a, x, e, _⟩ := id hR
      subst e
      exact y_no (EvT.to (tst0 12 _ (by decide) 0 (by decide)) rfl) (y_no (EvT.to (tst0 12 _ (by decide) 1 (by decide)) rfl) (y_no (EvT.to (tst0 12 _ (by decide) 2 (by decide)) rfl) (y_no (EvT.to (tst0 12 _ (by decide) 3 (by decide)) rfl) (y_no (EvT.to (tst0 12 _ (by decide) 4 (by decide)) rfl) (y_no (EvT.to (tst0 12 _ (by decide) 5 (by decide)) rfl) (y_no (EvT.to (tst0 12 _ (by decide) 6 (by decide)) rfl) (y_no (EvT.to (tst0 12 _ (by decide) 7 (by decide)) rfl) (y_no (EvT.to (tst0 12 _ (by decide) 8 (by decide)) rfl) (y_no (EvT.to (tst0 12 _ (by decide) 9 (by decide)) rfl) (y_no (EvT.to (tst0 12 _ (by decide) 10 (by decide)) rfl) (y_no (EvT.to (tst0 12 _ (by decide) 11 (by decide)) rfl) (y_drop (a_cons (p0 12 _ 0 _ rfl) (a_cons (p0 12 _ 1 _ rfl) a_nil)) hR fun dx H1 sm hdx => was_isL X XH kL (id (by decide : (2 : Nat) < 3)) hdx (fin dx H1 sm)))))))))))))

end W

namespace W
open PySem PySem.Spec PyProof.Rows L2 Lm
theorem ok_law {P : Program} {w : World} {K : PySem.W.Frag} {mg : Str → Option Value} {base : Heap} {f : Addr} {fd : FuncData} (F : Fun K "law" "law" s_law f fd) (T : Txt mg) (c__law_stream : Cal P w K mg base CX0 1 "_law_stream" p__law_stream (sp__law_stream K)) (c__law_rows : Cal P w K mg base CX0 3 "_law_rows" p__law_rows (sp__law_rows09 K)) (c__law_told : Cal P w K mg base CX0 9 "_law_told" p__law_told (sp__law_told09 K)) (c__law_pick : Cal P w K mg base CX0 2 "_law_pick" p__law_pick (sp__law_pick K)) :
    FnOk P w K mg base CX0 10 f fd p_law (spLaw K) := by
  refine F.ok sc_law (fun vs H Q E h => by obtain ⟨a, ns, rfl, _⟩ := h; rfl) (fun cdv A outer s H vs Q E hr h => ⟨_, (pss_cons (ps_set (i := 1) sc_law.nd rfl (Or.inr rfl) (pe_cal c__law_stream (hr.mono (by decide)) rfl pass0 (pa_cons (pv 0) pa_nil)))
      (pss_cons (ps_for PassesOwn.never rfl (k_seq (K := K) rfl (pe_cal c__law_rows (hr.mono (by decide)) rfl pass0 (pa_cons (pv 1) pa_nil))) (k_tup (K := K) (n := 4) rfl rfl (pgs_cons (pg_name (i := 2) sc_law.nd rfl (Or.inl rfl)) (pgs_cons (pg_name (i := 3) sc_law.nd rfl (Or.inl rfl)) (pgs_cons (pg_name (i := 4) sc_law.nd rfl (Or.inl rfl)) (pgs_cons (pg_name (i := 5) sc_law.nd rfl (Or.inl rfl)) pgs_nil))))) (pss_cons (ps_if (pt_cmpR (k_ne (K := K) rfl (rUnits hr)) (pe_cal c__law_told (hr.mono (by decide)) rfl pass0 (pa_cons (pv 2) (pa_cons (pv 3) pa_nil))) pe_str (nomark _)) (pss_one (ps_ret pe_bl)) pss_nil)
      (pss_one (ps_for PassesOwn.never rfl (pi_range1 rfl T.b_range (pa_cons (pe_callB (k_len (K := K) rfl) rfl T.b_len (by decide +kernel) (pa_cons (pv 3) pa_nil)) pa_nil)) (pg_name (i := 6) sc_law.nd rfl (Or.inl rfl)) (pss_cons (ps_setLc (i := 7) rfl sc_law.nd rfl rfl (sw_true rfl rfl rfl (by decide +kernel)) (k_seq (K := K) rfl (pv 4)) (blkOk_by (own := [("rows", 8)]) (N := n_law) (sc := defScope s_law) (by decide +kernel)) (fun _ _ _ _ _ => by exact (pg_name (i := 8) sc_law.nd rfl (Or.inl rfl))) (fun _ _ _ _ _ => by exact pts_nil) (fun _ _ _ _ _ => by exact (pe_cal c__law_pick (hr.mono (by decide)) rfl pass0 (pa_cons (pv 1) (pa_cons (pv 8) pa_nil)))))
      (pss_one (ps_if (PW.pt (pw_or (pt_cmpR (k_ne (K := K) rfl (rUnits hr)) (pe_cal c__law_told (hr.mono (by decide)) rfl pass0 (pa_cons (pv 2) (pa_cons (pe_op (k_catS (K := K) rfl) (pe_op (k_catS (K := K) rfl) (pe_callTy (k_list (K := K) rfl) rfl T.b_list (by decide +kernel) (pa_cons (pe_slice (k_slU (K := K) rfl) (pv 3) po_none (po_some (pv 6))) pa_nil)) (pe_lst (pa_cons (pe_ix (k_ix (K := K) rfl) (pv 7) (pv 6) (fun _ _ => rfl)) pa_nil))) (pe_callTy (k_list (K := K) rfl) rfl T.b_list (by decide +kernel) (pa_cons (pe_slice (k_slU (K := K) rfl) (pv 3) (po_some (pe_op (k_add (K := K) rfl) (pv 6) pe_int)) po_none) pa_nil))) pa_nil))) (pe_ix (k_ix (K := K) rfl) (pv 5) (pv 6) (fun _ _ => rfl)) (nomark _)) (pw_or1 (pt_cmpR (k_ne (K := K) rfl (rUnits hr)) (pe_cal c__law_told (hr.mono (by decide)) rfl pass0 (pa_cons (pv 2) (pa_cons (pe_op (k_catS (K := K) rfl) (pe_callTy (k_list (K := K) rfl) rfl T.b_list (by decide +kernel) (pa_cons (pe_slice (k_slU (K := K) rfl) (pv 3) po_none (po_some (pv 6))) pa_nil)) (pe_slice (k_slU (K := K) rfl) (pv 7) (po_some (pv 6)) po_none)) pa_nil))) (pe_ix (k_ix (K := K) rfl) (pv 5) (pv 6) (fun _ _ => rfl)) (nomark _))))) (pss_one (ps_ret pe_bl)) pss_nil)))))))
      (pss_cons (ps_set (i := 9) sc_law.nd rfl (Or.inl rfl) (pe_lst (pa_cons (pe_tupN (pa_cons pe_str (pa_cons (pe_lst (pa_cons (pe_tupN (pa_cons pe_int (pa_cons pe_int (pa_cons pe_int (pa_cons pe_int (pa_cons pe_int pa_nil)))))) (pa_cons (pe_tupN (pa_cons pe_int (pa_cons pe_int (pa_cons pe_int (pa_cons pe_int (pa_cons pe_int pa_nil)))))) pa_nil))) pa_nil))) (pa_cons (pe_tupN (pa_cons pe_str (pa_cons (pe_lst (pa_cons (pe_op (k_repU (K := K) rfl) (pe_tupN (pa_cons pe_int pa_nil)) pe_int) (pa_cons pe_int pa_nil))) pa_nil))) (pa_cons (pe_tupN (pa_cons pe_str (pa_cons (pe_lst (pa_cons (pe_op (k_repU (K := K) rfl) (pe_tupN (pa_cons pe_int pa_nil)) pe_int) (pa_cons (pe_op (k_repU (K := K) rfl) (pe_tupN (pa_cons pe_int pa_nil)) pe_int) pa_nil))) pa_nil))) (pa_cons (pe_tupN (pa_cons pe_str (pa_cons (pe_lst (pa_cons (pe_tupN pa_nil) (pa_cons pe_int pa_nil))) pa_nil))) (pa_cons (pe_tupN (pa_cons pe_str (pa_cons (pe_lst (pa_cons (pe_op (k_repU (K := K) rfl) (pe_tupN (pa_cons pe_int pa_nil)) pe_int) (pa_cons pe_int pa_nil))) pa_nil))) pa_nil)))))))
      (pss_one (ps_ret (pe_cmpR (k_eq (K := K) rfl (rUnits hr)) (pe_lc rfl sc_law.nd (k_seq (K := K) rfl (pv 9)) (blkOk_by (own := [("word", 2), ("parts", 10)]) (N := n_law) (sc := defScope s_law) (by decide +kernel)) (fun _ _ _ _ _ => by exact (k_tup (K := K) (n := 2) rfl rfl (pgs_cons (pg_name (i := 2) sc_law.nd rfl (Or.inl rfl)) (pgs_cons (pg_name (i := 10) sc_law.nd rfl (Or.inl rfl)) pgs_nil)))) (fun _ _ _ _ _ => by exact pts_nil) (fun _ _ _ _ _ => by exact (pe_cal c__law_told (hr.mono (by decide)) rfl pass0 (pa_cons (pv 2) (pa_cons (pv 10) pa_nil))))) (pe_op op_mulA (pe_lst (pa_cons pe_str pa_nil)) pe_int) (nomark _))))))), run_law (N := n_law) (by decide) (fun st l => ?_) h⟩)
  refine q_for0 (Pd := fun ds => ∀ r ∈ ds, RowP r) rfl (fun H0 H σ e Q q => n_call (st := st) (l := l) (n := 1) (P := fun d => ∃ ds, d = .list ds ∧ ∀ r ∈ ds, RowP r) rfl rfl a_nil ⟨rfl, rfl, rfl⟩ H0 [] H σ e Q fun v d H2 pd r rs => q v d H2 pd r (Res.bo e rs))
    (fun _ _ Γ1 => ∃ t2 t3 t4 t5 t6 t7, Γ1 = [none, some (.r (.ref st)), t2, t3, t4, t5, t6, t7, none, none, none]) (fun ds _ => ⟨_, _, _, _, _, _, rfl⟩) (fun ds n a Γ1 hds ha hI => ?_) (fun ds Γ1 _ hI => ?_)
  · obtain ⟨t2, t3, t4, t5, t6, t7, rfl⟩ := hI
    obtain ⟨w, gd, bd, nms, rfl, hR⟩ := hds a (List.mem_of_getElem? ha)
    refine ⟨_, _, g_tupD rfl (g_cons g_name (g_cons g_name (g_cons g_name (g_cons g_name g_nil)))), ?_⟩
    have l3 := hR.l3
    have lb := hR.lb
    have ln := hR.ln
    have told : ∀ {Γ : List (Option Rs)} {tb : TE} {row : List PyData} {nm : Str}, Γ[2]? = some (some (.v (.str (wdS w)))) → Ev (sc K st l) tb Γ .v (.list row) → B09 w row nm → Ev (sc K st l) (tCall (sp__law_told09 K) [] E0 (tCons (tVar 2) (tCons tb tNil))) Γ .v (.str nm) := fun h hb hB => d_call (k := .v) (a_cons (d_var h) (a_cons hb a_nil)) ⟨w, _, rfl, rfl, .inr ⟨_, hB, rfl⟩⟩
    refine q_no (EvT.to (t_test (e_neS (v := .str (Str.ofString "")) (w := .str (Str.ofString "")) (d_call (k := .v) (d := .str (Str.ofString "")) (a_cons (d_var rfl) (a_cons (d_var rfl) a_nil)) ⟨w, gd, rfl, rfl, .inl ⟨hR.good, rfl⟩⟩) d_str rfl rfl rfl rfl)) (by simp)) ?_
    refine s_for (i_rng1' (m := gd.length) (a_consV (d_lenL (d_var rfl)) a_nil) (by omega) (by omega) (by simp)) (fun _ Γ1 => ∃ t6 t7, Γ1 = [none, some (.r (.ref st)), some (.v (.str (wdS w))), some (.v (.list gd)), some (.v (.list (bd.map .list))), some (.v (.list (nms.map fun s => .str (Str.ofString s)))), t6, t7, none, none, none]) ⟨_, _, rfl⟩ (fun k a Γ1 hk hI => ?_) (fun Γ1 hI => ?_)
    · obtain ⟨t6, t7, rfl⟩ := hI
      obtain ⟨kl, rfl⟩ := upI_at hk
      refine ⟨_, _, g_name, ?_⟩
      refine q_asgN (fun d => ∃ ds, d = .list ds ∧ (ds.length = bd.length ∧ ∀ (i : Nat) (a : List PyData) (d : PyData), bd[i]? = some a → ds[i]? = some d → d ∈ a)) (EvWN.v (w_lcN (l := bd) (en := fun b => Im.d (.list b)) (fun b d => d ∈ b) (i_seqL' (ds := bd.map .list) (d_var rfl) kv_ne (by rw [List.map_map]; rfl)) (by omega) fun b hb => ⟨_, _, g_name, fun j hj => hj, n_pick (st := st) (l := l) rfl rfl rfl (hR.few b hb).1 (hR.few b hb).2⟩)) ?_
      rintro _ ⟨ws, rfl, wl, hw⟩
      have kb : k < bd.length := by omega
      have kw : k < ws.length := by omega
      have kn : k < nms.length := by omega
      have hx : ws[k] ∈ bd.getD k [] := by
        have := hw k bd[k] ws[k] (List.getElem?_eq_getElem kb) (List.getElem?_eq_getElem kw)
        rwa [List.getD_eq_getElem?_getD, List.getElem?_eq_getElem kb]
      have B1 : B09 w (gd.take k ++ [ws[k]] ++ gd.drop (k + 1)) (Str.ofString (nms.getD k "")) := by
        refine hR.bad k kl _ (by simp; omega) (fun j hj => ?_) ⟨ws[k], ?_, hx⟩
        · rw [List.append_assoc, List.getElem?_append_left (by simp; omega), List.getElem?_take, if_pos hj]
        · rw [List.append_assoc, List.getElem?_append_right (by simp; omega)]
          have : k - (gd.take k).length = 0 := by simp; omega
          rw [this]; rfl
      have B2 : B09 w (gd.take k ++ ws.drop k) (Str.ofString (nms.getD k "")) := by
        refine hR.bad k kl _ (by simp; omega) (fun j hj => ?_) ⟨ws[k], ?_, hx⟩
        · rw [List.getElem?_append_left (by simp; omega), List.getElem?_take, if_pos hj]
        · rw [List.getElem?_append_right (by simp; omega)]
          have : k - (gd.take k).length = 0 := by simp; omega
          rw [this, List.getElem?_drop, Nat.add_zero, List.getElem?_eq_getElem kw]
      have nam : atI (nms.map fun s => PyData.str (Str.ofString s)) (k : Int) = some (.str (Str.ofString (nms.getD k ""))) := atI_nat (by simp [List.getD_eq_getElem?_getD, kn])
      refine s_no (EvT.to (t_or (a := false) (b := false) (EvT.to (t_test (e_neS (v := .str (Str.ofString (nms.getD k ""))) (w := .str (Str.ofString (nms.getD k ""))) (told rfl (Ev.to (e_catS (e_catS (w_list (e_slLV (d_var rfl) o_none (o_some (d_var rfl)))).v (e_lstV (a_consV (e_ixLv (d_var rfl) (d_var rfl) (atI_nat (List.getElem?_eq_getElem kw))) a_nil) (by simp)) (by rw [cutD_hi (by omega)]; simp; omega)) (w_list (e_slLV (d_var rfl) (o_some (Ev.to (e_add (d_var rfl) d_int) (y := .int ((k + 1 : Nat) : Int)) rfl)) o_none)).v (by rw [cutD_hi (by omega), cutD_lo (by omega)]; simp; omega)) (by rw [cutD_hi (by omega), cutD_lo (by omega)])) B1) (e_ixLv (d_var rfl) (d_var rfl) nam) rfl rfl rfl rfl)) (by simp)) fun _ => EvT.to (t_test (e_neS (v := .str (Str.ofString (nms.getD k ""))) (w := .str (Str.ofString (nms.getD k ""))) (told rfl (Ev.to (e_catS (w_list (e_slLV (d_var rfl) o_none (o_some (d_var rfl)))).v (e_slLV (d_var rfl) (o_some (d_var rfl)) o_none) (by rw [cutD_hi (by omega), cutD_lo (by omega)]; simp; omega)) (by rw [cutD_hi (by omega), cutD_lo (by omega)])) B2) (e_ixLv (d_var rfl) (d_var rfl) nam) rfl rfl rfl rfl)) (by simp)) rfl) (s_next (.inl ⟨_, .inl rfl, _, _, rfl⟩))
    · obtain ⟨t6, t7, rfl⟩ := hI
      exact .inl ⟨_, .inl rfl, _, _, _, _, _, _, rfl⟩
  · obtain ⟨t2, t3, t4, t5, t6, t7, rfl⟩ := hI
    have eg : ∀ {Γ : List (Option Rs)} {ta tb : TE} {w : Nat} {row : List PyData}, Ev (sc K st l) ta Γ .v (.str (wdS w)) → Ev (sc K st l) tb Γ .v (.list row) → Ev (sc K st l) (tTupN (tCons ta (tCons tb tNil))) Γ .v (egD w row) := fun h1 h2 => d_tup (a_consV h1 (a_consV h2 a_nil)) (by simp)
    have rep : ∀ {Γ : List (Option Rs)} (x : Int) (n : Nat), n ≤ 1000 → Ev (sc K st l) (tOp (rRepU K) (tTupN (tCons (tC (.int x)) tNil)) (tC (.int (n : Int)))) Γ .v (tupD (List.replicate n x)) := fun x n hn => Ev.to (e_repT (d_tup (a_consV d_int a_nil) (by simp)) (by simp) d_int (by omega) (by omega) (by simp)) (by rw [rep_flat, Int.toNat_natCast]; simp)
    have gd2 : ∀ {Γ : List (Option Rs)} {ta tb : TE} {x y : PyData}, Ev (sc K st l) ta Γ .v x → Ev (sc K st l) tb Γ .v y → Ev (sc K st l) (tLst (tCons ta (tCons tb tNil))) Γ .v (.list [x, y]) := fun h1 h2 => e_lstV (a_consV h1 (a_consV h2 a_nil)) (by simp)
    have t5 : ∀ {Γ : List (Option Rs)} (a b c d e : Int), Ev (sc K st l) (tTupN (tCons (tC (.int a)) (tCons (tC (.int b)) (tCons (tC (.int c)) (tCons (tC (.int d)) (tCons (tC (.int e)) tNil)))))) Γ .v (tupD [a, b, c, d, e]) := fun a b c d e => d_tup (ds := [a, b, c, d, e].map .int) (a_consV d_int (a_consV d_int (a_consV d_int (a_consV d_int (a_consV d_int a_nil))))) (by simp)
    refine q_asg (d := .list ed9L) (e_lstV (ds := ed9L) (a_consV (eg (w := 0) d_str (gd2 (t5 _ _ _ _ _) (t5 _ _ _ _ _))) (a_consV (eg (w := 2) d_str (gd2 (rep 1000000 5 (by decide)) d_int)) (a_consV (eg (w := 7) d_str (gd2 (rep 4 20 (by decide)) (rep 0 20 (by decide)))) (a_consV (eg (w := 6) d_str (gd2 (Ev.to (d_tup a_nil (by simp)) (y := tupD []) rfl) d_int)) (a_consV (eg (w := 6) d_str (gd2 (rep 4 20 (by decide)) d_int)) a_nil))))) (by simp [ed9L])) ?_
    exact s_ret (Ev.to (e_eqD (w_lc (l := ed9L) (en := Im.d) (fun _ => .str (Str.ofString "")) (i_seqL' (ds := ed9L) (d_var rfl) kv_ne rfl) (by simp [ed9L]) fun x hx => by
      obtain ⟨w, row, rfl, hG⟩ := edg_good x hx
      exact ⟨_, _, g_tupD rfl (g_cons g_name (g_cons g_name g_nil)), fun j hj => hj, d_call (k := .v) (a_cons (d_var rfl) (a_cons (d_var rfl) a_nil)) ⟨w, row, rfl, rfl, .inl ⟨hG, rfl⟩⟩⟩).v (Ev.to (e_rep (i := 5) (d_lst (kv := false) (ds := [.str (Str.ofString "")]) (a_cons d_str a_nil) rfl (by decide)) rfl d_int (by decide) (by decide) (by decide)) (y := .list (List.replicate 5 (.str (Str.ofString "")))) rfl) (by decide +kernel) (by decide +kernel)) (congrArg PyData.bool (by decide +kernel))) (.inr ⟨rfl, rfl⟩) rfl

end W

namespace W
open PySem PySem.Spec PyProof.Rows L2 Lm
theorem all_mk {l : PySem.W.OpenLaw} {w : World} {K : PySem.W.Frag} {h : Heap} {mg : Str → Option Value} {fa : Addr} (X : K.In h) (G : h.Ns mainGlobals mg) (hfa : mg "law" = some (.ref fa))
    {od_is_integer an_is_integer : Option Addr} {sl_is_integer : Array (Option Value)} {oc_is_integer kV_is_integer dc_is_integer pm_is_integer cd_is_integer ct_is_integer : Value} {f_is_integer : Addr}
    (a_is_integer : PySem.W.nsIn K mainGlobals "is_integer" = some (some (.ref f_is_integer))) (l_is_integer : K.lookup f_is_integer = some ⟨oc_is_integer, od_is_integer, .func (PySem.W.fnOf "is_integer" "is_integer" (defArgs s_is_integer) (defBody s_is_integer) (defScope s_is_integer) .none kV_is_integer dc_is_integer pm_is_integer an_is_integer cd_is_integer ct_is_integer), sl_is_integer⟩) (o_is_integer : PySem.W.codeIn K cd_is_integer "is_integer" = true) (k_is_integer : PySem.W.keepIn K (.ref f_is_integer) = true)
    {od_are_integers an_are_integers : Option Addr} {sl_are_integers : Array (Option Value)} {oc_are_integers kV_are_integers dc_are_integers pm_are_integers cd_are_integers ct_are_integers : Value} {f_are_integers : Addr}
    (a_are_integers : PySem.W.nsIn K mainGlobals "are_integers" = some (some (.ref f_are_integers))) (l_are_integers : K.lookup f_are_integers = some ⟨oc_are_integers, od_are_integers, .func (PySem.W.fnOf "are_integers" "are_integers" (defArgs s_are_integers) (defBody s_are_integers) (defScope s_are_integers) .none kV_are_integers dc_are_integers pm_are_integers an_are_integers cd_are_integers ct_are_integers), sl_are_integers⟩) (o_are_integers : PySem.W.codeIn K cd_are_integers "are_integers" = true) (k_are_integers : PySem.W.keepIn K (.ref f_are_integers) = true)
    {od_require an_require : Option Addr} {sl_require : Array (Option Value)} {oc_require kV_require dc_require pm_require cd_require ct_require : Value} {f_require : Addr}
    (a_require : PySem.W.nsIn K mainGlobals "require" = some (some (.ref f_require))) (l_require : K.lookup f_require = some ⟨oc_require, od_require, .func (PySem.W.fnOf "require" "require" (defArgs s_require) (defBody s_require) (defScope s_require) .none kV_require dc_require pm_require an_require cd_require ct_require), sl_require⟩) (o_require : PySem.W.codeIn K cd_require "require" = true) (k_require : PySem.W.keepIn K (.ref f_require) = true)
    {od_in_lowest_terms an_in_lowest_terms : Option Addr} {sl_in_lowest_terms : Array (Option Value)} {oc_in_lowest_terms kV_in_lowest_terms dc_in_lowest_terms pm_in_lowest_terms cd_in_lowest_terms ct_in_lowest_terms : Value} {f_in_lowest_terms : Addr}
    (a_in_lowest_terms : PySem.W.nsIn K mainGlobals "in_lowest_terms" = some (some (.ref f_in_lowest_terms))) (l_in_lowest_terms : K.lookup f_in_lowest_terms = some ⟨oc_in_lowest_terms, od_in_lowest_terms, .func (PySem.W.fnOf "in_lowest_terms" "in_lowest_terms" (defArgs s_in_lowest_terms) (defBody s_in_lowest_terms) (defScope s_in_lowest_terms) .none kV_in_lowest_terms dc_in_lowest_terms pm_in_lowest_terms an_in_lowest_terms cd_in_lowest_terms ct_in_lowest_terms), sl_in_lowest_terms⟩) (o_in_lowest_terms : PySem.W.codeIn K cd_in_lowest_terms "in_lowest_terms" = true) (k_in_lowest_terms : PySem.W.keepIn K (.ref f_in_lowest_terms) = true)
    {od_is_allocation an_is_allocation : Option Addr} {sl_is_allocation : Array (Option Value)} {oc_is_allocation kV_is_allocation dc_is_allocation pm_is_allocation cd_is_allocation ct_is_allocation : Value} {f_is_allocation : Addr}
    (a_is_allocation : PySem.W.nsIn K mainGlobals "is_allocation" = some (some (.ref f_is_allocation))) (l_is_allocation : K.lookup f_is_allocation = some ⟨oc_is_allocation, od_is_allocation, .func (PySem.W.fnOf "is_allocation" "is_allocation" (defArgs s_is_allocation) (defBody s_is_allocation) (defScope s_is_allocation) .none kV_is_allocation dc_is_allocation pm_is_allocation an_is_allocation cd_is_allocation ct_is_allocation), sl_is_allocation⟩) (o_is_allocation : PySem.W.codeIn K cd_is_allocation "is_allocation" = true) (k_is_allocation : PySem.W.keepIn K (.ref f_is_allocation) = true)
    {od_is_bounded_allocation an_is_bounded_allocation : Option Addr} {sl_is_bounded_allocation : Array (Option Value)} {oc_is_bounded_allocation kV_is_bounded_allocation dc_is_bounded_allocation pm_is_bounded_allocation cd_is_bounded_allocation ct_is_bounded_allocation : Value} {f_is_bounded_allocation : Addr}
    (a_is_bounded_allocation : PySem.W.nsIn K mainGlobals "is_bounded_allocation" = some (some (.ref f_is_bounded_allocation))) (l_is_bounded_allocation : K.lookup f_is_bounded_allocation = some ⟨oc_is_bounded_allocation, od_is_bounded_allocation, .func (PySem.W.fnOf "is_bounded_allocation" "is_bounded_allocation" (defArgs s_is_bounded_allocation) (defBody s_is_bounded_allocation) (defScope s_is_bounded_allocation) .none kV_is_bounded_allocation dc_is_bounded_allocation pm_is_bounded_allocation an_is_bounded_allocation cd_is_bounded_allocation ct_is_bounded_allocation), sl_is_bounded_allocation⟩) (o_is_bounded_allocation : PySem.W.codeIn K cd_is_bounded_allocation "is_bounded_allocation" = true) (k_is_bounded_allocation : PySem.W.keepIn K (.ref f_is_bounded_allocation) = true)
    {od_is_order an_is_order : Option Addr} {sl_is_order : Array (Option Value)} {oc_is_order kV_is_order dc_is_order pm_is_order cd_is_order ct_is_order : Value} {f_is_order : Addr}
    (a_is_order : PySem.W.nsIn K mainGlobals "is_order" = some (some (.ref f_is_order))) (l_is_order : K.lookup f_is_order = some ⟨oc_is_order, od_is_order, .func (PySem.W.fnOf "is_order" "is_order" (defArgs s_is_order) (defBody s_is_order) (defScope s_is_order) .none kV_is_order dc_is_order pm_is_order an_is_order cd_is_order ct_is_order), sl_is_order⟩) (o_is_order : PySem.W.codeIn K cd_is_order "is_order" = true) (k_is_order : PySem.W.keepIn K (.ref f_is_order) = true)
    {od_are_weights an_are_weights : Option Addr} {sl_are_weights : Array (Option Value)} {oc_are_weights kV_are_weights dc_are_weights pm_are_weights cd_are_weights ct_are_weights : Value} {f_are_weights : Addr}
    (a_are_weights : PySem.W.nsIn K mainGlobals "are_weights" = some (some (.ref f_are_weights))) (l_are_weights : K.lookup f_are_weights = some ⟨oc_are_weights, od_are_weights, .func (PySem.W.fnOf "are_weights" "are_weights" (defArgs s_are_weights) (defBody s_are_weights) (defScope s_are_weights) .none kV_are_weights dc_are_weights pm_are_weights an_are_weights cd_are_weights ct_are_weights), sl_are_weights⟩) (o_are_weights : PySem.W.codeIn K cd_are_weights "are_weights" = true) (k_are_weights : PySem.W.keepIn K (.ref f_are_weights) = true)
    {od_check_allocation an_check_allocation : Option Addr} {sl_check_allocation : Array (Option Value)} {oc_check_allocation kV_check_allocation dc_check_allocation pm_check_allocation cd_check_allocation ct_check_allocation : Value} {f_check_allocation : Addr}
    (a_check_allocation : PySem.W.nsIn K mainGlobals "check_allocation" = some (some (.ref f_check_allocation))) (l_check_allocation : K.lookup f_check_allocation = some ⟨oc_check_allocation, od_check_allocation, .func (PySem.W.fnOf "check_allocation" "check_allocation" (defArgs s_check_allocation) (defBody s_check_allocation) (defScope s_check_allocation) .none kV_check_allocation dc_check_allocation pm_check_allocation an_check_allocation cd_check_allocation ct_check_allocation), sl_check_allocation⟩) (o_check_allocation : PySem.W.codeIn K cd_check_allocation "check_allocation" = true) (k_check_allocation : PySem.W.keepIn K (.ref f_check_allocation) = true)
    {od_check_alike an_check_alike : Option Addr} {sl_check_alike : Array (Option Value)} {oc_check_alike kV_check_alike dc_check_alike pm_check_alike cd_check_alike ct_check_alike : Value} {f_check_alike : Addr}
    (a_check_alike : PySem.W.nsIn K mainGlobals "check_alike" = some (some (.ref f_check_alike))) (l_check_alike : K.lookup f_check_alike = some ⟨oc_check_alike, od_check_alike, .func (PySem.W.fnOf "check_alike" "check_alike" (defArgs s_check_alike) (defBody s_check_alike) (defScope s_check_alike) .none kV_check_alike dc_check_alike pm_check_alike an_check_alike cd_check_alike ct_check_alike), sl_check_alike⟩) (o_check_alike : PySem.W.codeIn K cd_check_alike "check_alike" = true) (k_check_alike : PySem.W.keepIn K (.ref f_check_alike) = true)
    {od_check_weighted an_check_weighted : Option Addr} {sl_check_weighted : Array (Option Value)} {oc_check_weighted kV_check_weighted dc_check_weighted pm_check_weighted cd_check_weighted ct_check_weighted : Value} {f_check_weighted : Addr}
    (a_check_weighted : PySem.W.nsIn K mainGlobals "check_weighted" = some (some (.ref f_check_weighted))) (l_check_weighted : K.lookup f_check_weighted = some ⟨oc_check_weighted, od_check_weighted, .func (PySem.W.fnOf "check_weighted" "check_weighted" (defArgs s_check_weighted) (defBody s_check_weighted) (defScope s_check_weighted) .none kV_check_weighted dc_check_weighted pm_check_weighted an_check_weighted cd_check_weighted ct_check_weighted), sl_check_weighted⟩) (o_check_weighted : PySem.W.codeIn K cd_check_weighted "check_weighted" = true) (k_check_weighted : PySem.W.keepIn K (.ref f_check_weighted) = true)
    {od_transfer an_transfer : Option Addr} {sl_transfer : Array (Option Value)} {oc_transfer kV_transfer dc_transfer pm_transfer cd_transfer ct_transfer : Value} {f_transfer : Addr}
    (a_transfer : PySem.W.nsIn K mainGlobals "transfer" = some (some (.ref f_transfer))) (l_transfer : K.lookup f_transfer = some ⟨oc_transfer, od_transfer, .func (PySem.W.fnOf "transfer" "transfer" (defArgs s_transfer) (defBody s_transfer) (defScope s_transfer) .none kV_transfer dc_transfer pm_transfer an_transfer cd_transfer ct_transfer), sl_transfer⟩) (o_transfer : PySem.W.codeIn K cd_transfer "transfer" = true) (k_transfer : PySem.W.keepIn K (.ref f_transfer) = true)
    {od_medians an_medians : Option Addr} {sl_medians : Array (Option Value)} {oc_medians kV_medians dc_medians pm_medians cd_medians ct_medians : Value} {f_medians : Addr}
    (a_medians : PySem.W.nsIn K mainGlobals "medians" = some (some (.ref f_medians))) (l_medians : K.lookup f_medians = some ⟨oc_medians, od_medians, .func (PySem.W.fnOf "medians" "medians" (defArgs s_medians) (defBody s_medians) (defScope s_medians) .none kV_medians dc_medians pm_medians an_medians cd_medians ct_medians), sl_medians⟩) (o_medians : PySem.W.codeIn K cd_medians "medians" = true) (k_medians : PySem.W.keepIn K (.ref f_medians) = true)
    {od_rests_of an_rests_of : Option Addr} {sl_rests_of : Array (Option Value)} {oc_rests_of kV_rests_of dc_rests_of pm_rests_of cd_rests_of ct_rests_of : Value} {f_rests_of : Addr}
    (a_rests_of : PySem.W.nsIn K mainGlobals "rests_of" = some (some (.ref f_rests_of))) (l_rests_of : K.lookup f_rests_of = some ⟨oc_rests_of, od_rests_of, .func (PySem.W.fnOf "rests_of" "rests_of" (defArgs s_rests_of) (defBody s_rests_of) (defScope s_rests_of) .none kV_rests_of dc_rests_of pm_rests_of an_rests_of cd_rests_of ct_rests_of), sl_rests_of⟩) (o_rests_of : PySem.W.codeIn K cd_rests_of "rests_of" = true) (k_rests_of : PySem.W.keepIn K (.ref f_rests_of) = true)
    {od_by_largest_rests an_by_largest_rests : Option Addr} {sl_by_largest_rests : Array (Option Value)} {oc_by_largest_rests kV_by_largest_rests dc_by_largest_rests pm_by_largest_rests cd_by_largest_rests ct_by_largest_rests : Value} {f_by_largest_rests : Addr}
    (a_by_largest_rests : PySem.W.nsIn K mainGlobals "by_largest_rests" = some (some (.ref f_by_largest_rests))) (l_by_largest_rests : K.lookup f_by_largest_rests = some ⟨oc_by_largest_rests, od_by_largest_rests, .func (PySem.W.fnOf "by_largest_rests" "by_largest_rests" (defArgs s_by_largest_rests) (defBody s_by_largest_rests) (defScope s_by_largest_rests) .none kV_by_largest_rests dc_by_largest_rests pm_by_largest_rests an_by_largest_rests cd_by_largest_rests ct_by_largest_rests), sl_by_largest_rests⟩) (o_by_largest_rests : PySem.W.codeIn K cd_by_largest_rests "by_largest_rests" = true) (k_by_largest_rests : PySem.W.keepIn K (.ref f_by_largest_rests) = true)
    {od_apportioned an_apportioned : Option Addr} {sl_apportioned : Array (Option Value)} {oc_apportioned kV_apportioned dc_apportioned pm_apportioned cd_apportioned ct_apportioned : Value} {f_apportioned : Addr}
    (a_apportioned : PySem.W.nsIn K mainGlobals "apportioned" = some (some (.ref f_apportioned))) (l_apportioned : K.lookup f_apportioned = some ⟨oc_apportioned, od_apportioned, .func (PySem.W.fnOf "apportioned" "apportioned" (defArgs s_apportioned) (defBody s_apportioned) (defScope s_apportioned) .none kV_apportioned dc_apportioned pm_apportioned an_apportioned cd_apportioned ct_apportioned), sl_apportioned⟩) (o_apportioned : PySem.W.codeIn K cd_apportioned "apportioned" = true) (k_apportioned : PySem.W.keepIn K (.ref f_apportioned) = true)
    {od_surpluses an_surpluses : Option Addr} {sl_surpluses : Array (Option Value)} {oc_surpluses kV_surpluses dc_surpluses pm_surpluses cd_surpluses ct_surpluses : Value} {f_surpluses : Addr}
    (a_surpluses : PySem.W.nsIn K mainGlobals "surpluses" = some (some (.ref f_surpluses))) (l_surpluses : K.lookup f_surpluses = some ⟨oc_surpluses, od_surpluses, .func (PySem.W.fnOf "surpluses" "surpluses" (defArgs s_surpluses) (defBody s_surpluses) (defScope s_surpluses) .none kV_surpluses dc_surpluses pm_surpluses an_surpluses cd_surpluses ct_surpluses), sl_surpluses⟩) (o_surpluses : PySem.W.codeIn K cd_surpluses "surpluses" = true) (k_surpluses : PySem.W.keepIn K (.ref f_surpluses) = true)
    {od_deviation an_deviation : Option Addr} {sl_deviation : Array (Option Value)} {oc_deviation kV_deviation dc_deviation pm_deviation cd_deviation ct_deviation : Value} {f_deviation : Addr}
    (a_deviation : PySem.W.nsIn K mainGlobals "deviation" = some (some (.ref f_deviation))) (l_deviation : K.lookup f_deviation = some ⟨oc_deviation, od_deviation, .func (PySem.W.fnOf "deviation" "deviation" (defArgs s_deviation) (defBody s_deviation) (defScope s_deviation) .none kV_deviation dc_deviation pm_deviation an_deviation cd_deviation ct_deviation), sl_deviation⟩) (o_deviation : PySem.W.codeIn K cd_deviation "deviation" = true) (k_deviation : PySem.W.keepIn K (.ref f_deviation) = true)
    {od_is_nearest an_is_nearest : Option Addr} {sl_is_nearest : Array (Option Value)} {oc_is_nearest kV_is_nearest dc_is_nearest pm_is_nearest cd_is_nearest ct_is_nearest : Value} {f_is_nearest : Addr}
    (a_is_nearest : PySem.W.nsIn K mainGlobals "is_nearest" = some (some (.ref f_is_nearest))) (l_is_nearest : K.lookup f_is_nearest = some ⟨oc_is_nearest, od_is_nearest, .func (PySem.W.fnOf "is_nearest" "is_nearest" (defArgs s_is_nearest) (defBody s_is_nearest) (defScope s_is_nearest) .none kV_is_nearest dc_is_nearest pm_is_nearest an_is_nearest cd_is_nearest ct_is_nearest), sl_is_nearest⟩) (o_is_nearest : PySem.W.codeIn K cd_is_nearest "is_nearest" = true) (k_is_nearest : PySem.W.keepIn K (.ref f_is_nearest) = true)
    {od_placed an_placed : Option Addr} {sl_placed : Array (Option Value)} {oc_placed kV_placed dc_placed pm_placed cd_placed ct_placed : Value} {f_placed : Addr}
    (a_placed : PySem.W.nsIn K mainGlobals "placed" = some (some (.ref f_placed))) (l_placed : K.lookup f_placed = some ⟨oc_placed, od_placed, .func (PySem.W.fnOf "placed" "placed" (defArgs s_placed) (defBody s_placed) (defScope s_placed) .none kV_placed dc_placed pm_placed an_placed cd_placed ct_placed), sl_placed⟩) (o_placed : PySem.W.codeIn K cd_placed "placed" = true) (k_placed : PySem.W.keepIn K (.ref f_placed) = true)
    {od_renamed_shares an_renamed_shares : Option Addr} {sl_renamed_shares : Array (Option Value)} {oc_renamed_shares kV_renamed_shares dc_renamed_shares pm_renamed_shares cd_renamed_shares ct_renamed_shares : Value} {f_renamed_shares : Addr}
    (a_renamed_shares : PySem.W.nsIn K mainGlobals "renamed_shares" = some (some (.ref f_renamed_shares))) (l_renamed_shares : K.lookup f_renamed_shares = some ⟨oc_renamed_shares, od_renamed_shares, .func (PySem.W.fnOf "renamed_shares" "renamed_shares" (defArgs s_renamed_shares) (defBody s_renamed_shares) (defScope s_renamed_shares) .none kV_renamed_shares dc_renamed_shares pm_renamed_shares an_renamed_shares cd_renamed_shares ct_renamed_shares), sl_renamed_shares⟩) (o_renamed_shares : PySem.W.codeIn K cd_renamed_shares "renamed_shares" = true) (k_renamed_shares : PySem.W.keepIn K (.ref f_renamed_shares) = true)
    {od_is_assignment an_is_assignment : Option Addr} {sl_is_assignment : Array (Option Value)} {oc_is_assignment kV_is_assignment dc_is_assignment pm_is_assignment cd_is_assignment ct_is_assignment : Value} {f_is_assignment : Addr}
    (a_is_assignment : PySem.W.nsIn K mainGlobals "is_assignment" = some (some (.ref f_is_assignment))) (l_is_assignment : K.lookup f_is_assignment = some ⟨oc_is_assignment, od_is_assignment, .func (PySem.W.fnOf "is_assignment" "is_assignment" (defArgs s_is_assignment) (defBody s_is_assignment) (defScope s_is_assignment) .none kV_is_assignment dc_is_assignment pm_is_assignment an_is_assignment cd_is_assignment ct_is_assignment), sl_is_assignment⟩) (o_is_assignment : PySem.W.codeIn K cd_is_assignment "is_assignment" = true) (k_is_assignment : PySem.W.keepIn K (.ref f_is_assignment) = true)
    {od_is_bounded_assignment an_is_bounded_assignment : Option Addr} {sl_is_bounded_assignment : Array (Option Value)} {oc_is_bounded_assignment kV_is_bounded_assignment dc_is_bounded_assignment pm_is_bounded_assignment cd_is_bounded_assignment ct_is_bounded_assignment : Value} {f_is_bounded_assignment : Addr}
    (a_is_bounded_assignment : PySem.W.nsIn K mainGlobals "is_bounded_assignment" = some (some (.ref f_is_bounded_assignment))) (l_is_bounded_assignment : K.lookup f_is_bounded_assignment = some ⟨oc_is_bounded_assignment, od_is_bounded_assignment, .func (PySem.W.fnOf "is_bounded_assignment" "is_bounded_assignment" (defArgs s_is_bounded_assignment) (defBody s_is_bounded_assignment) (defScope s_is_bounded_assignment) .none kV_is_bounded_assignment dc_is_bounded_assignment pm_is_bounded_assignment an_is_bounded_assignment cd_is_bounded_assignment ct_is_bounded_assignment), sl_is_bounded_assignment⟩) (o_is_bounded_assignment : PySem.W.codeIn K cd_is_bounded_assignment "is_bounded_assignment" = true) (k_is_bounded_assignment : PySem.W.keepIn K (.ref f_is_bounded_assignment) = true)
    {od_check_assignment an_check_assignment : Option Addr} {sl_check_assignment : Array (Option Value)} {oc_check_assignment kV_check_assignment dc_check_assignment pm_check_assignment cd_check_assignment ct_check_assignment : Value} {f_check_assignment : Addr}
    (a_check_assignment : PySem.W.nsIn K mainGlobals "check_assignment" = some (some (.ref f_check_assignment))) (l_check_assignment : K.lookup f_check_assignment = some ⟨oc_check_assignment, od_check_assignment, .func (PySem.W.fnOf "check_assignment" "check_assignment" (defArgs s_check_assignment) (defBody s_check_assignment) (defScope s_check_assignment) .none kV_check_assignment dc_check_assignment pm_check_assignment an_check_assignment cd_check_assignment ct_check_assignment), sl_check_assignment⟩) (o_check_assignment : PySem.W.codeIn K cd_check_assignment "check_assignment" = true) (k_check_assignment : PySem.W.keepIn K (.ref f_check_assignment) = true)
    {od_check_pair an_check_pair : Option Addr} {sl_check_pair : Array (Option Value)} {oc_check_pair kV_check_pair dc_check_pair pm_check_pair cd_check_pair ct_check_pair : Value} {f_check_pair : Addr}
    (a_check_pair : PySem.W.nsIn K mainGlobals "check_pair" = some (some (.ref f_check_pair))) (l_check_pair : K.lookup f_check_pair = some ⟨oc_check_pair, od_check_pair, .func (PySem.W.fnOf "check_pair" "check_pair" (defArgs s_check_pair) (defBody s_check_pair) (defScope s_check_pair) .none kV_check_pair dc_check_pair pm_check_pair an_check_pair cd_check_pair ct_check_pair), sl_check_pair⟩) (o_check_pair : PySem.W.codeIn K cd_check_pair "check_pair" = true) (k_check_pair : PySem.W.keepIn K (.ref f_check_pair) = true)
    {od_check_enough an_check_enough : Option Addr} {sl_check_enough : Array (Option Value)} {oc_check_enough kV_check_enough dc_check_enough pm_check_enough cd_check_enough ct_check_enough : Value} {f_check_enough : Addr}
    (a_check_enough : PySem.W.nsIn K mainGlobals "check_enough" = some (some (.ref f_check_enough))) (l_check_enough : K.lookup f_check_enough = some ⟨oc_check_enough, od_check_enough, .func (PySem.W.fnOf "check_enough" "check_enough" (defArgs s_check_enough) (defBody s_check_enough) (defScope s_check_enough) .none kV_check_enough dc_check_enough pm_check_enough an_check_enough cd_check_enough ct_check_enough), sl_check_enough⟩) (o_check_enough : PySem.W.codeIn K cd_check_enough "check_enough" = true) (k_check_enough : PySem.W.keepIn K (.ref f_check_enough) = true)
    {od_allocation_of an_allocation_of : Option Addr} {sl_allocation_of : Array (Option Value)} {oc_allocation_of kV_allocation_of dc_allocation_of pm_allocation_of cd_allocation_of ct_allocation_of : Value} {f_allocation_of : Addr}
    (a_allocation_of : PySem.W.nsIn K mainGlobals "allocation_of" = some (some (.ref f_allocation_of))) (l_allocation_of : K.lookup f_allocation_of = some ⟨oc_allocation_of, od_allocation_of, .func (PySem.W.fnOf "allocation_of" "allocation_of" (defArgs s_allocation_of) (defBody s_allocation_of) (defScope s_allocation_of) .none kV_allocation_of dc_allocation_of pm_allocation_of an_allocation_of cd_allocation_of ct_allocation_of), sl_allocation_of⟩) (o_allocation_of : PySem.W.codeIn K cd_allocation_of "allocation_of" = true) (k_allocation_of : PySem.W.keepIn K (.ref f_allocation_of) = true)
    {od_churn an_churn : Option Addr} {sl_churn : Array (Option Value)} {oc_churn kV_churn dc_churn pm_churn cd_churn ct_churn : Value} {f_churn : Addr}
    (a_churn : PySem.W.nsIn K mainGlobals "churn" = some (some (.ref f_churn))) (l_churn : K.lookup f_churn = some ⟨oc_churn, od_churn, .func (PySem.W.fnOf "churn" "churn" (defArgs s_churn) (defBody s_churn) (defScope s_churn) .none kV_churn dc_churn pm_churn an_churn cd_churn ct_churn), sl_churn⟩) (o_churn : PySem.W.codeIn K cd_churn "churn" = true) (k_churn : PySem.W.keepIn K (.ref f_churn) = true)
    {od_moves an_moves : Option Addr} {sl_moves : Array (Option Value)} {oc_moves kV_moves dc_moves pm_moves cd_moves ct_moves : Value} {f_moves : Addr}
    (a_moves : PySem.W.nsIn K mainGlobals "moves" = some (some (.ref f_moves))) (l_moves : K.lookup f_moves = some ⟨oc_moves, od_moves, .func (PySem.W.fnOf "moves" "moves" (defArgs s_moves) (defBody s_moves) (defScope s_moves) .none kV_moves dc_moves pm_moves an_moves cd_moves ct_moves), sl_moves⟩) (o_moves : PySem.W.codeIn K cd_moves "moves" = true) (k_moves : PySem.W.keepIn K (.ref f_moves) = true)
    {od_flows an_flows : Option Addr} {sl_flows : Array (Option Value)} {oc_flows kV_flows dc_flows pm_flows cd_flows ct_flows : Value} {f_flows : Addr}
    (a_flows : PySem.W.nsIn K mainGlobals "flows" = some (some (.ref f_flows))) (l_flows : K.lookup f_flows = some ⟨oc_flows, od_flows, .func (PySem.W.fnOf "flows" "flows" (defArgs s_flows) (defBody s_flows) (defScope s_flows) .none kV_flows dc_flows pm_flows an_flows cd_flows ct_flows), sl_flows⟩) (o_flows : PySem.W.codeIn K cd_flows "flows" = true) (k_flows : PySem.W.keepIn K (.ref f_flows) = true)
    {od_buckets_of an_buckets_of : Option Addr} {sl_buckets_of : Array (Option Value)} {oc_buckets_of kV_buckets_of dc_buckets_of pm_buckets_of cd_buckets_of ct_buckets_of : Value} {f_buckets_of : Addr}
    (a_buckets_of : PySem.W.nsIn K mainGlobals "buckets_of" = some (some (.ref f_buckets_of))) (l_buckets_of : K.lookup f_buckets_of = some ⟨oc_buckets_of, od_buckets_of, .func (PySem.W.fnOf "buckets_of" "buckets_of" (defArgs s_buckets_of) (defBody s_buckets_of) (defScope s_buckets_of) .none kV_buckets_of dc_buckets_of pm_buckets_of an_buckets_of cd_buckets_of ct_buckets_of), sl_buckets_of⟩) (o_buckets_of : PySem.W.codeIn K cd_buckets_of "buckets_of" = true) (k_buckets_of : PySem.W.keepIn K (.ref f_buckets_of) = true)
    {od_renamed an_renamed : Option Addr} {sl_renamed : Array (Option Value)} {oc_renamed kV_renamed dc_renamed pm_renamed cd_renamed ct_renamed : Value} {f_renamed : Addr}
    (a_renamed : PySem.W.nsIn K mainGlobals "renamed" = some (some (.ref f_renamed))) (l_renamed : K.lookup f_renamed = some ⟨oc_renamed, od_renamed, .func (PySem.W.fnOf "renamed" "renamed" (defArgs s_renamed) (defBody s_renamed) (defScope s_renamed) .none kV_renamed dc_renamed pm_renamed an_renamed cd_renamed ct_renamed), sl_renamed⟩) (o_renamed : PySem.W.codeIn K cd_renamed "renamed" = true) (k_renamed : PySem.W.keepIn K (.ref f_renamed) = true)
    {od_rearranged an_rearranged : Option Addr} {sl_rearranged : Array (Option Value)} {oc_rearranged kV_rearranged dc_rearranged pm_rearranged cd_rearranged ct_rearranged : Value} {f_rearranged : Addr}
    (a_rearranged : PySem.W.nsIn K mainGlobals "rearranged" = some (some (.ref f_rearranged))) (l_rearranged : K.lookup f_rearranged = some ⟨oc_rearranged, od_rearranged, .func (PySem.W.fnOf "rearranged" "rearranged" (defArgs s_rearranged) (defBody s_rearranged) (defScope s_rearranged) .none kV_rearranged dc_rearranged pm_rearranged an_rearranged cd_rearranged ct_rearranged), sl_rearranged⟩) (o_rearranged : PySem.W.codeIn K cd_rearranged "rearranged" = true) (k_rearranged : PySem.W.keepIn K (.ref f_rearranged) = true)
    {od__law_stream an__law_stream : Option Addr} {sl__law_stream : Array (Option Value)} {oc__law_stream kV__law_stream dc__law_stream pm__law_stream cd__law_stream ct__law_stream : Value} {f__law_stream : Addr}
    (a__law_stream : PySem.W.nsIn K mainGlobals "_law_stream" = some (some (.ref f__law_stream))) (l__law_stream : K.lookup f__law_stream = some ⟨oc__law_stream, od__law_stream, .func (PySem.W.fnOf "_law_stream" "_law_stream" (defArgs s__law_stream) (defBody s__law_stream) (defScope s__law_stream) .none kV__law_stream dc__law_stream pm__law_stream an__law_stream cd__law_stream ct__law_stream), sl__law_stream⟩) (o__law_stream : PySem.W.codeIn K cd__law_stream "_law_stream" = true) (k__law_stream : PySem.W.keepIn K (.ref f__law_stream) = true)
    {od__law_next an__law_next : Option Addr} {sl__law_next : Array (Option Value)} {oc__law_next kV__law_next dc__law_next pm__law_next cd__law_next ct__law_next : Value} {f__law_next : Addr}
    (a__law_next : PySem.W.nsIn K mainGlobals "_law_next" = some (some (.ref f__law_next))) (l__law_next : K.lookup f__law_next = some ⟨oc__law_next, od__law_next, .func (PySem.W.fnOf "_law_next" "_law_next" (defArgs s__law_next) (defBody s__law_next) (defScope s__law_next) .none kV__law_next dc__law_next pm__law_next an__law_next cd__law_next ct__law_next), sl__law_next⟩) (o__law_next : PySem.W.codeIn K cd__law_next "_law_next" = true) (k__law_next : PySem.W.keepIn K (.ref f__law_next) = true)
    {od__law_pick an__law_pick : Option Addr} {sl__law_pick : Array (Option Value)} {oc__law_pick kV__law_pick dc__law_pick pm__law_pick cd__law_pick ct__law_pick : Value} {f__law_pick : Addr}
    (a__law_pick : PySem.W.nsIn K mainGlobals "_law_pick" = some (some (.ref f__law_pick))) (l__law_pick : K.lookup f__law_pick = some ⟨oc__law_pick, od__law_pick, .func (PySem.W.fnOf "_law_pick" "_law_pick" (defArgs s__law_pick) (defBody s__law_pick) (defScope s__law_pick) .none kV__law_pick dc__law_pick pm__law_pick an__law_pick cd__law_pick ct__law_pick), sl__law_pick⟩) (o__law_pick : PySem.W.codeIn K cd__law_pick "_law_pick" = true) (k__law_pick : PySem.W.keepIn K (.ref f__law_pick) = true)
    {od__law_allocation an__law_allocation : Option Addr} {sl__law_allocation : Array (Option Value)} {oc__law_allocation kV__law_allocation dc__law_allocation pm__law_allocation cd__law_allocation ct__law_allocation : Value} {f__law_allocation : Addr}
    (a__law_allocation : PySem.W.nsIn K mainGlobals "_law_allocation" = some (some (.ref f__law_allocation))) (l__law_allocation : K.lookup f__law_allocation = some ⟨oc__law_allocation, od__law_allocation, .func (PySem.W.fnOf "_law_allocation" "_law_allocation" (defArgs s__law_allocation) (defBody s__law_allocation) (defScope s__law_allocation) .none kV__law_allocation dc__law_allocation pm__law_allocation an__law_allocation cd__law_allocation ct__law_allocation), sl__law_allocation⟩) (o__law_allocation : PySem.W.codeIn K cd__law_allocation "_law_allocation" = true) (k__law_allocation : PySem.W.keepIn K (.ref f__law_allocation) = true)
    {od__law_assignment an__law_assignment : Option Addr} {sl__law_assignment : Array (Option Value)} {oc__law_assignment kV__law_assignment dc__law_assignment pm__law_assignment cd__law_assignment ct__law_assignment : Value} {f__law_assignment : Addr}
    (a__law_assignment : PySem.W.nsIn K mainGlobals "_law_assignment" = some (some (.ref f__law_assignment))) (l__law_assignment : K.lookup f__law_assignment = some ⟨oc__law_assignment, od__law_assignment, .func (PySem.W.fnOf "_law_assignment" "_law_assignment" (defArgs s__law_assignment) (defBody s__law_assignment) (defScope s__law_assignment) .none kV__law_assignment dc__law_assignment pm__law_assignment an__law_assignment cd__law_assignment ct__law_assignment), sl__law_assignment⟩) (o__law_assignment : PySem.W.codeIn K cd__law_assignment "_law_assignment" = true) (k__law_assignment : PySem.W.keepIn K (.ref f__law_assignment) = true)
    {od__law_order an__law_order : Option Addr} {sl__law_order : Array (Option Value)} {oc__law_order kV__law_order dc__law_order pm__law_order cd__law_order ct__law_order : Value} {f__law_order : Addr}
    (a__law_order : PySem.W.nsIn K mainGlobals "_law_order" = some (some (.ref f__law_order))) (l__law_order : K.lookup f__law_order = some ⟨oc__law_order, od__law_order, .func (PySem.W.fnOf "_law_order" "_law_order" (defArgs s__law_order) (defBody s__law_order) (defScope s__law_order) .none kV__law_order dc__law_order pm__law_order an__law_order cd__law_order ct__law_order), sl__law_order⟩) (o__law_order : PySem.W.codeIn K cd__law_order "_law_order" = true) (k__law_order : PySem.W.keepIn K (.ref f__law_order) = true)
    {od__law_told an__law_told : Option Addr} {sl__law_told : Array (Option Value)} {oc__law_told kV__law_told dc__law_told pm__law_told cd__law_told ct__law_told : Value} {f__law_told : Addr}
    (a__law_told : PySem.W.nsIn K mainGlobals "_law_told" = some (some (.ref f__law_told))) (l__law_told : K.lookup f__law_told = some ⟨oc__law_told, od__law_told, .func (PySem.W.fnOf "_law_told" "_law_told" (defArgs s__law_told) (defBody s__law_told) (defScope s__law_told) .none kV__law_told dc__law_told pm__law_told an__law_told cd__law_told ct__law_told), sl__law_told⟩) (o__law_told : PySem.W.codeIn K cd__law_told "_law_told" = true) (k__law_told : PySem.W.keepIn K (.ref f__law_told) = true)
    {od__law_rows an__law_rows : Option Addr} {sl__law_rows : Array (Option Value)} {oc__law_rows kV__law_rows dc__law_rows pm__law_rows cd__law_rows ct__law_rows : Value} {f__law_rows : Addr}
    (a__law_rows : PySem.W.nsIn K mainGlobals "_law_rows" = some (some (.ref f__law_rows))) (l__law_rows : K.lookup f__law_rows = some ⟨oc__law_rows, od__law_rows, .func (PySem.W.fnOf "_law_rows" "_law_rows" (defArgs s__law_rows) (defBody s__law_rows) (defScope s__law_rows) .none kV__law_rows dc__law_rows pm__law_rows an__law_rows cd__law_rows ct__law_rows), sl__law_rows⟩) (o__law_rows : PySem.W.codeIn K cd__law_rows "_law_rows" = true) (k__law_rows : PySem.W.keepIn K (.ref f__law_rows) = true)
    {od_law an_law : Option Addr} {sl_law : Array (Option Value)} {oc_law kV_law dc_law pm_law cd_law ct_law : Value} {f_law : Addr}
    (a_law : PySem.W.nsIn K mainGlobals "law" = some (some (.ref f_law))) (l_law : K.lookup f_law = some ⟨oc_law, od_law, .func (PySem.W.fnOf "law" "law" (defArgs s_law) (defBody s_law) (defScope s_law) .none kV_law dc_law pm_law an_law cd_law ct_law), sl_law⟩) (o_law : PySem.W.codeIn K cd_law "law" = true) (k_law : PySem.W.keepIn K (.ref f_law) = true)
    (z_ValueError : PySem.W.nsIn K mainGlobals "ValueError" = some none)
    (z_abs : PySem.W.nsIn K mainGlobals "abs" = some none)
    (z_all : PySem.W.nsIn K mainGlobals "all" = some none)
    (z_bool : PySem.W.nsIn K mainGlobals "bool" = some none)
    (z_enumerate : PySem.W.nsIn K mainGlobals "enumerate" = some none)
    (z_int : PySem.W.nsIn K mainGlobals "int" = some none)
    (z_isinstance : PySem.W.nsIn K mainGlobals "isinstance" = some none)
    (z_len : PySem.W.nsIn K mainGlobals "len" = some none)
    (z_list : PySem.W.nsIn K mainGlobals "list" = some none)
    (z_max : PySem.W.nsIn K mainGlobals "max" = some none)
    (z_min : PySem.W.nsIn K mainGlobals "min" = some none)
    (z_range : PySem.W.nsIn K mainGlobals "range" = some none)
    (z_set : PySem.W.nsIn K mainGlobals "set" = some none)
    (z_sorted : PySem.W.nsIn K mainGlobals "sorted" = some none)
    (z_sum : PySem.W.nsIn K mainGlobals "sum" = some none)
    (z_tuple : PySem.W.nsIn K mainGlobals "tuple" = some none)
    (z_zip : PySem.W.nsIn K mainGlobals "zip" = some none)
    {tk_MOST_VARIANTS : Tok} (g_MOST_VARIANTS : PySem.W.nsIn K mainGlobals "MOST_VARIANTS" = some (some (.int 5 tk_MOST_VARIANTS)))
    {tk_MOST_BUCKETS : Tok} (g_MOST_BUCKETS : PySem.W.nsIn K mainGlobals "MOST_BUCKETS" = some (some (.int 20 tk_MOST_BUCKETS)))
    {tk_GREATEST_WEIGHT : Tok} (g_GREATEST_WEIGHT : PySem.W.nsIn K mainGlobals "GREATEST_WEIGHT" = some (some (.int 1000000 tk_GREATEST_WEIGHT)))
    (i_gcd : PySem.W.nsIn K mainGlobals "gcd" = some (some (.builtin "math.gcd")))
    {xC_BadValue xI_BadValue xcc_BadValue xcda_BadValue : Addr} {xkV_BadValue xdoc_BadValue xpm_BadValue xct_BadValue xoc_BadValue xcl_BadValue xccl_BadValue : Value} {xan_BadValue xod_BadValue xcdd_BadValue xcld_BadValue : Option Addr} {xosl_BadValue xcsl_BadValue xccs_BadValue : Array (Option Value)} {xvs_BadValue : Array Value} {xfile_BadValue : Str} {xtf_BadValue : Tok}
    {xnm_BadValue xq_BadValue : Str} {xN_BadValue : Addr} {xbs_BadValue xbm_BadValue xsub_BadValue : List Value} {xsn_BadValue : List Str} {xab_BadValue : Bool} {xcol_BadValue : Option Bool} {xdd_BadValue : Option Addr} {x0_BadValue x1_BadValue x2_BadValue x3_BadValue x5_BadValue : Option Value} {xcd_BadValue : ClassData}
    (xa_BadValue : PySem.W.nsIn K mainGlobals "BadValue" = some (some (.ref xC_BadValue))) (xi_BadValue : PySem.W.findIn K (.ref xC_BadValue) "__init__" = some (some (.ref xI_BadValue)))
    (xl_BadValue : K.lookup xI_BadValue = some ⟨xoc_BadValue, xod_BadValue, .func (PySem.W.ksFn "__init__" "BadValue.__init__" (defArgs s_ini_BadValue) (defBody s_ini_BadValue) (defScope s_ini_BadValue) .none xkV_BadValue xdoc_BadValue xpm_BadValue xan_BadValue (.ref xcda_BadValue) xct_BadValue xcc_BadValue), xosl_BadValue⟩)
    (xo_BadValue : PySem.W.codeIn K (.ref xcda_BadValue) "BadValue.__init__" = true) (xd_BadValue : K.lookup xcda_BadValue = some ⟨xccl_BadValue, xcdd_BadValue, .fields xvs_BadValue, xccs_BadValue⟩) (xv_BadValue : xvs_BadValue[2]? = some (.str xfile_BadValue xtf_BadValue)) (xf_BadValue : ((l.prog.main.file : Str) == xfile_BadValue) = true)
    (xc_BadValue : K.lookup xcc_BadValue = some ⟨xcl_BadValue, xcld_BadValue, .cell (some (.ref xC_BadValue)), xcsl_BadValue⟩) (xk_BadValue : K.lookup xC_BadValue = some (excClassObj xnm_BadValue xq_BadValue xC_BadValue xN_BadValue xbs_BadValue xbm_BadValue true xsn_BadValue xsub_BadValue xab_BadValue xcol_BadValue xdd_BadValue x0_BadValue x1_BadValue x2_BadValue x3_BadValue x5_BadValue "ValueError.__new__")) (xr_BadValue : PySem.HandSPX.refsVE xbm_BadValue = true)
    (xs_BadValue : PySem.W.findIn K (.ref xC_BadValue) "__setattr__" = some (some (.builtin "object.__setattr__"))) (xb_BadValue : PySem.W.subIn K (.ref xC_BadValue) (.type "BaseException") = some true) (xt_BadValue : PySem.W.typeIn K (.ref xC_BadValue) = some (.type "type")) (xp_BadValue : PySem.W.keepIn K (.ref xC_BadValue) = true)
    (xw_BadValue : PySem.W.subIn K (.ref xC_BadValue) (.type "ValueError") = some true) (xz_BadValue : PySem.W.nsIn K cStatics "thirdparty.any" = some none) (xu_BadValue : PySem.W.ks_superIn K xC_BadValue xC_BadValue "__init__" = some (some (.builtin "ValueError.__init__"))) (xy_BadValue : PySem.W.typeIn K (.ref xI_BadValue) = some (.type "function"))
    (xg_BadValue : PySem.W.findIn K (.ref xC_BadValue) "__getattribute__" = some (some (.builtin "BaseException.__getattribute__"))) (xh_BadValue : PySem.W.findIn K (.ref xC_BadValue) "__getattr__" = some none) (xD_BadValue : PySem.W.hasDictIn K xC_BadValue = true) (xn_BadValue : PySem.W.findIn K (.ref xC_BadValue) "name" = some none)
    (xe_BadValue : PySem.W.clsIn K xC_BadValue = some xcd_BadValue) (xx_BadValue : PySem.W.subIn K (.ref xC_BadValue) (.ref xC_BadValue) = some true) (xj_BadValue : PySem.W.nsIn K mainGlobals "super" = some none) (xm_BadValue : (l.prog.main.scope.names.lookup ("super" : Str)).isSome = false)
    {xL0 : Addr} (yA_L : PySem.W.findIn K (.ref xC_BadValue) "__class__" = some (some (.builtin "object.__class__"))) (yN_L : PySem.W.specialIn K (.builtin "object.__class__") "__get__" = some (some (.builtin "getset_descriptor.__get__"))) (yT_L : PySem.W.takesIn K (.builtin "object.__class__") = some true) (yM_L : PySem.W.mroIn K xC_BadValue (.type "object") = some true)
    (yL_L : PySem.W.nsIn K mainGlobals "LeastError" = some (some (.ref xL0))) (yB_L : PySem.W.subIn K (.ref xL0) (.type "BaseException") = some true) (yD_L : PySem.W.hasDictIn K xL0 = true) (yY_L : PySem.W.typeIn K (.ref xL0) = some (.type "type")) (yS_L : PySem.W.subIn K (.ref xC_BadValue) (.ref xL0) = some true)
    {xcdL : ClassData} (yC_L : PySem.W.clsIn K xL0 = some xcdL) :
    ∃ fd : FuncData, (∀ (s : Shared) (v : Value), BindsTo s fd ⟨[v], []⟩ [("script", v)]) ∧ ∀ base : Heap, K.In base → base.Ns mainGlobals mg → FnOk l.prog w K mg base CX0 10 fa fd ["script"] (spLaw K) := by
  have e := hfa.symm.trans (PySem.W.mg_of X G a_law)
  cases e
  have T : Txt mg := { b_ValueError := PySem.W.mg_none_of X G z_ValueError, b_abs := PySem.W.mg_none_of X G z_abs, b_all := PySem.W.mg_none_of X G z_all, b_bool := PySem.W.mg_none_of X G z_bool, b_enumerate := PySem.W.mg_none_of X G z_enumerate, b_int := PySem.W.mg_none_of X G z_int, b_isinstance := PySem.W.mg_none_of X G z_isinstance, b_len := PySem.W.mg_none_of X G z_len, b_list := PySem.W.mg_none_of X G z_list, b_max := PySem.W.mg_none_of X G z_max, b_min := PySem.W.mg_none_of X G z_min, b_range := PySem.W.mg_none_of X G z_range, b_set := PySem.W.mg_none_of X G z_set, b_sorted := PySem.W.mg_none_of X G z_sorted, b_sum := PySem.W.mg_none_of X G z_sum, b_tuple := PySem.W.mg_none_of X G z_tuple, b_zip := PySem.W.mg_none_of X G z_zip, k_MOST_VARIANTS := ⟨_, PySem.W.mg_of X G g_MOST_VARIANTS⟩, k_MOST_BUCKETS := ⟨_, PySem.W.mg_of X G g_MOST_BUCKETS⟩, k_GREATEST_WEIGHT := ⟨_, PySem.W.mg_of X G g_GREATEST_WEIGHT⟩, i_gcd := PySem.W.mg_of X G i_gcd }
  have F_is_integer := fun_mk (st := s_is_integer) l_is_integer o_is_integer k_is_integer
  have b_is_integer := F_is_integer.binds (ps := p_is_integer) fun _ _ _ _ _ _ us hl => match us, hl with | [_, _, _], _ => rfl
  have m_is_integer := PySem.W.mg_of X G a_is_integer
  have F_are_integers := fun_mk (st := s_are_integers) l_are_integers o_are_integers k_are_integers
  have b_are_integers := F_are_integers.binds (ps := p_are_integers) fun _ _ _ _ _ _ us hl => match us, hl with | [_, _, _], _ => rfl
  have m_are_integers := PySem.W.mg_of X G a_are_integers
  have F_require := fun_mk (st := s_require) l_require o_require k_require
  have b_require := F_require.binds (ps := p_require) fun _ _ _ _ _ _ us hl => match us, hl with | [_, _], _ => rfl
  have m_require := PySem.W.mg_of X G a_require
  have F_in_lowest_terms := fun_mk (st := s_in_lowest_terms) l_in_lowest_terms o_in_lowest_terms k_in_lowest_terms
  have b_in_lowest_terms := F_in_lowest_terms.binds (ps := p_in_lowest_terms) fun _ _ _ _ _ _ us hl => match us, hl with | [_, _], _ => rfl
  have m_in_lowest_terms := PySem.W.mg_of X G a_in_lowest_terms
  have F_is_allocation := fun_mk (st := s_is_allocation) l_is_allocation o_is_allocation k_is_allocation
  have b_is_allocation := F_is_allocation.binds (ps := p_is_allocation) fun _ _ _ _ _ _ us hl => match us, hl with | [_, _, _], _ => rfl
  have m_is_allocation := PySem.W.mg_of X G a_is_allocation
  have F_is_bounded_allocation := fun_mk (st := s_is_bounded_allocation) l_is_bounded_allocation o_is_bounded_allocation k_is_bounded_allocation
  have b_is_bounded_allocation := F_is_bounded_allocation.binds (ps := p_is_bounded_allocation) fun _ _ _ _ _ _ us hl => match us, hl with | [_], _ => rfl
  have m_is_bounded_allocation := PySem.W.mg_of X G a_is_bounded_allocation
  have F_is_order := fun_mk (st := s_is_order) l_is_order o_is_order k_is_order
  have b_is_order := F_is_order.binds (ps := p_is_order) fun _ _ _ _ _ _ us hl => match us, hl with | [_, _], _ => rfl
  have m_is_order := PySem.W.mg_of X G a_is_order
  have F_are_weights := fun_mk (st := s_are_weights) l_are_weights o_are_weights k_are_weights
  have b_are_weights := F_are_weights.binds (ps := p_are_weights) fun _ _ _ _ _ _ us hl => match us, hl with | [_], _ => rfl
  have m_are_weights := PySem.W.mg_of X G a_are_weights
  have F_check_allocation := fun_mk (st := s_check_allocation) l_check_allocation o_check_allocation k_check_allocation
  have b_check_allocation := F_check_allocation.binds (ps := p_check_allocation) fun _ _ _ _ _ _ us hl => match us, hl with | [_, _], _ => rfl
  have m_check_allocation := PySem.W.mg_of X G a_check_allocation
  have F_check_alike := fun_mk (st := s_check_alike) l_check_alike o_check_alike k_check_alike
  have b_check_alike := F_check_alike.binds (ps := p_check_alike) fun _ _ _ _ _ _ us hl => match us, hl with | [_, _, _], _ => rfl
  have m_check_alike := PySem.W.mg_of X G a_check_alike
  have F_check_weighted := fun_mk (st := s_check_weighted) l_check_weighted o_check_weighted k_check_weighted
  have b_check_weighted := F_check_weighted.binds (ps := p_check_weighted) fun _ _ _ _ _ _ us hl => match us, hl with | [_, _], _ => rfl
  have m_check_weighted := PySem.W.mg_of X G a_check_weighted
  have F_transfer := fun_mk (st := s_transfer) l_transfer o_transfer k_transfer
  have b_transfer := F_transfer.binds (ps := p_transfer) fun _ _ _ _ _ _ us hl => match us, hl with | [_, _], _ => rfl
  have m_transfer := PySem.W.mg_of X G a_transfer
  have F_medians := fun_mk (st := s_medians) l_medians o_medians k_medians
  have b_medians := F_medians.binds (ps := p_medians) fun _ _ _ _ _ _ us hl => match us, hl with | [_, _, _], _ => rfl
  have m_medians := PySem.W.mg_of X G a_medians
  have F_rests_of := fun_mk (st := s_rests_of) l_rests_of o_rests_of k_rests_of
  have b_rests_of := F_rests_of.binds (ps := p_rests_of) fun _ _ _ _ _ _ us hl => match us, hl with | [_, _], _ => rfl
  have m_rests_of := PySem.W.mg_of X G a_rests_of
  have F_by_largest_rests := fun_mk (st := s_by_largest_rests) l_by_largest_rests o_by_largest_rests k_by_largest_rests
  have b_by_largest_rests := F_by_largest_rests.binds (ps := p_by_largest_rests) fun _ _ _ _ _ _ us hl => match us, hl with | [_, _], _ => rfl
  have m_by_largest_rests := PySem.W.mg_of X G a_by_largest_rests
  have F_apportioned := fun_mk (st := s_apportioned) l_apportioned o_apportioned k_apportioned
  have b_apportioned := F_apportioned.binds (ps := p_apportioned) fun _ _ _ _ _ _ us hl => match us, hl with | [_, _], _ => rfl
  have m_apportioned := PySem.W.mg_of X G a_apportioned
  have F_surpluses := fun_mk (st := s_surpluses) l_surpluses o_surpluses k_surpluses
  have b_surpluses := F_surpluses.binds (ps := p_surpluses) fun _ _ _ _ _ _ us hl => match us, hl with | [_, _], _ => rfl
  have m_surpluses := PySem.W.mg_of X G a_surpluses
  have F_deviation := fun_mk (st := s_deviation) l_deviation o_deviation k_deviation
  have b_deviation := F_deviation.binds (ps := p_deviation) fun _ _ _ _ _ _ us hl => match us, hl with | [_, _], _ => rfl
  have m_deviation := PySem.W.mg_of X G a_deviation
  have F_is_nearest := fun_mk (st := s_is_nearest) l_is_nearest o_is_nearest k_is_nearest
  have b_is_nearest := F_is_nearest.binds (ps := p_is_nearest) fun _ _ _ _ _ _ us hl => match us, hl with | [_, _], _ => rfl
  have m_is_nearest := PySem.W.mg_of X G a_is_nearest
  have F_placed := fun_mk (st := s_placed) l_placed o_placed k_placed
  have b_placed := F_placed.binds (ps := p_placed) fun _ _ _ _ _ _ us hl => match us, hl with | [_, _], _ => rfl
  have m_placed := PySem.W.mg_of X G a_placed
  have F_renamed_shares := fun_mk (st := s_renamed_shares) l_renamed_shares o_renamed_shares k_renamed_shares
  have b_renamed_shares := F_renamed_shares.binds (ps := p_renamed_shares) fun _ _ _ _ _ _ us hl => match us, hl with | [_, _], _ => rfl
  have m_renamed_shares := PySem.W.mg_of X G a_renamed_shares
  have F_is_assignment := fun_mk (st := s_is_assignment) l_is_assignment o_is_assignment k_is_assignment
  have b_is_assignment := F_is_assignment.binds (ps := p_is_assignment) fun _ _ _ _ _ _ us hl => match us, hl with | [_, _, _], _ => rfl
  have m_is_assignment := PySem.W.mg_of X G a_is_assignment
  have F_is_bounded_assignment := fun_mk (st := s_is_bounded_assignment) l_is_bounded_assignment o_is_bounded_assignment k_is_bounded_assignment
  have b_is_bounded_assignment := F_is_bounded_assignment.binds (ps := p_is_bounded_assignment) fun _ _ _ _ _ _ us hl => match us, hl with | [_, _], _ => rfl
  have m_is_bounded_assignment := PySem.W.mg_of X G a_is_bounded_assignment
  have F_check_assignment := fun_mk (st := s_check_assignment) l_check_assignment o_check_assignment k_check_assignment
  have b_check_assignment := F_check_assignment.binds (ps := p_check_assignment) fun _ _ _ _ _ _ us hl => match us, hl with | [_, _], _ => rfl
  have m_check_assignment := PySem.W.mg_of X G a_check_assignment
  have F_check_pair := fun_mk (st := s_check_pair) l_check_pair o_check_pair k_check_pair
  have b_check_pair := F_check_pair.binds (ps := p_check_pair) fun _ _ _ _ _ _ us hl => match us, hl with | [_, _], _ => rfl
  have m_check_pair := PySem.W.mg_of X G a_check_pair
  have F_check_enough := fun_mk (st := s_check_enough) l_check_enough o_check_enough k_check_enough
  have b_check_enough := F_check_enough.binds (ps := p_check_enough) fun _ _ _ _ _ _ us hl => match us, hl with | [_, _], _ => rfl
  have m_check_enough := PySem.W.mg_of X G a_check_enough
  have F_allocation_of := fun_mk (st := s_allocation_of) l_allocation_of o_allocation_of k_allocation_of
  have b_allocation_of := F_allocation_of.binds (ps := p_allocation_of) fun _ _ _ _ _ _ us hl => match us, hl with | [_, _], _ => rfl
  have m_allocation_of := PySem.W.mg_of X G a_allocation_of
  have F_churn := fun_mk (st := s_churn) l_churn o_churn k_churn
  have b_churn := F_churn.binds (ps := p_churn) fun _ _ _ _ _ _ us hl => match us, hl with | [_, _], _ => rfl
  have m_churn := PySem.W.mg_of X G a_churn
  have F_moves := fun_mk (st := s_moves) l_moves o_moves k_moves
  have b_moves := F_moves.binds (ps := p_moves) fun _ _ _ _ _ _ us hl => match us, hl with | [_, _], _ => rfl
  have m_moves := PySem.W.mg_of X G a_moves
  have F_flows := fun_mk (st := s_flows) l_flows o_flows k_flows
  have b_flows := F_flows.binds (ps := p_flows) fun _ _ _ _ _ _ us hl => match us, hl with | [_, _, _], _ => rfl
  have m_flows := PySem.W.mg_of X G a_flows
  have F_buckets_of := fun_mk (st := s_buckets_of) l_buckets_of o_buckets_of k_buckets_of
  have b_buckets_of := F_buckets_of.binds (ps := p_buckets_of) fun _ _ _ _ _ _ us hl => match us, hl with | [_, _], _ => rfl
  have m_buckets_of := PySem.W.mg_of X G a_buckets_of
  have F_renamed := fun_mk (st := s_renamed) l_renamed o_renamed k_renamed
  have b_renamed := F_renamed.binds (ps := p_renamed) fun _ _ _ _ _ _ us hl => match us, hl with | [_, _], _ => rfl
  have m_renamed := PySem.W.mg_of X G a_renamed
  have F_rearranged := fun_mk (st := s_rearranged) l_rearranged o_rearranged k_rearranged
  have b_rearranged := F_rearranged.binds (ps := p_rearranged) fun _ _ _ _ _ _ us hl => match us, hl with | [_, _], _ => rfl
  have m_rearranged := PySem.W.mg_of X G a_rearranged
  have F__law_stream := fun_mk (st := s__law_stream) l__law_stream o__law_stream k__law_stream
  have b__law_stream := F__law_stream.binds (ps := p__law_stream) fun _ _ _ _ _ _ us hl => match us, hl with | [_], _ => rfl
  have m__law_stream := PySem.W.mg_of X G a__law_stream
  have F__law_next := fun_mk (st := s__law_next) l__law_next o__law_next k__law_next
  have b__law_next := F__law_next.binds (ps := p__law_next) fun _ _ _ _ _ _ us hl => match us, hl with | [_, _], _ => rfl
  have m__law_next := PySem.W.mg_of X G a__law_next
  have F__law_pick := fun_mk (st := s__law_pick) l__law_pick o__law_pick k__law_pick
  have b__law_pick := F__law_pick.binds (ps := p__law_pick) fun _ _ _ _ _ _ us hl => match us, hl with | [_, _], _ => rfl
  have m__law_pick := PySem.W.mg_of X G a__law_pick
  have F__law_allocation := fun_mk (st := s__law_allocation) l__law_allocation o__law_allocation k__law_allocation
  have b__law_allocation := F__law_allocation.binds (ps := p__law_allocation) fun _ _ _ _ _ _ us hl => match us, hl with | [_, _, _], _ => rfl
  have m__law_allocation := PySem.W.mg_of X G a__law_allocation
  have F__law_assignment := fun_mk (st := s__law_assignment) l__law_assignment o__law_assignment k__law_assignment
  have b__law_assignment := F__law_assignment.binds (ps := p__law_assignment) fun _ _ _ _ _ _ us hl => match us, hl with | [_, _, _], _ => rfl
  have m__law_assignment := PySem.W.mg_of X G a__law_assignment
  have F__law_order := fun_mk (st := s__law_order) l__law_order o__law_order k__law_order
  have b__law_order := F__law_order.binds (ps := p__law_order) fun _ _ _ _ _ _ us hl => match us, hl with | [_, _], _ => rfl
  have m__law_order := PySem.W.mg_of X G a__law_order
  have F__law_told := fun_mk (st := s__law_told) l__law_told o__law_told k__law_told
  have b__law_told := F__law_told.binds (ps := p__law_told) fun _ _ _ _ _ _ us hl => match us, hl with | [_, _], _ => rfl
  have m__law_told := PySem.W.mg_of X G a__law_told
  have F__law_rows := fun_mk (st := s__law_rows) l__law_rows o__law_rows k__law_rows
  have b__law_rows := F__law_rows.binds (ps := p__law_rows) fun _ _ _ _ _ _ us hl => match us, hl with | [_], _ => rfl
  have m__law_rows := PySem.W.mg_of X G a__law_rows
  have F_law := fun_mk (st := s_law) l_law o_law k_law
  have O_BadValue : OexC K xC_BadValue := ⟨⟨_, _, _, _, _, _, _, _, _, _, _, _, _, _, _, xk_BadValue, xr_BadValue⟩, xs_BadValue, xb_BadValue, xt_BadValue, xp_BadValue⟩
  have I_BadValue := fun base => ok_ini_BadValue (P := l.prog) (w := w) (mg := mg) (base := base) xl_BadValue xo_BadValue xd_BadValue xv_BadValue xf_BadValue xc_BadValue O_BadValue xn_BadValue (PySem.W.mg_none_of X G xj_BadValue) xw_BadValue xz_BadValue xu_BadValue xm_BadValue
  have J_BadValue : Binds K (PySem.W.ksFn "__init__" "BadValue.__init__" (defArgs s_ini_BadValue) (defBody s_ini_BadValue) (defScope s_ini_BadValue) .none xkV_BadValue xdoc_BadValue xpm_BadValue xan_BadValue (.ref xcda_BadValue) xct_BadValue xcc_BadValue) ["self", "name"] [] := .all fun us hl => match us, hl with | [_, _], _ => rfl
  have E_BadValue : ∀ base, Exc1 l.prog w K mg base "BadValue" "name" xC_BadValue := fun base => ⟨O_BadValue, ⟨xg_BadValue, xh_BadValue, xb_BadValue, xD_BadValue⟩, PySem.W.mg_of X G xa_BadValue, xn_BadValue, exm_self xb_BadValue xe_BadValue xt_BadValue xx_BadValue, _, _, xi_BadValue, xy_BadValue, I_BadValue base, J_BadValue⟩
  have H_BadValue : ExcH K mg xC_BadValue xL0 := ⟨⟨xg_BadValue, xh_BadValue, xb_BadValue, xD_BadValue, yA_L, yN_L, yT_L, yM_L⟩, PySem.W.mg_of X G yL_L, PySem.W.exm_ref yB_L yD_L yY_L yS_L, kit_val xw_BadValue⟩
  have KL_BadValue := kit_ref yC_L yY_L yS_L
  refine ⟨PySem.W.fnOf "law" "law" (defArgs s_law) (defBody s_law) (defScope s_law) .none kV_law dc_law pm_law an_law cd_law ct_law, fun s v => .of_eq rfl, fun base _ _ => ?_⟩
  have c_is_integer : Cal l.prog w K mg base CX0 1 "is_integer" p_is_integer (sp_is_integer K) := ⟨_, _, ok_is_integer F_is_integer T, m_is_integer, k_is_integer, b_is_integer⟩
  have c_require : Cal l.prog w K mg base CX0 1 "require" p_require (sp_require K) := ⟨_, _, ok_require F_require T, m_require, k_require, b_require⟩
  have c_in_lowest_terms : Cal l.prog w K mg base CX0 1 "in_lowest_terms" p_in_lowest_terms (sp_in_lowest_terms K) := ⟨_, _, ok_in_lowest_terms F_in_lowest_terms T, m_in_lowest_terms, k_in_lowest_terms, b_in_lowest_terms⟩
  have c_rests_of : Cal l.prog w K mg base CX0 1 "rests_of" p_rests_of (sp_rests_of K) := ⟨_, _, ok_rests_of F_rests_of T, m_rests_of, k_rests_of, b_rests_of⟩
  have c_surpluses : Cal l.prog w K mg base CX0 1 "surpluses" p_surpluses (sp_surpluses K) := ⟨_, _, ok_surpluses F_surpluses T, m_surpluses, k_surpluses, b_surpluses⟩
  have c_placed : Cal l.prog w K mg base CX0 1 "placed" p_placed (sp_placed K) := ⟨_, _, ok_placed F_placed T, m_placed, k_placed, b_placed⟩
  have c__law_stream : Cal l.prog w K mg base CX0 1 "_law_stream" p__law_stream (sp__law_stream K) := ⟨_, _, ok__law_stream F__law_stream T, m__law_stream, k__law_stream, b__law_stream⟩
  have c__law_next : Cal l.prog w K mg base CX0 1 "_law_next" p__law_next (sp__law_next K) := ⟨_, _, ok__law_next F__law_next T, m__law_next, k__law_next, b__law_next⟩
  have c_are_integers : Cal l.prog w K mg base CX0 2 "are_integers" p_are_integers (sp_are_integers K) := ⟨_, _, ok_are_integers F_are_integers T c_is_integer, m_are_integers, k_are_integers, b_are_integers⟩
  have c_by_largest_rests : Cal l.prog w K mg base CX0 2 "by_largest_rests" p_by_largest_rests (sp_by_largest_rests K) := ⟨_, _, ok_by_largest_rests F_by_largest_rests T c_rests_of, m_by_largest_rests, k_by_largest_rests, b_by_largest_rests⟩
  have c_check_enough : Cal l.prog w K mg base CX0 2 "check_enough" p_check_enough (sp_check_enough K) := ⟨_, _, ok_check_enough F_check_enough T c_require c_is_integer, m_check_enough, k_check_enough, b_check_enough⟩
  have c__law_pick : Cal l.prog w K mg base CX0 2 "_law_pick" p__law_pick (sp__law_pick K) := ⟨_, _, ok__law_pick F__law_pick T c__law_next, m__law_pick, k__law_pick, b__law_pick⟩
  have c__law_allocation : Cal l.prog w K mg base CX0 2 "_law_allocation" p__law_allocation (sp__law_allocation K) := ⟨_, _, ok__law_allocation F__law_allocation T c__law_next, m__law_allocation, k__law_allocation, b__law_allocation⟩
  have c__law_assignment : Cal l.prog w K mg base CX0 2 "_law_assignment" p__law_assignment (sp__law_assignment K) := ⟨_, _, ok__law_assignment F__law_assignment T c__law_next, m__law_assignment, k__law_assignment, b__law_assignment⟩
  have c__law_order : Cal l.prog w K mg base CX0 2 "_law_order" p__law_order (sp__law_order K) := ⟨_, _, ok__law_order F__law_order T c__law_next, m__law_order, k__law_order, b__law_order⟩
  have c_is_allocation : Cal l.prog w K mg base CX0 3 "is_allocation" p_is_allocation (sp_is_allocation K) := ⟨_, _, ok_is_allocation F_is_allocation T c_are_integers, m_is_allocation, k_is_allocation, b_is_allocation⟩
  have c_is_bounded_allocation : Cal l.prog w K mg base CX0 3 "is_bounded_allocation" p_is_bounded_allocation (sp_is_bounded_allocationX K) := ⟨_, _, ok_is_bounded_allocation F_is_bounded_allocation T c_are_integers, m_is_bounded_allocation, k_is_bounded_allocation, b_is_bounded_allocation⟩
  have c_is_order : Cal l.prog w K mg base CX0 3 "is_order" p_is_order (sp_is_orderD K) := ⟨_, _, ok_is_order F_is_order T c_are_integers, m_is_order, k_is_order, b_is_order⟩
  have c_are_weights : Cal l.prog w K mg base CX0 3 "are_weights" p_are_weights (sp_are_weights K) := ⟨_, _, ok_are_weights F_are_weights T c_are_integers, m_are_weights, k_are_weights, b_are_weights⟩
  have c_is_assignment : Cal l.prog w K mg base CX0 3 "is_assignment" p_is_assignment (sp_is_assignment K) := ⟨_, _, ok_is_assignment F_is_assignment T c_are_integers, m_is_assignment, k_is_assignment, b_is_assignment⟩
  have c_is_bounded_assignment : Cal l.prog w K mg base CX0 3 "is_bounded_assignment" p_is_bounded_assignment (sp_is_bounded_assignment K) := ⟨_, _, ok_is_bounded_assignment F_is_bounded_assignment T c_are_integers, m_is_bounded_assignment, k_is_bounded_assignment, b_is_bounded_assignment⟩
  have c__law_rows : Cal l.prog w K mg base CX0 3 "_law_rows" p__law_rows (sp__law_rows09 K) := ⟨_, _, ok__law_rows F__law_rows T c__law_next c__law_order c__law_allocation c__law_assignment, m__law_rows, k__law_rows, b__law_rows⟩
  have c_check_allocation : Cal l.prog w K mg base CX0 4 "check_allocation" p_check_allocation (sp_check_allocation K) := ⟨_, _, ok_check_allocation F_check_allocation T c_require c_is_bounded_allocation, m_check_allocation, k_check_allocation, b_check_allocation⟩
  have c_check_alike : Cal l.prog w K mg base CX0 4 "check_alike" p_check_alike (sp_check_alike K) := ⟨_, _, ok_check_alike F_check_alike T c_require c_is_allocation, m_check_alike, k_check_alike, b_check_alike⟩
  have c_check_weighted : Cal l.prog w K mg base CX0 4 "check_weighted" p_check_weighted (sp_check_weighted K) := ⟨_, _, ok_check_weighted F_check_weighted T c_require c_are_weights c_is_bounded_allocation, m_check_weighted, k_check_weighted, b_check_weighted⟩
  have c_apportioned : Cal l.prog w K mg base CX0 4 "apportioned" p_apportioned (sp_apportioned K) := ⟨_, _, ok_apportioned F_apportioned T c_require c_by_largest_rests c_are_weights c_is_integer, m_apportioned, k_apportioned, b_apportioned⟩
  have c_check_assignment : Cal l.prog w K mg base CX0 4 "check_assignment" p_check_assignment (sp_check_assignment K) := ⟨_, _, ok_check_assignment F_check_assignment T c_require c_is_bounded_assignment, m_check_assignment, k_check_assignment, b_check_assignment⟩
  have c_transfer : Cal l.prog w K mg base CX0 5 "transfer" p_transfer (sp_transfer K) := ⟨_, _, ok_transfer F_transfer T c_check_allocation c_check_alike, m_transfer, k_transfer, b_transfer⟩
  have c_medians : Cal l.prog w K mg base CX0 5 "medians" p_medians (sp_medians K) := ⟨_, _, ok_medians F_medians T c_check_allocation c_check_alike, m_medians, k_medians, b_medians⟩
  have c_deviation : Cal l.prog w K mg base CX0 5 "deviation" p_deviation (sp_deviation K) := ⟨_, _, ok_deviation F_deviation T c_check_weighted c_in_lowest_terms c_surpluses, m_deviation, k_deviation, b_deviation⟩
  have c_is_nearest : Cal l.prog w K mg base CX0 5 "is_nearest" p_is_nearest (sp_is_nearest K) := ⟨_, _, ok_is_nearest F_is_nearest T c_check_weighted c_surpluses c_rests_of, m_is_nearest, k_is_nearest, b_is_nearest⟩
  have c_renamed_shares : Cal l.prog w K mg base CX0 5 "renamed_shares" p_renamed_shares (sp_renamed_shares K) := ⟨_, _, ok_renamed_shares F_renamed_shares T c_check_allocation c_require c_placed c_is_order, m_renamed_shares, k_renamed_shares, b_renamed_shares⟩
  have c_check_pair : Cal l.prog w K mg base CX0 5 "check_pair" p_check_pair (sp_check_pair K) := ⟨_, _, ok_check_pair F_check_pair T c_check_assignment c_require c_is_assignment, m_check_pair, k_check_pair, b_check_pair⟩
  have c_allocation_of : Cal l.prog w K mg base CX0 5 "allocation_of" p_allocation_of (sp_allocation_of K) := ⟨_, _, ok_allocation_of F_allocation_of T c_check_assignment c_check_enough, m_allocation_of, k_allocation_of, b_allocation_of⟩
  have c_buckets_of : Cal l.prog w K mg base CX0 5 "buckets_of" p_buckets_of (sp_buckets_of K) := ⟨_, _, ok_buckets_of F_buckets_of T c_check_assignment c_require c_is_integer, m_buckets_of, k_buckets_of, b_buckets_of⟩
  have c_renamed : Cal l.prog w K mg base CX0 5 "renamed" p_renamed (sp_renamed K) := ⟨_, _, ok_renamed F_renamed T c_check_assignment c_require c_is_order, m_renamed, k_renamed, b_renamed⟩
  have c_rearranged : Cal l.prog w K mg base CX0 5 "rearranged" p_rearranged (sp_rearranged K) := ⟨_, _, ok_rearranged F_rearranged T c_check_assignment c_require c_placed c_is_order, m_rearranged, k_rearranged, b_rearranged⟩
  have c_moves : Cal l.prog w K mg base CX0 6 "moves" p_moves (sp_moves K) := ⟨_, _, ok_moves F_moves T c_check_pair, m_moves, k_moves, b_moves⟩
  have c_flows : Cal l.prog w K mg base CX0 6 "flows" p_flows (sp_flows K) := ⟨_, _, ok_flows F_flows T c_check_pair c_check_enough, m_flows, k_flows, b_flows⟩
  have c_churn : Cal l.prog w K mg base CX0 7 "churn" p_churn (sp_churn K) := ⟨_, _, ok_churn F_churn T c_moves, m_churn, k_churn, b_churn⟩
  have X_require := ok_requireX F_require T (E_BadValue base)
  have X_check_allocation := fn_or (sp' := spRef K xC_BadValue RcAl) ((fn_up0 (CX := L2.CX l.prog w) (ok_check_allocation F_check_allocation T c_require c_is_bounded_allocation)).mono (k := 5) (by decide)) (ok_check_allocationX F_check_allocation T c_is_bounded_allocation X_require m_require k_require b_require)
  have X_check_alike := fn_or (sp' := spRef K xC_BadValue RcLk) ((fn_up0 (CX := L2.CX l.prog w) (ok_check_alike F_check_alike T c_require c_is_allocation)).mono (k := 5) (by decide)) (ok_check_alikeX F_check_alike T c_is_allocation X_require m_require k_require b_require)
  have X_check_weighted := fn_or (sp' := spRef K xC_BadValue RcWt) ((fn_up0 (CX := L2.CX l.prog w) (ok_check_weighted F_check_weighted T c_require c_are_weights c_is_bounded_allocation)).mono (k := 5) (by decide)) (ok_check_weightedX F_check_weighted T c_are_weights c_is_bounded_allocation X_require m_require k_require b_require)
  have X_transfer := fn_or (sp' := spRef K xC_BadValue Rc2) ((fn_up0 (CX := L2.CX l.prog w) (ok_transfer F_transfer T c_check_allocation c_check_alike)).mono (k := 6) (by decide)) (ok_transferX F_transfer T X_check_allocation m_check_allocation k_check_allocation b_check_allocation X_check_alike m_check_alike k_check_alike b_check_alike)
  have X_medians := fn_or (sp' := spRef K xC_BadValue RcM1) ((fn_up0 (CX := L2.CX l.prog w) (ok_medians F_medians T c_check_allocation c_check_alike)).mono (k := 6) (by decide)) (ok_mediansX F_medians T X_check_allocation m_check_allocation k_check_allocation b_check_allocation X_check_alike m_check_alike k_check_alike b_check_alike)
  have X_apportioned := fn_or (sp' := spRef K xC_BadValue RcAp) ((fn_up0 (CX := L2.CX l.prog w) (ok_apportioned F_apportioned T c_require c_by_largest_rests c_are_weights c_is_integer)).mono (k := 5) (by decide)) (ok_apportionedX F_apportioned T c_by_largest_rests c_are_weights c_is_integer X_require m_require k_require b_require)
  have X_deviation := fn_or (sp' := spRef K xC_BadValue RcWt) ((fn_up0 (CX := L2.CX l.prog w) (ok_deviation F_deviation T c_check_weighted c_in_lowest_terms c_surpluses)).mono (k := 6) (by decide)) (ok_deviationX F_deviation T c_in_lowest_terms c_surpluses X_check_weighted m_check_weighted k_check_weighted b_check_weighted)
  have X_is_nearest := fn_or (sp' := spRef K xC_BadValue RcWt) ((fn_up0 (CX := L2.CX l.prog w) (ok_is_nearest F_is_nearest T c_check_weighted c_surpluses c_rests_of)).mono (k := 6) (by decide)) (ok_is_nearestX F_is_nearest T c_surpluses c_rests_of X_check_weighted m_check_weighted k_check_weighted b_check_weighted)
  have X_renamed_shares := fn_or (sp' := spRef K xC_BadValue RcOd) ((fn_up0 (CX := L2.CX l.prog w) (ok_renamed_shares F_renamed_shares T c_check_allocation c_require c_placed c_is_order)).mono (k := 6) (by decide)) (ok_renamed_sharesX F_renamed_shares T c_placed c_is_order X_check_allocation m_check_allocation k_check_allocation b_check_allocation X_require m_require k_require b_require)
  have X_check_assignment := fn_or (sp' := spRef K xC_BadValue RcAs) ((fn_up0 (CX := L2.CX l.prog w) (ok_check_assignment F_check_assignment T c_require c_is_bounded_assignment)).mono (k := 5) (by decide)) (ok_check_assignmentX F_check_assignment T c_is_bounded_assignment X_require m_require k_require b_require)
  have X_check_pair := fn_or (sp' := spRef K xC_BadValue RcPr) ((fn_up0 (CX := L2.CX l.prog w) (ok_check_pair F_check_pair T c_check_assignment c_require c_is_assignment)).mono (k := 6) (by decide)) (ok_check_pairX F_check_pair T c_is_assignment X_check_assignment m_check_assignment k_check_assignment b_check_assignment X_require m_require k_require b_require)
  have X_check_enough := fn_or (sp' := spRef K xC_BadValue RcCe) ((fn_up0 (CX := L2.CX l.prog w) (ok_check_enough F_check_enough T c_require c_is_integer)).mono (k := 5) (by decide)) (ok_check_enoughX F_check_enough T c_is_integer X_require m_require k_require b_require)
  have X_allocation_of := fn_or (sp' := spRef K xC_BadValue RcAo) ((fn_up0 (CX := L2.CX l.prog w) (ok_allocation_of F_allocation_of T c_check_assignment c_check_enough)).mono (k := 6) (by decide)) (ok_allocation_ofX F_allocation_of T X_check_assignment m_check_assignment k_check_assignment b_check_assignment X_check_enough m_check_enough k_check_enough b_check_enough)
  have X_moves := fn_or (sp' := spRef K xC_BadValue RcPr) ((fn_up0 (CX := L2.CX l.prog w) (ok_moves F_moves T c_check_pair)).mono (k := 7) (by decide)) (ok_movesX F_moves T X_check_pair m_check_pair k_check_pair b_check_pair)
  have X_churn := fn_or (sp' := spRef K xC_BadValue RcPr) ((fn_up0 (CX := L2.CX l.prog w) (ok_churn F_churn T c_moves)).mono (k := 8) (by decide)) (ok_churnX F_churn T X_moves m_moves k_moves b_moves)
  have X_flows := fn_or (sp' := spRef K xC_BadValue RcFl) ((fn_up0 (CX := L2.CX l.prog w) (ok_flows F_flows T c_check_pair c_check_enough)).mono (k := 7) (by decide)) (ok_flowsX F_flows T X_check_pair m_check_pair k_check_pair b_check_pair X_check_enough m_check_enough k_check_enough b_check_enough)
  have X_buckets_of := fn_or (sp' := spRef K xC_BadValue RcBk) ((fn_up0 (CX := L2.CX l.prog w) (ok_buckets_of F_buckets_of T c_check_assignment c_require c_is_integer)).mono (k := 6) (by decide)) (ok_buckets_ofX F_buckets_of T c_is_integer X_check_assignment m_check_assignment k_check_assignment b_check_assignment X_require m_require k_require b_require)
  have X_renamed := fn_or (sp' := spRef K xC_BadValue RcRn) ((fn_up0 (CX := L2.CX l.prog w) (ok_renamed F_renamed T c_check_assignment c_require c_is_order)).mono (k := 6) (by decide)) (ok_renamedX F_renamed T c_is_order X_check_assignment m_check_assignment k_check_assignment b_check_assignment X_require m_require k_require b_require)
  have X_rearranged := fn_or (sp' := spRef K xC_BadValue RcRr) ((fn_up0 (CX := L2.CX l.prog w) (ok_rearranged F_rearranged T c_check_assignment c_require c_placed c_is_order)).mono (k := 6) (by decide)) (ok_rearrangedX F_rearranged T c_placed c_is_order X_check_assignment m_check_assignment k_check_assignment b_check_assignment X_require m_require k_require b_require)
  have c__law_told : Cal l.prog w K mg base CX0 9 "_law_told" p__law_told (sp__law_told09 K) := ⟨_, _, (fn_down0 (fun vs H Q E h => h) (ok__law_toldX F__law_told T (E_BadValue base) H_BadValue KL_BadValue X_transfer m_transfer k_transfer b_transfer X_medians m_medians k_medians b_medians X_apportioned m_apportioned k_apportioned b_apportioned X_deviation m_deviation k_deviation b_deviation X_is_nearest m_is_nearest k_is_nearest b_is_nearest X_renamed_shares m_renamed_shares k_renamed_shares b_renamed_shares X_allocation_of m_allocation_of k_allocation_of b_allocation_of X_churn m_churn k_churn b_churn X_moves m_moves k_moves b_moves X_flows m_flows k_flows b_flows X_buckets_of m_buckets_of k_buckets_of b_buckets_of X_renamed m_renamed k_renamed b_renamed X_rearranged m_rearranged k_rearranged b_rearranged)).mono (by decide), m__law_told, k__law_told, b__law_told⟩
  exact ok_law F_law T c__law_stream c__law_rows c__law_told c__law_pick
theorem walk {l : PySem.W.OpenLaw} {q : Program} {loose : List Str} {XP : (Str → Option Value) → Heap → Prop} {YP : World → Heap → Prop} {d : DefRec} {K : Params → PySem.W.Frag} (hn : l.most = some 63) (hdf : d.params.defaults = [])
    (hY : ∀ (w : World) (h : Heap), YP w h → (K w.params).In h)
    (F : ∀ (w : World) (mg : Str → Option Value) (fa : Addr) (h : Heap), (K w.params).In h → h.Ns mainGlobals mg → mg d.name = some (.ref fa) →
      ∃ fd : FuncData, (∀ (s : Shared) (u : Value), BindsTo s fd ⟨[u], []⟩ [("script", u)]) ∧ ∀ base : Heap, (K w.params).In base → base.Ns mainGlobals mg → FnOk l.prog w (K w.params) mg base CX0 10 fa fd ["script"] (spLaw (K w.params))) :
    PySem.W.WalkO q loose XP YP l.row.toRowW d [] (fun f vs => PySem.call f vs) :=
  L2.walk_of (n := 63) (k := 10) (x := "script") (CX := fun _ => CX0) (sp := fun w => spLaw (K w.params)) hn (by decide) hdf ⟨rfl, by decide, by decide⟩ hY F (fun _ _ a ns hl _ hS => ⟨a, ns, rfl, hS, hl, fun _ => rfl⟩) fun _ _ _ _ _ z => z
end W
open PySem PySem.W PyProof.Rows
set_option maxRecDepth 100000 in
set_option maxHeartbeats 0 in
theorem PySem.Challenge.cw_leastmoved_k09_refusals_of_assignments_holds : PySem.Challenge.rw_leastmoved_k09_refusals_of_assignments.Holds := by
  w_on; o_law; k_head; (case hw => w_witness2)
  k_fill
  refine W.walk (l := PySem.Challenge.rw_leastmoved_k09_refusals_of_assignments) rfl rfl (fun w h Y => PySem.W.kIn_of Y) ?F
  case F =>
    intro w mg fa h KX G hmg
    refine' W.all_mk KX G hmg ?a_is_integer ?l_is_integer ?o_is_integer ?k_is_integer ?a_are_integers ?l_are_integers ?o_are_integers ?k_are_integers ?a_require ?l_require ?o_require ?k_require ?a_in_lowest_terms ?l_in_lowest_terms ?o_in_lowest_terms ?k_in_lowest_terms ?a_is_allocation ?l_is_allocation ?o_is_allocation ?k_is_allocation ?a_is_bounded_allocation ?l_is_bounded_allocation ?o_is_bounded_allocation ?k_is_bounded_allocation ?a_is_order ?l_is_order ?o_is_order ?k_is_order ?a_are_weights ?l_are_weights ?o_are_weights ?k_are_weights ?a_check_allocation ?l_check_allocation ?o_check_allocation ?k_check_allocation ?a_check_alike ?l_check_alike ?o_check_alike ?k_check_alike ?a_check_weighted ?l_check_weighted ?o_check_weighted ?k_check_weighted ?a_transfer ?l_transfer ?o_transfer ?k_transfer ?a_medians ?l_medians ?o_medians ?k_medians ?a_rests_of ?l_rests_of ?o_rests_of ?k_rests_of ?a_by_largest_rests ?l_by_largest_rests ?o_by_largest_rests ?k_by_largest_rests ?a_apportioned ?l_apportioned ?o_apportioned ?k_apportioned ?a_surpluses ?l_surpluses ?o_surpluses ?k_surpluses ?a_deviation ?l_deviation ?o_deviation ?k_deviation ?a_is_nearest ?l_is_nearest ?o_is_nearest ?k_is_nearest ?a_placed ?l_placed ?o_placed ?k_placed ?a_renamed_shares ?l_renamed_shares ?o_renamed_shares ?k_renamed_shares ?a_is_assignment ?l_is_assignment ?o_is_assignment ?k_is_assignment ?a_is_bounded_assignment ?l_is_bounded_assignment ?o_is_bounded_assignment ?k_is_bounded_assignment ?a_check_assignment ?l_check_assignment ?o_check_assignment ?k_check_assignment ?a_check_pair ?l_check_pair ?o_check_pair ?k_check_pair ?a_check_enough ?l_check_enough ?o_check_enough ?k_check_enough ?a_allocation_of ?l_allocation_of ?o_allocation_of ?k_allocation_of ?a_churn ?l_churn ?o_churn ?k_churn ?a_moves ?l_moves ?o_moves ?k_moves ?a_flows ?l_flows ?o_flows ?k_flows ?a_buckets_of ?l_buckets_of ?o_buckets_of ?k_buckets_of ?a_renamed ?l_renamed ?o_renamed ?k_renamed ?a_rearranged ?l_rearranged ?o_rearranged ?k_rearranged ?a__law_stream ?l__law_stream ?o__law_stream ?k__law_stream ?a__law_next ?l__law_next ?o__law_next ?k__law_next ?a__law_pick ?l__law_pick ?o__law_pick ?k__law_pick ?a__law_allocation ?l__law_allocation ?o__law_allocation ?k__law_allocation ?a__law_assignment ?l__law_assignment ?o__law_assignment ?k__law_assignment ?a__law_order ?l__law_order ?o__law_order ?k__law_order ?a__law_told ?l__law_told ?o__law_told ?k__law_told ?a__law_rows ?l__law_rows ?o__law_rows ?k__law_rows ?a_law ?l_law ?o_law ?k_law ?z_ValueError ?z_abs ?z_all ?z_bool ?z_enumerate ?z_int ?z_isinstance ?z_len ?z_list ?z_max ?z_min ?z_range ?z_set ?z_sorted ?z_sum ?z_tuple ?z_zip ?g_MOST_VARIANTS ?g_MOST_BUCKETS ?g_GREATEST_WEIGHT ?i_gcd ?xa_BadValue ?xi_BadValue ?xl_BadValue ?xo_BadValue ?xd_BadValue ?xv_BadValue ?xf_BadValue ?xc_BadValue ?xk_BadValue ?xr_BadValue ?xs_BadValue ?xb_BadValue ?xt_BadValue ?xp_BadValue ?xw_BadValue ?xz_BadValue ?xu_BadValue ?xy_BadValue ?xg_BadValue ?xh_BadValue ?xD_BadValue ?xn_BadValue ?xe_BadValue ?xx_BadValue ?xj_BadValue ?xm_BadValue ?yA_L ?yN_L ?yT_L ?yM_L ?yL_L ?yB_L ?yD_L ?yY_L ?yS_L ?yC_L
    (case a_is_integer => k_is); (case l_is_integer => k_is); (case o_is_integer => k_is); (case k_is_integer => k_is)
    (case a_are_integers => k_is); (case l_are_integers => k_is); (case o_are_integers => k_is); (case k_are_integers => k_is)
    (case a_require => k_is); (case l_require => k_is); (case o_require => k_is); (case k_require => k_is)
    (case a_in_lowest_terms => k_is); (case l_in_lowest_terms => k_is); (case o_in_lowest_terms => k_is); (case k_in_lowest_terms => k_is)
    (case a_is_allocation => k_is); (case l_is_allocation => k_is); (case o_is_allocation => k_is); (case k_is_allocation => k_is)
    (case a_is_bounded_allocation => k_is); (case l_is_bounded_allocation => k_is); (case o_is_bounded_allocation => k_is); (case k_is_bounded_allocation => k_is)
    (case a_is_order => k_is); (case l_is_order => k_is); (case o_is_order => k_is); (case k_is_order => k_is)
    (case a_are_weights => k_is); (case l_are_weights => k_is); (case o_are_weights => k_is); (case k_are_weights => k_is)
    (case a_check_allocation => k_is); (case l_check_allocation => k_is); (case o_check_allocation => k_is); (case k_check_allocation => k_is)
    (case a_check_alike => k_is); (case l_check_alike => k_is); (case o_check_alike => k_is); (case k_check_alike => k_is)
    (case a_check_weighted => k_is); (case l_check_weighted => k_is); (case o_check_weighted => k_is); (case k_check_weighted => k_is)
    (case a_transfer => k_is); (case l_transfer => k_is); (case o_transfer => k_is); (case k_transfer => k_is)
    (case a_medians => k_is); (case l_medians => k_is); (case o_medians => k_is); (case k_medians => k_is)
    (case a_rests_of => k_is); (case l_rests_of => k_is); (case o_rests_of => k_is); (case k_rests_of => k_is)
    (case a_by_largest_rests => k_is); (case l_by_largest_rests => k_is); (case o_by_largest_rests => k_is); (case k_by_largest_rests => k_is)
    (case a_apportioned => k_is); (case l_apportioned => k_is); (case o_apportioned => k_is); (case k_apportioned => k_is)
    (case a_surpluses => k_is); (case l_surpluses => k_is); (case o_surpluses => k_is); (case k_surpluses => k_is)
    (case a_deviation => k_is); (case l_deviation => k_is); (case o_deviation => k_is); (case k_deviation => k_is)
    (case a_is_nearest => k_is); (case l_is_nearest => k_is); (case o_is_nearest => k_is); (case k_is_nearest => k_is)
    (case a_placed => k_is); (case l_placed => k_is); (case o_placed => k_is); (case k_placed => k_is)
    (case a_renamed_shares => k_is); (case l_renamed_shares => k_is); (case o_renamed_shares => k_is); (case k_renamed_shares => k_is)
    (case a_is_assignment => k_is); (case l_is_assignment => k_is); (case o_is_assignment => k_is); (case k_is_assignment => k_is)
    (case a_is_bounded_assignment => k_is); (case l_is_bounded_assignment => k_is); (case o_is_bounded_assignment => k_is); (case k_is_bounded_assignment => k_is)
    (case a_check_assignment => k_is); (case l_check_assignment => k_is); (case o_check_assignment => k_is); (case k_check_assignment => k_is)
    (case a_check_pair => k_is); (case l_check_pair => k_is); (case o_check_pair => k_is); (case k_check_pair => k_is)
    (case a_check_enough => k_is); (case l_check_enough => k_is); (case o_check_enough => k_is); (case k_check_enough => k_is)
    (case a_allocation_of => k_is); (case l_allocation_of => k_is); (case o_allocation_of => k_is); (case k_allocation_of => k_is)
    (case a_churn => k_is); (case l_churn => k_is); (case o_churn => k_is); (case k_churn => k_is)
    (case a_moves => k_is); (case l_moves => k_is); (case o_moves => k_is); (case k_moves => k_is)
    (case a_flows => k_is); (case l_flows => k_is); (case o_flows => k_is); (case k_flows => k_is)
    (case a_buckets_of => k_is); (case l_buckets_of => k_is); (case o_buckets_of => k_is); (case k_buckets_of => k_is)
    (case a_renamed => k_is); (case l_renamed => k_is); (case o_renamed => k_is); (case k_renamed => k_is)
    (case a_rearranged => k_is); (case l_rearranged => k_is); (case o_rearranged => k_is); (case k_rearranged => k_is)
    (case a__law_stream => k_is); (case l__law_stream => k_is); (case o__law_stream => k_is); (case k__law_stream => k_is)
    (case a__law_next => k_is); (case l__law_next => k_is); (case o__law_next => k_is); (case k__law_next => k_is)
    (case a__law_pick => k_is); (case l__law_pick => k_is); (case o__law_pick => k_is); (case k__law_pick => k_is)
    (case a__law_allocation => k_is); (case l__law_allocation => k_is); (case o__law_allocation => k_is); (case k__law_allocation => k_is)
    (case a__law_assignment => k_is); (case l__law_assignment => k_is); (case o__law_assignment => k_is); (case k__law_assignment => k_is)
    (case a__law_order => k_is); (case l__law_order => k_is); (case o__law_order => k_is); (case k__law_order => k_is)
    (case a__law_told => k_is); (case l__law_told => k_is); (case o__law_told => k_is); (case k__law_told => k_is)
    (case a__law_rows => k_is); (case l__law_rows => k_is); (case o__law_rows => k_is); (case k__law_rows => k_is)
    (case a_law => k_is); (case l_law => k_is); (case o_law => k_is); (case k_law => k_is)
    (case z_ValueError => k_is)
    (case z_abs => k_is)
    (case z_all => k_is)
    (case z_bool => k_is)
    (case z_enumerate => k_is)
    (case z_int => k_is)
    (case z_isinstance => k_is)
    (case z_len => k_is)
    (case z_list => k_is)
    (case z_max => k_is)
    (case z_min => k_is)
    (case z_range => k_is)
    (case z_set => k_is)
    (case z_sorted => k_is)
    (case z_sum => k_is)
    (case z_tuple => k_is)
    (case z_zip => k_is)
    (case g_MOST_VARIANTS => k_is)
    (case g_MOST_BUCKETS => k_is)
    (case g_GREATEST_WEIGHT => k_is)
    (case i_gcd => k_is)
    (case xa_BadValue => k_is)
    (case xi_BadValue => k_is)
    (case xl_BadValue => k_is)
    (case xo_BadValue => k_is)
    (case xd_BadValue => k_is)
    (case xv_BadValue => exact rfl)
    (case xf_BadValue => first | rfl | decide +kernel)
    (case xc_BadValue => k_is)
    (case xk_BadValue => k_is)
    (case xr_BadValue => first | rfl | decide +kernel)
    (case xs_BadValue => k_is)
    (case xb_BadValue => k_is)
    (case xt_BadValue => k_is)
    (case xp_BadValue => k_is)
    (case xw_BadValue => k_is)
    (case xz_BadValue => k_is)
    (case xu_BadValue => ks_is)
    (case xy_BadValue => k_is)
    (case xg_BadValue => k_is)
    (case xh_BadValue => k_is)
    (case xD_BadValue => k_is)
    (case xn_BadValue => k_is)
    (case xe_BadValue => k_is)
    (case xx_BadValue => k_is)
    (case xj_BadValue => k_is)
    (case xm_BadValue => first | rfl | decide +kernel)
    (case yA_L => k_is)
    (case yN_L => k_is)
    (case yT_L => k_is)
    (case yM_L => k_is)
    (case yL_L => k_is)
    (case yB_L => k_is)
    (case yD_L => k_is)
    (case yY_L => k_is)
    (case yS_L => k_is)
    (case yC_L => k_is)
