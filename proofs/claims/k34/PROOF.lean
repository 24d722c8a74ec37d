import PyProof.Rows.All
import Wide.All
import OpenK.AllK
import Wide.FinOn
import HandS.ForMost
import HandS.TupAny
import HandS.Zip
import HandS.IsInst
import HandS.Walk
import HandS.SortInts
import HandS.Strs
import HandS.SetFor
import KE.GoesMore
import KE.GoesEnum
import HandS.SortKw
import PyProof.WalksMore
import HandS.Evl
import HandS.Conv
import PyProof.Draws
import KE.KItemsList
import HandS.Gcd
import KE.KMathGC
import HandS.Deep
import PyProof.ListNew
import HandS.GenList
import HandS.Sort
import HandS.ExcInit
import HandS.WordsExc
import HandS.FStr
import KE.KExcSuper
import KE.KSuper
import HandS.ExcOwn
import HandS.ExcField
import HandS.TupMul
import HandS.Style
import PyProof.CallType
import PyProof.P3In
import PyProof.Rows.SeqMore
import KE.SortData
import KE.SortLaws
import KE.SortKeyHeap
import HandS.WordsDict
import PySem.Challenge.RW_leastmoved_k34_refusals_of_triples
set_option Elab.async false
set_option linter.all false
set_option maxRecDepth 100000
set_option maxHeartbeats 4000000
namespace Lm
open PySem PySem.Spec PyProof.Rows L2

/-- what is around: the written part, and (perhaps) the stream with the script's copy -/
structure Ct where
  K : PySem.W.Frag
  so : Option (Addr × Addr)
def okA (c : Ct) (a : Addr) : Prop := ∀ st l, c.so = some (st, l) → a ≠ st
/-- the stream at st: a copy of the script at l, a cell, a place -/
def Str1 (K : PySem.W.Frag) (st l : Addr) (H : Hp) : Prop :=
  ∃ (ns : List Int) (x k : Int), H st = some (.lst [.ref l, .int x, .int k]) ∧ H l = some (.lst (ns.map V.int)) ∧ l ≠ st ∧ 0 ≤ k
def Ji (c : Ct) (H : Hp) : Prop := ∀ st l, c.so = some (st, l) → Str1 c.K st l H
def Rr (c : Ct) (H H' : Hp) : Prop := (∀ a o, okA c a → H a = some o → H' a = some o) ∧ (Ji c H → Ji c H')
variable {c : Ct} {H H' H0 H1 H2 H3 : Hp}
theorem Rr.rf : Rr c H H := ⟨fun _ _ _ h => h, fun h => h⟩
theorem Rr.tr (a : Rr c H H1) (b : Rr c H1 H2) : Rr c H H2 := ⟨fun x o k h => b.1 x o k (a.1 x o k h), fun h => b.2 (a.2 h)⟩
theorem Ji.same (j : Ji c H) (e : Same H H') : Ji c H' := fun st l h => by
  obtain ⟨ns, x, k, h1, h2, h3, h4⟩ := j st l h
  exact ⟨ns, x, k, e _ _ h1, e _ _ h2, h3, h4⟩
theorem Rr.same (e : Same H H') : Rr c H H' := ⟨fun x o _ h => e x o h, fun j => j.same e⟩
theorem okA.fresh (j : Ji c H) {p : Addr} (h : H p = none) : okA c p := fun st l e z => by
  obtain ⟨ns, x, k, h1, _⟩ := j st l e
  rw [z, h1] at h
  cases h
theorem okA.tup (j : Ji c H) {p : Addr} {o : HO} (h : H p = some o) (n : ∀ xs, o ≠ .lst xs) : okA c p := fun st l e z => by
  obtain ⟨ns, x, k, h1, _⟩ := j st l e
  rw [z, h1] at h
  exact n _ (Option.some.inj h).symm
theorem Rr.back (r : Rr c H H') (j : Ji c H) {p : Addr} (h : H' p = none) : H p = none := by
  cases q : H p with
  | none => rfl
  | some o =>
    have k : okA c p := fun st l e z => by
      obtain ⟨ns, x, k, h1, _⟩ := r.2 j st l e
      rw [z, h1] at h
      cases h
    rw [r.1 p o k q] at h
    cases h
/-- a tuple (one that has no dict of its own) -/
def TpN (K : PySem.W.Frag) (H : Hp) (a : Addr) (xs : List V) : Prop :=
  (∃ o : Obj, o.dict = none ∧ H a = some (.frz o (.tup xs))) ∨
    ∃ (o : Obj) (its : Array Value) (n : Nat), K.lookup a = some o ∧ o.cls = .type "tuple" ∧ o.dict = none ∧ o.data = .seq its n ∧ its.size ≤ sizeLine ∧ Vals xs its.toList
theorem TpN.sq {K : PySem.W.Frag} {a : Addr} {xs : List V} (h : TpN K H a xs) : SqT K H a xs := by
  rcases h with ⟨o, _, h⟩ | ⟨o, its, n, h1, h2, _, h3, h4, h5⟩
  · exact .inl (.inr ⟨o, h⟩)
  · exact .inr ⟨o, its, n, h1, h2, h3, h4, h5⟩
theorem Rr.tup (r : Rr c H H') (j : Ji c H) {a : Addr} {xs : List V} (h : TpN c.K H a xs) : TpN c.K H' a xs := by
  rcases h with ⟨o, q, h⟩ | h
  · exact .inl ⟨o, q, r.1 _ _ (okA.tup j h (fun _ => by simp)) h⟩
  · exact .inr h
theorem Rr.lst (r : Rr c H H') {a : Addr} {xs : List V} (k : okA c a) (h : SqL c.K H a xs) : SqL c.K H' a xs := by
  rcases h with (h | ⟨o, h⟩) | h
  · exact .inl (.inl (r.1 _ _ k h))
  · exact .inl (.inr ⟨o, r.1 _ _ k h⟩)
  · exact .inr h

/-! ### values as data: ints, texts, tuples; lists whose addresses are not the stream's -/
mutual
inductive Bo (c : Ct) (H : Hp) : V → PyData → Prop
  | non : Bo c H .non .none
  | bl (b : Bool) : Bo c H (.bl b) (.bool b)
  | int (i : Int) : Bo c H (.int i) (.int i)
  | str (x : Str) : Bo c H (.str x) (.str x)
  | lst {a : Addr} {xs : List V} {ds : List PyData} : okA c a → SqL c.K H a xs → BoAll c H xs ds → Bo c H (.ref a) (.list ds)
  | tup {a : Addr} {xs : List V} {ds : List PyData} : TpN c.K H a xs → BoAll c H xs ds → Bo c H (.ref a) (.tuple ds)
inductive BoAll (c : Ct) (H : Hp) : List V → List PyData → Prop
  | nil : BoAll c H [] []
  | cons {v : V} {vs : List V} {d : PyData} {ds : List PyData} : Bo c H v d → BoAll c H vs ds → BoAll c H (v :: vs) (d :: ds)
end
mutual
theorem Bo.up (h : ∀ a xs, TpN c.K H a xs → TpN c.K H' a xs) (g : ∀ a xs, okA c a → SqL c.K H a xs → SqL c.K H' a xs) : ∀ {v : V} {d : PyData}, Bo c H v d → Bo c H' v d
  | _, _, .non => .non
  | _, _, .bl b => .bl b
  | _, _, .int b => .int b
  | _, _, .str b => .str b
  | _, _, .lst k s a => .lst k (g _ _ k s) (BoAll.up h g a)
  | _, _, .tup s a => .tup (h _ _ s) (BoAll.up h g a)
theorem BoAll.up (h : ∀ a xs, TpN c.K H a xs → TpN c.K H' a xs) (g : ∀ a xs, okA c a → SqL c.K H a xs → SqL c.K H' a xs) : ∀ {v : List V} {d : List PyData}, BoAll c H v d → BoAll c H' v d
  | _, _, .nil => .nil
  | _, _, .cons a b => .cons (Bo.up h g a) (BoAll.up h g b)
end
theorem Bo.mono (j : Ji c H) (r : Rr c H H') {v : V} {d : PyData} (h : Bo c H v d) : Bo c H' v d := h.up (fun _ _ s => r.tup j s) (fun _ _ k s => r.lst k s)
theorem BoAll.mono (j : Ji c H) (r : Rr c H H') {v : List V} {d : List PyData} (h : BoAll c H v d) : BoAll c H' v d := h.up (fun _ _ s => r.tup j s) (fun _ _ k s => r.lst k s)
theorem sqT_same {K : PySem.W.Frag} (e : Same H H') {a : Addr} {xs : List V} (h : TpN K H a xs) : TpN K H' a xs := by
  rcases h with ⟨o, q, h⟩ | h
  · exact .inl ⟨o, q, e _ _ h⟩
  · exact .inr h
theorem Bo.same (e : Same H H') {v : V} {d : PyData} (h : Bo c H v d) : Bo c H' v d := h.up (fun _ _ s => sqT_same e s) (fun _ _ k s => e.seq s)
theorem BoAll.same (e : Same H H') {v : List V} {d : List PyData} (h : BoAll c H v d) : BoAll c H' v d := h.up (fun _ _ s => sqT_same e s) (fun _ _ k s => e.seq s)
theorem BoAll.len : ∀ {v : List V} {d : List PyData}, BoAll c H v d → v.length = d.length
  | _, _, .nil => rfl
  | _, _, .cons _ b => by simp [BoAll.len b]
theorem BoAll.get : ∀ {v : List V} {d : List PyData} {i : Nat} {x : V}, BoAll c H v d → v[i]? = some x → ∃ e, d[i]? = some e ∧ Bo c H x e
  | _, _, _, _, .nil, h => by simp at h
  | _, _, 0, x, .cons a b, h => by
    have e : _ = x := Option.some.inj h
    subst e
    exact ⟨_, rfl, a⟩
  | _, _, i + 1, x, .cons a b, h => BoAll.get (i := i) b (by simpa using h)
theorem BoAll.gets : ∀ {v : List V} {d : List PyData} {i : Nat} {e : PyData}, BoAll c H v d → d[i]? = some e → ∃ x, v[i]? = some x ∧ Bo c H x e
  | _, _, _, _, .nil, h => by simp at h
  | _, _, 0, x, .cons a b, h => by
    have e : _ = x := Option.some.inj h
    subst e
    exact ⟨_, rfl, a⟩
  | _, _, i + 1, x, .cons a b, h => BoAll.gets (i := i) b (by simpa using h)
theorem BoAll.app : ∀ {v w : List V} {d e : List PyData}, BoAll c H v d → BoAll c H w e → BoAll c H (v ++ w) (d ++ e)
  | _, _, _, _, .nil, b => b
  | _, _, _, _, .cons a r, b => .cons a (BoAll.app r b)
theorem BoAll.set : ∀ {v : List V} {d : List PyData} {i : Nat} {x : V} {e : PyData}, BoAll c H v d → Bo c H x e → BoAll c H (v.set i x) (d.set i e)
  | _, _, _, _, _, .nil, b => .nil
  | _, _, 0, _, _, .cons a r, b => .cons b r
  | _, _, i + 1, _, _, .cons a r, b => .cons a (BoAll.set r b)
theorem BoAll.take : ∀ {v : List V} {d : List PyData} (i : Nat), BoAll c H v d → BoAll c H (v.take i) (d.take i)
  | _, _, 0, _ => .nil
  | _, _, i + 1, .nil => .nil
  | _, _, i + 1, .cons a b => .cons a (BoAll.take i b)
theorem BoAll.drop : ∀ {v : List V} {d : List PyData} (i : Nat), BoAll c H v d → BoAll c H (v.drop i) (d.drop i)
  | _, _, 0, h => h
  | _, _, i + 1, .nil => .nil
  | _, _, i + 1, .cons a b => BoAll.drop i b
theorem Bo.int' {v : V} {i : Int} (h : Bo c H v (.int i)) : v = .int i := by cases h; rfl
theorem Bo.bl' {v : V} {i : Bool} (h : Bo c H v (.bool i)) : v = .bl i := by cases h; rfl
theorem Bo.non' {v : V} (h : Bo c H v .none) : v = .non := by cases h; rfl
theorem Bo.str' {v : V} {i : Str} (h : Bo c H v (.str i)) : v = .str i := by cases h; rfl
theorem Bo.tup' {v : V} {ds : List PyData} (h : Bo c H v (.tuple ds)) : ∃ a xs, v = .ref a ∧ TpN c.K H a xs ∧ BoAll c H xs ds := by cases h with | tup s a => exact ⟨_, _, rfl, s, a⟩
theorem Bo.lst' {v : V} {ds : List PyData} (h : Bo c H v (.list ds)) : ∃ a xs, v = .ref a ∧ okA c a ∧ SqL c.K H a xs ∧ BoAll c H xs ds := by cases h with | lst k s a => exact ⟨_, _, rfl, k, s, a⟩
theorem BoAll.ints : ∀ {v : List V} {ns : List Int}, BoAll c H v (ns.map PyData.int) → v = ns.map V.int
  | v, [], h => by cases h; rfl
  | v, n :: ns, h => by
    cases h with
    | cons a b => rw [a.int', BoAll.ints b]; rfl
theorem BoAll.ofInts : ∀ (ns : List Int), BoAll c H (ns.map V.int) (ns.map PyData.int)
  | [] => .nil
  | n :: ns => .cons (.int n) (BoAll.ofInts ns)
theorem BoAll.bools : ∀ {v : List V} {ns : List Bool}, BoAll c H v (ns.map PyData.bool) → v = ns.map V.bl
  | v, [], h => by cases h; rfl
  | v, n :: ns, h => by
    cases h with
    | cons a b => rw [a.bl', BoAll.bools b]; rfl
mutual
theorem Bo.dp : ∀ {v : V} {d : PyData}, Bo c H v d → Dp c.K H v d
  | _, _, .non => .non
  | _, _, .bl b => .bl b
  | _, _, .int b => .int b
  | _, _, .str b => .str b
  | _, _, .lst _ s a => .lst s (BoAll.dp a)
  | _, _, .tup s a => .tup s.sq (BoAll.dp a)
theorem BoAll.dp : ∀ {v : List V} {d : List PyData}, BoAll c H v d → DpAll c.K H v d
  | _, _, .nil => .nil
  | _, _, .cons a b => .cons (Bo.dp a) (BoAll.dp b)
end
/-! no stream, no care -/
mutual
theorem Bo.pure : ∀ {v : V} {d : PyData}, Bo c H v d → Bo ⟨c.K, none⟩ H v d
  | _, _, .non => .non
  | _, _, .bl b => .bl b
  | _, _, .int b => .int b
  | _, _, .str b => .str b
  | _, _, .lst _ s a => .lst (fun _ _ e => nomatch e) s (BoAll.pure a)
  | _, _, .tup s a => .tup s (BoAll.pure a)
theorem BoAll.pure : ∀ {v : List V} {d : List PyData}, BoAll c H v d → BoAll ⟨c.K, none⟩ H v d
  | _, _, .nil => .nil
  | _, _, .cons a b => .cons (Bo.pure a) (BoAll.pure b)
end
/-! data without lists -/
mutual
def flatD : PyData → Bool
  | .none => true
  | .bool _ => true
  | .int _ => true
  | .str _ => true
  | .tuple ds => flatAll ds
  | _ => false
def flatAll : List PyData → Bool
  | [] => true
  | d :: ds => flatD d && flatAll ds
end
theorem flatAll_ints (ns : List Int) : flatAll (ns.map PyData.int) = true := by
  induction ns with
  | nil => rfl
  | cons n ns ih =>
    show (flatD (.int n) && flatAll (ns.map PyData.int)) = true
    rw [ih]
    rfl
theorem flatAll_mem {ds : List PyData} (h : ∀ d ∈ ds, flatD d = true) : flatAll ds = true := by
  induction ds with
  | nil => rfl
  | cons d ds ih =>
    show (flatD d && flatAll ds) = true
    rw [h d (by simp), ih fun e he => h e (by simp [he])]
    rfl
mutual
theorem Bo.flat {c' : Ct} (hk : c'.K = c.K) : ∀ {v : V} {d : PyData}, flatD d = true → Bo c H v d → Bo c' H v d
  | _, _, _, .non => .non
  | _, _, _, .bl b => .bl b
  | _, _, _, .int b => .int b
  | _, _, _, .str b => .str b
  | _, _, q, .lst _ s a => by simp [flatD] at q
  | _, _, q, .tup s a => .tup (by rw [hk]; exact s) (BoAll.flat hk (by simpa [flatD] using q) a)
theorem BoAll.flat {c' : Ct} (hk : c'.K = c.K) : ∀ {v : List V} {d : List PyData}, flatAll d = true → BoAll c H v d → BoAll c' H v d
  | _, _, _, .nil => .nil
  | _, _, q, .cons a b => by
    have q' : (flatD _ && flatAll _) = true := q
    rw [Bool.and_eq_true] at q'
    exact .cons (Bo.flat hk q'.1 a) (BoAll.flat hk q'.2 b)
end

/-! ### the heap without some addresses -/
def mns (H : Hp) (O : List Addr) : Hp := fun a => if a ∈ O then none else H a
theorem mns_in {O : List Addr} {a : Addr} (h : a ∈ O) : mns H O a = none := if_pos h
theorem mns_out {O : List Addr} {a : Addr} (h : a ∉ O) : mns H O a = H a := if_neg h
theorem mns_same {O : List Addr} : Same (mns H O) H := fun a o h => by
  by_cases q : a ∈ O
  · rw [mns_in q] at h; cases h
  · rw [mns_out q] at h; exact h
theorem mns_some {O : List Addr} {a : Addr} {o : HO} (h : mns H O a = some o) : a ∉ O ∧ H a = some o := by
  by_cases q : a ∈ O
  · rw [mns_in q] at h; cases h
  · rw [mns_out q] at h; exact ⟨q, h⟩
theorem mns_sub {O O' : List Addr} (s : ∀ a, a ∈ O' → a ∈ O) : Same (mns H O) (mns H O') := fun a o h => by
  obtain ⟨q, h⟩ := mns_some h
  rw [mns_out (fun z => q (s a z))]
  exact h
theorem mns_nil : mns H [] = H := by
  funext a
  exact mns_out (by simp)
theorem Rr.mns {O : List Addr} (r : Rr c H H') (j : Ji c (mns H O)) (q : ∀ a ∈ O, okA c a) : Rr c (mns H O) (mns H' O) := by
  refine ⟨fun a o k h => ?_, fun _ st l e => ?_⟩
  · obtain ⟨n, h⟩ := mns_some h
    rw [mns_out n]
    exact r.1 a o k h
  · obtain ⟨ns, x, k, h1, h2, h3, h4⟩ := j st l e
    obtain ⟨n1, h1⟩ := mns_some h1
    obtain ⟨n2, h2⟩ := mns_some h2
    have jH : Ji c H := j.same mns_same
    obtain ⟨ns', x', k', g1, g2, g3, g4⟩ := r.2 jH st l e
    refine ⟨ns', x', k', ?_, ?_, g3, g4⟩
    · rw [mns_out n1]; exact g1
    · rw [mns_out n2]; exact g2
end Lm


namespace Lm
open PySem PySem.Spec PyProof.Rows L2
variable {c : Ct} {H H' H0 H1 H2 H3 : Hp} {O : List Addr}

/-! flat data leans on tuples alone -/
mutual
theorem Bo.flatTo {c' : Ct} (h : ∀ a xs, TpN c.K H a xs → TpN c'.K H' a xs) : ∀ {v : V} {d : PyData}, flatD d = true → Bo c H v d → Bo c' H' v d
  | _, _, _, .non => .non
  | _, _, _, .bl b => .bl b
  | _, _, _, .int b => .int b
  | _, _, _, .str b => .str b
  | _, _, q, .lst _ s a => by simp [flatD] at q
  | _, _, q, .tup s a => .tup (h _ _ s) (BoAll.flatTo h (by simpa [flatD] using q) a)
theorem BoAll.flatTo {c' : Ct} (h : ∀ a xs, TpN c.K H a xs → TpN c'.K H' a xs) : ∀ {v : List V} {d : List PyData}, flatAll d = true → BoAll c H v d → BoAll c' H' v d
  | _, _, _, .nil => .nil
  | _, _, q, .cons a b => by
    have q' : (flatD _ && flatAll _) = true := q
    rw [Bool.and_eq_true] at q'
    exact .cons (Bo.flatTo h q'.1 a) (BoAll.flatTo h q'.2 b)
end
/-- what may be written -/
def OwnU : HO → Prop
  | .lst _ => True
  | .dK _ => True
  | .dT _ => True
  | .set _ _ => True
  | _ => False
theorem sqT_mns {K : PySem.W.Frag} (hO : ∀ a ∈ O, ∃ u, H a = some u ∧ OwnU u) {a : Addr} {xs : List V} (h : TpN K H a xs) : TpN K (mns H O) a xs := by
  have n : ∀ u, H a = some u → ¬ OwnU u → mns H O a = some u := fun u e k => by
    have : a ∉ O := fun z => by
      obtain ⟨y, q, w⟩ := hO a z
      rw [q] at e
      exact k (Option.some.inj e ▸ w)
    rw [mns_out this]; exact e
  rcases h with ⟨o, q, h⟩ | h
  · exact .inl ⟨o, q, n _ h fun w => w⟩
  · exact .inr h
theorem sqT_updO {K : PySem.W.Frag} {p : Addr} {y o : HO} (hp : H p = some y) (hy : OwnU y) {a : Addr} {xs : List V} (h : TpN K H a xs) : TpN K (upd H p o) a xs := by
  have n : ∀ u, H a = some u → ¬ OwnU u → upd H p o a = some u := fun u e k => by
    have : a ≠ p := fun z => by
      rw [z, hp] at e
      exact k (Option.some.inj e ▸ hy)
    rw [upd_ne this]; exact e
  rcases h with ⟨o, q, h⟩ | h
  · exact .inl ⟨o, q, n _ h fun w => w⟩
  · exact .inr h
theorem sqT_upd {K : PySem.W.Frag} {p : Addr} {zs : List V} {o : HO} (hp : H p = some (.lst zs)) {a : Addr} {xs : List V} (h : TpN K H a xs) : TpN K (upd H p o) a xs := by
  have n : ∀ u, H a = some u → (∀ ys, u ≠ .lst ys) → upd H p o a = some u := fun u e k => by
    have : a ≠ p := fun z => by
      rw [z, hp] at e
      exact k zs (Option.some.inj e).symm
    rw [upd_ne this]; exact e
  rcases h with ⟨o, q, h⟩ | h
  · exact .inl ⟨o, q, n _ h fun _ => by simp⟩
  · exact .inr h

/-! ### lists of one's own: the addresses that may be written -/
mutual
inductive Fo (c : Ct) (H : Hp) : V → PyData → List Addr → Prop
  | leaf {v : V} {d : PyData} : flatD d = true → Bo c H v d → Fo c H v d []
  | lst {a : Addr} {xs : List V} {ds : List PyData} {fp : List Addr} : H a = some (.lst xs) → FoAll c H xs ds fp → Fo c H (.ref a) (.list ds) (a :: fp)
inductive FoAll (c : Ct) (H : Hp) : List V → List PyData → List Addr → Prop
  | nil : FoAll c H [] [] []
  | cons {v : V} {vs : List V} {d : PyData} {ds : List PyData} {f fs : List Addr} : Fo c H v d f → FoAll c H vs ds fs → FoAll c H (v :: vs) (d :: ds) (f ++ fs)
end
mutual
theorem Fo.up (h : ∀ a xs, TpN c.K H a xs → TpN c.K H' a xs) : ∀ {v : V} {d : PyData} {fp : List Addr}, (∀ a ∈ fp, ∀ o, H a = some o → H' a = some o) → Fo c H v d fp → Fo c H' v d fp
  | _, _, _, _, .leaf q b => .leaf q (b.flatTo h q)
  | _, _, _, k, .lst e a => .lst (k _ (by simp) _ e) (FoAll.up h (fun b hb => k b (by simp [hb])) a)
theorem FoAll.up (h : ∀ a xs, TpN c.K H a xs → TpN c.K H' a xs) : ∀ {v : List V} {d : List PyData} {fp : List Addr}, (∀ a ∈ fp, ∀ o, H a = some o → H' a = some o) → FoAll c H v d fp → FoAll c H' v d fp
  | _, _, _, _, .nil => .nil
  | _, _, _, k, .cons a b => .cons (Fo.up h (fun x hx => k x (by simp [hx])) a) (FoAll.up h (fun x hx => k x (by simp [hx])) b)
end
mutual
theorem Fo.bo : ∀ {v : V} {d : PyData} {fp : List Addr}, (∀ a ∈ fp, okA c a) → Fo c H v d fp → Bo c H v d
  | _, _, _, _, .leaf _ b => b
  | _, _, _, k, .lst e a => .lst (k _ (by simp)) (.inl (.inl e)) (FoAll.bo (fun b hb => k b (by simp [hb])) a)
theorem FoAll.bo : ∀ {v : List V} {d : List PyData} {fp : List Addr}, (∀ a ∈ fp, okA c a) → FoAll c H v d fp → BoAll c H v d
  | _, _, _, _, .nil => .nil
  | _, _, _, k, .cons a b => .cons (Fo.bo (fun x hx => k x (by simp [hx])) a) (FoAll.bo (fun x hx => k x (by simp [hx])) b)
end
theorem FoAll.leaves : ∀ {v : List V} {d : List PyData}, flatAll d = true → BoAll c H v d → FoAll c H v d []
  | _, _, _, .nil => .nil
  | _, _, q, .cons a b => by
    have q' : (flatD _ && flatAll _) = true := q
    rw [Bool.and_eq_true] at q'
    exact .cons (f := []) (fs := []) (.leaf q'.1 a) (FoAll.leaves q'.2 b)
mutual
theorem Fo.isL : ∀ {v : V} {d : PyData} {fp : List Addr}, Fo c H v d fp → ∀ a ∈ fp, ∃ xs, H a = some (.lst xs)
  | _, _, _, .leaf _ _, a, h => by simp at h
  | _, _, _, .lst e f, a, h => by
    rcases List.mem_cons.mp h with q | q
    · rw [q]; exact ⟨_, e⟩
    · exact FoAll.isL f a q
theorem FoAll.isL : ∀ {v : List V} {d : List PyData} {fp : List Addr}, FoAll c H v d fp → ∀ a ∈ fp, ∃ xs, H a = some (.lst xs)
  | _, _, _, .nil, a, h => by simp at h
  | _, _, _, .cons e f, a, h => by
    rcases List.mem_append.mp h with q | q
    · exact Fo.isL e a q
    · exact FoAll.isL f a q
end
theorem FoAll.app : ∀ {v w : List V} {d e : List PyData} {f g : List Addr}, FoAll c H v d f → FoAll c H w e g → FoAll c H (v ++ w) (d ++ e) (f ++ g)
  | _, _, _, _, _, _, .nil, b => b
  | _, _, _, _, _, _, .cons a r, b => by
    rw [List.append_assoc]
    exact .cons a (FoAll.app r b)
/-- a flat list of one's own -/
theorem Fo.list' {v : V} {ds : List PyData} {fp : List Addr} (h : Fo c H v (.list ds) fp) : ∃ a xs f, v = .ref a ∧ fp = a :: f ∧ H a = some (.lst xs) ∧ FoAll c H xs ds f := by
  cases h with
  | leaf q _ => simp [flatD] at q
  | lst e a => exact ⟨_, _, _, rfl, rfl, e, a⟩
theorem FoAll.flat0 : ∀ {v : List V} {d : List PyData} {f : List Addr}, flatAll d = true → FoAll c H v d f → f = [] ∧ BoAll c H v d
  | _, _, _, _, .nil => ⟨rfl, .nil⟩
  | _, _, _, q, .cons a b => by
    have q' : (flatD _ && flatAll _) = true := q
    rw [Bool.and_eq_true] at q'
    obtain ⟨e1, b1⟩ := FoAll.flat0 q'.2 b
    cases a with
    | leaf _ x => exact ⟨by rw [e1]; rfl, .cons x b1⟩
    | lst _ _ => simp [flatD] at q'

/-! ### what the slots hold -/
inductive Rs where
  /-- a value that will not change -/
  | v (d : PyData)
  /-- a list of one's own -/
  | o (d : PyData)
  /-- this very value -/
  | r (x : V)
  /-- a dict or set of one's own -/
  | d (u : HO)
  /-- a list of one's own whose items stay -/
  | w (ds : List PyData)
def RepO (c : Ct) (O : List Addr) (H : Hp) (x : Option V) : Option Rs → List Addr → Prop
  | none, fp => fp = []
  | some (.v d), fp => fp = [] ∧ ∃ v, x = some v ∧ Bo c (mns H O) v d
  | some (.o d), fp => ∃ v, x = some v ∧ Fo c H v d fp
  | some (.r y), fp => fp = [] ∧ x = some y
  | some (.d u), fp => ∃ a, fp = [a] ∧ x = some (.ref a) ∧ H a = some u ∧ OwnU u
  | some (.w ds), fp => ∃ a xs, fp = [a] ∧ x = some (.ref a) ∧ H a = some (.lst xs) ∧ BoAll c (mns H O) xs ds
inductive Reps (c : Ct) (O : List Addr) (H : Hp) : L2.St → List (Option Rs) → List Addr → Prop
  | nil : Reps c O H [] [] []
  | cons {x : Option V} {s : Option Rs} {f fs : List Addr} {σ : L2.St} {Γ : List (Option Rs)} : RepO c O H x s f → Reps c O H σ Γ fs → Reps c O H (x :: σ) (s :: Γ) (f ++ fs)
theorem Reps.len {σ : L2.St} {Γ : List (Option Rs)} {fp : List Addr} (h : Reps c O H σ Γ fp) : σ.length = Γ.length := by
  induction h with
  | nil => rfl
  | cons _ _ ih => simp [ih]
theorem Reps.map {O' : List Addr} {σ : L2.St} {Γ : List (Option Rs)} {fp : List Addr} (h : Reps c O H σ Γ fp) (k : ∀ x s f, (∀ a ∈ f, a ∈ fp) → RepO c O H x s f → RepO c O' H' x s f) : Reps c O' H' σ Γ fp := by
  induction h with
  | nil => exact .nil
  | cons a b ih => exact .cons (k _ _ _ (fun x hx => by simp [hx]) a) (ih fun x s f q => k x s f fun y hy => by simp [q y hy])
/-- the i-th slot, and how it is changed -/
theorem Reps.nth {σ : L2.St} {Γ : List (Option Rs)} {fp : List Addr} (h : Reps c O H σ Γ fp) : ∀ {i : Nat} {s : Option Rs}, Γ[i]? = some s →
    ∃ x f pre post, σ[i]? = some x ∧ RepO c O H x s f ∧ fp = pre ++ (f ++ post) ∧
      ∀ (O' : List Addr) (H' : Hp) (x' : Option V) (s' : Option Rs) (f' : List Addr), (∀ y t g, (∀ a ∈ g, a ∈ pre ++ post) → RepO c O H y t g → RepO c O' H' y t g) → RepO c O' H' x' s' f' → Reps c O' H' (σ.set i x') (Γ.set i s') (pre ++ (f' ++ post)) := by
  induction h with
  | nil => intro i s e; simp at e
  | cons a b ih =>
    rename_i x0 s0 f0 fs0 σ0 Γ0
    intro i s e
    cases i with
    | zero =>
      have e' : s0 = s := by simpa using e
      subst e'
      refine ⟨x0, f0, [], fs0, rfl, a, rfl, fun O' H' x' s' f' k r => ?_⟩
      show Reps c O' H' (x' :: σ0) (s' :: Γ0) (f' ++ fs0)
      exact .cons r (b.map fun y t g q z => k y t g (fun u hu => by simpa using q u hu) z)
    | succ i =>
      obtain ⟨x, f, pre, post, h1, h2, h3, h4⟩ := ih (i := i) (by simpa using e)
      refine ⟨x, f, f0 ++ pre, post, by simpa using h1, h2, by rw [h3]; simp, fun O' H' x' s' f' k r => ?_⟩
      have := h4 O' H' x' s' f' (fun y t g q z => k y t g (fun u hu => by have := q u hu; simp at this ⊢; rcases this with w | w <;> simp [w]) z) r
      rw [List.append_assoc]
      exact .cons (k _ _ _ (fun u hu => by simp [hu]) a) this

/-- the entry's heap H0, the addresses of one's own O, the heap H, the slots σ and what they hold -/
structure Env (c : Ct) (H0 : Hp) (O : List Addr) (H : Hp) (σ : L2.St) (Γ : List (Option Rs)) : Prop where
  r0 : Rr c H0 (mns H O)
  j : Ji c (mns H O)
  fr : ∀ a ∈ O, H0 a = none
  dm : ∀ a ∈ O, ∃ u, H a = some u ∧ OwnU u
  rep : ∃ fp, Reps c O H σ Γ fp ∧ fp.Nodup ∧ ∀ a ∈ fp, a ∈ O
variable {σ : L2.St} {Γ : List (Option Rs)}
theorem Env.jH (e : Env c H0 O H σ Γ) : Ji c H := e.j.same mns_same
theorem Env.okO (e : Env c H0 O H σ Γ) : ∀ a ∈ O, okA c a := fun a ha st l q z => by
  obtain ⟨ns, x, k, h1, _⟩ := e.j st l q
  rw [← z, mns_in ha] at h1
  cases h1
theorem Env.rH (e : Env c H0 O H σ Γ) : Rr c H0 H := e.r0.tr (Rr.same mns_same)
theorem Env.len (e : Env c H0 O H σ Γ) : σ.length = Γ.length := let ⟨_, h, _⟩ := e.rep; h.len
/-- the heap goes on -/
theorem Env.on (e : Env c H0 O H σ Γ) (r : Rr c H H') : Env c H0 O H' σ Γ := by
  have rm := r.mns e.j e.okO
  refine ⟨e.r0.tr rm, rm.2 e.j, e.fr, fun a ha => ?_, ?_⟩
  · obtain ⟨u, q, w⟩ := e.dm a ha
    exact ⟨u, r.1 a _ (e.okO a ha) q, w⟩
  · obtain ⟨fp, h, nd, sub⟩ := e.rep
    refine ⟨fp, h.map fun x s f q z => ?_, nd, sub⟩
    cases s with
    | none => exact z
    | some s =>
      cases s with
      | v d => exact ⟨z.1, z.2.elim fun v hv => ⟨v, hv.1, hv.2.mono e.j rm⟩⟩
      | o d => exact z.elim fun v hv => ⟨v, hv.1, hv.2.up (fun _ _ s => r.tup e.jH s) fun a ha o ho => r.1 a o (e.okO a (sub a (q a ha))) ho⟩
      | r y => exact z
      | d u => exact z.elim fun a ⟨w1, w2, w3, w4⟩ => ⟨a, w1, w2, r.1 a _ (e.okO a (sub a (q a (by rw [w1]; simp)))) w3, w4⟩
      | w ds => exact z.elim fun a ⟨xs, w1, w2, w3, w4⟩ => ⟨a, xs, w1, w2, r.1 a _ (e.okO a (sub a (q a (by rw [w1]; simp)))) w3, w4.mono e.j rm⟩
theorem Env.slotV (e : Env c H0 O H σ Γ) {i : Nat} {d : PyData} (h : Γ[i]? = some (some (.v d))) : ∃ v, σ[i]? = some (some v) ∧ Bo c (mns H O) v d := by
  obtain ⟨fp, hr, nd, sub⟩ := e.rep
  obtain ⟨x, f, pre, post, h1, h2, h3, h4⟩ := hr.nth h
  obtain ⟨v, hv, b⟩ := h2.2
  subst hv
  exact ⟨v, h1, b⟩
theorem Env.slotO (e : Env c H0 O H σ Γ) {i : Nat} {d : PyData} (h : Γ[i]? = some (some (.o d))) : ∃ v fp, σ[i]? = some (some v) ∧ Fo c H v d fp ∧ fp.Nodup ∧ ∀ a ∈ fp, a ∈ O := by
  obtain ⟨fp, hr, nd, sub⟩ := e.rep
  obtain ⟨x, f, pre, post, h1, h2, h3, h4⟩ := hr.nth h
  obtain ⟨v, hv, b⟩ := h2
  subst hv
  subst h3
  have n2 := (List.nodup_append.mp nd).2.1
  exact ⟨v, f, h1, b, (List.nodup_append.mp n2).1, fun a ha => sub a (by simp [ha])⟩
theorem Env.slotR (e : Env c H0 O H σ Γ) {i : Nat} {y : V} (h : Γ[i]? = some (some (.r y))) : σ[i]? = some (some y) := by
  obtain ⟨fp, hr, nd, sub⟩ := e.rep
  obtain ⟨x, f, pre, post, h1, h2, h3, h4⟩ := hr.nth h
  have hy : x = some y := h2.2
  rw [h1, hy]
/-- any slot is given another value that does not change -/
theorem Env.setV (e : Env c H0 O H σ Γ) {i : Nat} {v : V} {d : PyData} (b : Bo c (mns H O) v d) : Env c H0 O H (σ.set i (some v)) (Γ.set i (some (.v d))) := by
  refine ⟨e.r0, e.j, e.fr, e.dm, ?_⟩
  obtain ⟨fp, hr, nd, sub⟩ := e.rep
  by_cases hi : i < Γ.length
  · obtain ⟨x, f, pre, post, h1, h2, h3, h4⟩ := hr.nth (s := Γ[i]) (List.getElem?_eq_getElem hi)
    subst h3
    refine ⟨pre ++ ([] ++ post), h4 O H _ _ [] (fun _ _ _ _ z => z) ⟨rfl, v, rfl, b⟩, ?_, fun a ha => sub a ?_⟩
    · refine nd.sublist ?_
      simp
    · simp at ha ⊢
      rcases ha with q | q <;> simp [q]
  · have hs : ¬ i < σ.length := by rw [hr.len]; exact hi
    rw [List.set_eq_of_length_le (by omega), List.set_eq_of_length_le (by omega)]
    exact ⟨fp, hr, nd, sub⟩
/-- a slot is forgotten, whatever it holds then -/
theorem Env.setN (e : Env c H0 O H σ Γ) {i : Nat} {x : Option V} : Env c H0 O H (σ.set i x) (Γ.set i none) := by
  refine ⟨e.r0, e.j, e.fr, e.dm, ?_⟩
  obtain ⟨fp, hr, nd, sub⟩ := e.rep
  by_cases hi : i < Γ.length
  · obtain ⟨y, f, pre, post, h1, h2, h3, h4⟩ := hr.nth (s := Γ[i]) (List.getElem?_eq_getElem hi)
    subst h3
    refine ⟨pre ++ ([] ++ post), h4 O H _ _ [] (fun _ _ _ _ z => z) rfl, ?_, fun a ha => sub a ?_⟩
    · refine nd.sublist ?_
      simp
    · simp at ha ⊢
      rcases ha with q | q <;> simp [q]
  · have hs : ¬ i < σ.length := by rw [hr.len]; exact hi
    rw [List.set_eq_of_length_le (by omega), List.set_eq_of_length_le (by omega)]
    exact ⟨fp, hr, nd, sub⟩
/-- a slot is given a new list -/
theorem Env.setO (e : Env c H0 O H σ Γ) (r : Rr c H H') {i : Nat} {v : V} {d : PyData} {f : List Addr} (b : Fo c H' v d f) (nd' : f.Nodup) (new : ∀ a ∈ f, H a = none) :
    Env c H0 (f ++ O) H' (σ.set i (some v)) (Γ.set i (some (.o d))) := by
  have e' := e.on r
  have hdis : ∀ a ∈ f, a ∉ O := fun a ha hO => by
    obtain ⟨xs, q, _⟩ := e.dm a hO
    rw [new a ha] at q
    cases q
  have hn : ∀ a ∈ f, mns H O a = none := fun a ha => by
    rw [mns_out (hdis a ha)]; exact new a ha
  have same : Same (mns H O) (mns H' (f ++ O)) → True := fun _ => trivial
  have hrm : Rr c (mns H O) (mns H' (f ++ O)) := by
    have rm := r.mns e.j e.okO
    refine ⟨fun a o k h => ?_, fun _ st l q => ?_⟩
    · have h' := rm.1 a o k h
      obtain ⟨n1, h'⟩ := mns_some h'
      have : a ∉ f := fun z => by rw [hn a z] at h; cases h
      rw [mns_out (by simp [this, n1])]
      exact h'
    · obtain ⟨ns, x, k, h1, h2, h3, h4⟩ := e.j st l q
      obtain ⟨ns', x', k', g1, g2, g3, g4⟩ := e'.j st l q
      obtain ⟨m1, g1⟩ := mns_some g1
      obtain ⟨m2, g2⟩ := mns_some g2
      have a1 : st ∉ f := fun z => by rw [hn _ z] at h1; cases h1
      have a2 : l ∉ f := fun z => by rw [hn _ z] at h2; cases h2
      exact ⟨ns', x', k', by rw [mns_out (by simp [a1, m1])]; exact g1, by rw [mns_out (by simp [a2, m2])]; exact g2, g3, g4⟩
  have jn : Ji c (mns H' (f ++ O)) := hrm.2 e.j
  refine ⟨e.r0.tr hrm, jn, fun a ha => ?_, fun a ha => ?_, ?_⟩
  · rcases List.mem_append.mp ha with q | q
    · have := e.r0
      cases h : H0 a with
      | none => rfl
      | some o =>
        have jH0 : okA c a := fun st l q' z => by
          obtain ⟨ns, x, k, h1, _⟩ := e.j st l q'
          rw [← z, hn a q] at h1
          cases h1
        have := e.r0.1 a o jH0 h
        rw [hn a q] at this
        cases this
    · exact e.fr a q
  · rcases List.mem_append.mp ha with q | q
    · exact (b.isL a q).elim fun xs h => ⟨_, h, trivial⟩
    · exact e'.dm a q
  · obtain ⟨fp, hr, nd, sub⟩ := e.rep
    have keep : ∀ y t g, (∀ a ∈ g, a ∈ O) → RepO c O H y t g → RepO c (f ++ O) H' y t g := fun y t g hg z => by
      cases t with
      | none => exact z
      | some t =>
        cases t with
        | v d => exact ⟨z.1, z.2.elim fun v hv => ⟨v, hv.1, hv.2.mono e.j hrm⟩⟩
        | o d => exact z.elim fun v hv => ⟨v, hv.1, hv.2.up (fun _ _ s => r.tup e.jH s) fun a ha o ho => r.1 a o (e.okO a (hg a ha)) ho⟩
        | r y => exact z
        | d u => exact z.elim fun a ⟨w1, w2, w3, w4⟩ => ⟨a, w1, w2, r.1 a _ (e.okO a (hg a (by rw [w1]; simp))) w3, w4⟩
        | w ds => exact z.elim fun a ⟨xs, w1, w2, w3, w4⟩ => ⟨a, xs, w1, w2, r.1 a _ (e.okO a (hg a (by rw [w1]; simp))) w3, w4.mono e.j hrm⟩
    by_cases hi : i < Γ.length
    · obtain ⟨x, g, pre, post, h1, h2, h3, h4⟩ := hr.nth (s := Γ[i]) (List.getElem?_eq_getElem hi)
      subst h3
      refine ⟨pre ++ (f ++ post), h4 _ _ _ _ f (fun y t g' q z => keep y t g' (fun a ha => sub a (by have := q a ha; simp at this ⊢; rcases this with w | w <;> simp [w])) z) ⟨v, rfl, b⟩, ?_, fun a ha => ?_⟩
      · have n0 : (pre ++ post).Nodup := nd.sublist (by simp)
        rw [List.nodup_append] at n0 ⊢
        refine ⟨n0.1, ?_, ?_⟩
        · rw [List.nodup_append]
          refine ⟨nd', n0.2.1, fun a ha b' hb q => ?_⟩
          subst q
          exact hdis a ha (sub a (by simp [hb]))
        · intro a ha b' hb q
          subst q
          rcases List.mem_append.mp hb with w | w
          · exact hdis a w (sub a (by simp [ha]))
          · exact n0.2.2 a ha a w rfl
      · simp only [List.mem_append] at ha ⊢
        rcases ha with q | q | q
        · exact .inr (sub a (by simp [q]))
        · exact .inl q
        · exact .inr (sub a (by simp [q]))
    · have hs : ¬ i < σ.length := by rw [hr.len]; exact hi
      rw [List.set_eq_of_length_le (by omega), List.set_eq_of_length_le (by omega)]
      exact ⟨fp, hr.map fun x s g q z => keep x s g (fun a ha => sub a (q a ha)) z, nd, fun a ha => by simp [sub a ha]⟩
/-- a list of one's own is written: the slot's list at p -/
theorem Env.write (e : Env c H0 O H σ Γ) {i : Nat} {ds es : List PyData} (h : Γ[i]? = some (some (.o (.list ds)))) :
    ∃ p xs f, σ[i]? = some (some (.ref p)) ∧ H p = some (.lst xs) ∧ FoAll c H xs ds f ∧ p ∉ f ∧ (∀ a ∈ f, a ∈ O) ∧
      ∀ ys : List V, FoAll c (upd H p (.lst ys)) ys es f → Env c H0 O (upd H p (.lst ys)) σ (Γ.set i (some (.o (.list es)))) := by
  obtain ⟨fp, hr, nd, sub⟩ := e.rep
  obtain ⟨x, f0, pre, post, h1, h2, h3, h4⟩ := hr.nth h
  obtain ⟨v, hv, b⟩ := h2
  subst hv
  obtain ⟨p, xs, f, rfl, rfl, hp, hfa⟩ := b.list'
  subst h3
  have hpO : p ∈ O := sub p (by simp)
  have n2 := (List.nodup_append.mp nd).2.1
  have hpf : p ∉ f := fun z => by
    have := (List.nodup_append.mp n2).1
    exact (List.nodup_cons.mp this).1 z
  refine ⟨p, xs, f, h1, hp, hfa, hpf, fun a ha => sub a (by simp [ha]), fun ys hy => ?_⟩
  have em : mns (upd H p (.lst ys)) O = mns H O := by
    funext a
    by_cases ha : a ∈ O
    · rw [mns_in ha, mns_in ha]
    · rw [mns_out ha, mns_out ha, upd_ne (fun z => ha (by rw [z]; exact hpO))]
  refine ⟨by rw [em]; exact e.r0, by rw [em]; exact e.j, e.fr, fun a ha => ?_, ?_⟩
  · by_cases q : a = p
    · rw [q]; exact ⟨_, upd_same, trivial⟩
    · rw [upd_ne q]; exact e.dm a ha
  · have hσ : σ.set i (some (.ref p)) = σ := by
      obtain ⟨hlt, e1⟩ := List.getElem?_eq_some_iff.mp h1
      rw [← e1]
      exact List.set_getElem_self hlt
    have := h4 O (upd H p (.lst ys)) (some (.ref p)) (some (.o (.list es))) (p :: f) (fun y t g q z => ?_) ⟨.ref p, rfl, .lst upd_same hy⟩
    · rw [hσ] at this
      exact ⟨_, this, nd, sub⟩
    · cases t with
      | none => exact z
      | some t =>
        cases t with
        | v d => exact ⟨z.1, z.2.elim fun v hv => ⟨v, hv.1, by rw [em]; exact hv.2⟩⟩
        | o d =>
          refine z.elim fun v hv => ⟨v, hv.1, hv.2.up (fun _ _ s => sqT_upd hp s) fun a ha o ho => ?_⟩
          have : a ≠ p := fun w => by
            subst w
            have hm := q a ha
            rcases List.mem_append.mp hm with u | u
            · exact (List.nodup_append.mp nd).2.2 a u a (by simp) rfl
            · exact (List.nodup_append.mp n2).2.2 a (by simp) a u rfl
          rw [upd_ne this]
          exact ho
        | r y => exact z
        | d u =>
          refine z.elim fun a ⟨w1, w2, w3, w4⟩ => ⟨a, w1, w2, ?_, w4⟩
          have : a ≠ p := fun w => by
            subst w
            have hm := q a (by rw [w1]; simp)
            rcases List.mem_append.mp hm with u | u
            · exact (List.nodup_append.mp nd).2.2 a u a (by simp) rfl
            · exact (List.nodup_append.mp n2).2.2 a (by simp) a u rfl
          rw [upd_ne this]
          exact w3
        | w ds =>
          refine z.elim fun a ⟨xs, w1, w2, w3, w4⟩ => ⟨a, xs, w1, w2, ?_, by rw [em]; exact w4⟩
          have : a ≠ p := fun w => by
            subst w
            have hm := q a (by rw [w1]; simp)
            rcases List.mem_append.mp hm with u | u
            · exact (List.nodup_append.mp nd).2.2 a u a (by simp) rfl
            · exact (List.nodup_append.mp n2).2.2 a (by simp) a u rfl
          rw [upd_ne this]
          exact w3
/-- from now on this list is not written -/
theorem Env.freeze (e : Env c H0 O H σ Γ) {i : Nat} {d : PyData} (h : Γ[i]? = some (some (.o d))) : ∃ O', Env c H0 O' H σ (Γ.set i (some (.v d))) ∧ Same (mns H O) (mns H O') := by
  obtain ⟨fp, hr, nd, sub⟩ := e.rep
  obtain ⟨x, f, pre, post, h1, h2, h3, h4⟩ := hr.nth h
  obtain ⟨v, hv, b⟩ := h2
  subst hv
  subst h3
  have n2 := (List.nodup_append.mp nd).2.1
  have dis : ∀ a ∈ pre ++ post, a ∉ f := fun a ha hf => by
    rcases List.mem_append.mp ha with u | u
    · exact (List.nodup_append.mp nd).2.2 a u a (by simp [hf]) rfl
    · exact (List.nodup_append.mp n2).2.2 a hf a u rfl
  have hm : ∀ a, a ∈ O.filter (fun a => !decide (a ∈ f)) ↔ a ∈ O ∧ a ∉ f := fun a => by simp [List.mem_filter]
  have sm : Same (mns H O) (mns H (O.filter fun a => !decide (a ∈ f))) := mns_sub fun a ha => ((hm a).mp ha).1
  refine ⟨O.filter fun a => !decide (a ∈ f), ⟨e.r0.tr (Rr.same sm), e.j.same sm, fun a ha => e.fr a ((hm a).mp ha).1, fun a ha => e.dm a ((hm a).mp ha).1, ?_⟩, sm⟩
  have hσ : σ.set i (some v) = σ := by
    obtain ⟨hlt, e1⟩ := List.getElem?_eq_some_iff.mp h1
    rw [← e1]
    exact List.set_getElem_self hlt
  have hb : Bo c (mns H (O.filter fun a => !decide (a ∈ f))) v d := by
    refine Fo.bo (fun a ha => e.okO a (sub a (by simp [ha]))) (b.up (fun a xs s => sqT_mns (fun b' hb' => e.dm b' ((hm b').mp hb').1) s) fun a ha o ho => ?_)
    rw [mns_out fun z => ((hm a).mp z).2 ha]
    exact ho
  have := h4 (O.filter fun a => !decide (a ∈ f)) H (some v) (some (.v d)) [] (fun y t g q z => ?_) ⟨rfl, v, rfl, hb⟩
  · rw [hσ] at this
    exact ⟨_, this, nd.sublist (by simp), fun a ha => (hm a).mpr ⟨sub a (by simp at ha ⊢; rcases ha with w | w <;> simp [w]), dis a (by simpa using ha)⟩⟩
  · cases t with
    | none => exact z
    | some t =>
      cases t with
      | v d => exact ⟨z.1, z.2.elim fun v hv => ⟨v, hv.1, hv.2.same sm⟩⟩
      | o d => exact z
      | r y => exact z
      | d u => exact z
      | w ds => exact z.elim fun a ⟨xs, w1, w2, w3, w4⟩ => ⟨a, xs, w1, w2, w3, w4.same sm⟩
/-- a later entry is as good as an earlier one -/
theorem Env.base (e : Env c H0 O H σ Γ) : Env c (mns H O) O H σ Γ := ⟨Rr.rf, e.j, fun a ha => mns_in ha, e.dm, e.rep⟩
theorem Env.fromB {O1 : List Addr} {σ1 : L2.St} {Γ1 : List (Option Rs)} (e : Env c H0 O H σ Γ) (e1 : Env c (mns H O) O1 H1 σ1 Γ1) : Env c H0 O1 H1 σ1 Γ1 :=
  ⟨e.r0.tr e1.r0, e1.j, (fun a ha => by
    have h1 := e1.fr a ha
    cases h : H0 a with
    | none => rfl
    | some o =>
      have k : okA c a := fun st l q z => by
        obtain ⟨ns, x, k, g1, _⟩ := e.j st l q
        rw [← z, h1] at g1
        cases g1
      have := e.r0.1 a o k h
      rw [h1] at this
      cases this), e1.dm, e1.rep⟩
end Lm


namespace Lm
open PySem PySem.Spec PyProof.Rows L2
section
variable {X : Cx} {H : Hp}
def NewT (H : Hp) (xs : List V) (Q : VK) : Prop := ∀ p o, o.dict = none → H p = none → Q (.ref p) (upd H p (.frz o (.tup xs)))
theorem newT {pins : List (Addr × Obj)} {σ : L2.St} {s : Shared} {xs : List V} {us : List Value} {Q : VK} (I : Inv X pins σ H s) (r : Vals xs us) (z : xs.length ≤ sizeLine) (q : NewT H xs Q) :
    EP X pins σ Q (.ref s.heap.objs.size) { s with heap := s.heap.push { cls := .type "tuple", data := .seq us.toArray } } := by
  refine ⟨.ref s.heap.objs.size, upd H s.heap.objs.size (.frz { cls := .type "tuple", data := .seq us.toArray } (.tup xs)), I.laid (t' := s.toks) (fun b u e => Heap.get?_push_of_some _ e) (Nat.le_refl _) ?_, rfl, q _ _ rfl (I.hok.fresh (Nat.le_refl _))⟩
  exact ⟨Heap.get?_push_size _ rfl, z, us, r, ⟨_, Heap.get?_push_size _ rfl, rfl, _, rfl⟩⟩
def tTupN (t : TA) : TE := fun σ H Q => t σ H fun xs H1 => xs.length ≤ sizeLine ∧ NewT H1 xs Q
theorem pe_tupN {es : List Expr} {t : TA} {pos : Pos} {x1} (h : PA X es t) : PE X (.Tuple es x1 pos) (tTupN t) := by
  refine ⟨fun pins s σ H Q I hq => ?_⟩
  refine wpAny_Tuple_spliced (thn (h.run pos pins s σ H _ I hq) fun us s1 ⟨xs, H1, I1, r, z, q⟩ => ⟨by rw [← r.length]; exact z, ?_⟩)
  exact newT I1 r z q
/-- tuple(list), tuple(tuple) -/
def rTuple (K : PySem.W.Frag) : List V → Hp → VK → Prop := fun xs H Q => ∃ p ys, xs = [.ref p] ∧ ((SqL K H p ys ∧ NewT H ys Q) ∨ (SqT K H p ys ∧ Q (.ref p) H))
theorem cr_tuple : CallR X (.type "tuple") (rTuple X.K) := by
  intro pins s σ H xs us Q I r h
  obtain ⟨p, ys, rfl, h⟩ := h
  obtain ⟨u, rfl, rx⟩ := vals1 r
  cases rx
  rcases h with ⟨hq, q⟩ | ⟨hq, q⟩
  · obtain ⟨its, r', pl, hz⟩ := I.list hq
    have hlen := r'.length
    refine call_tuple_list pl.isList (fun h' kp => ?_) (by simp only [List.size_toArray] <;> omega)
    have I1 : Inv X pins σ H { s with heap := h' } := I.kept (t' := s.toks) kp
    exact newT I1 r' hz q
  · obtain ⟨its, r', pl, hz⟩ := I.tuple hq
    exact call_tuple_same pl ⟨.ref p, H, I, rfl, q⟩
/-- t + u -/
def rCatN (K : PySem.W.Frag) : R2 := fun x y H Q => ∃ a b xs ys, x = .ref a ∧ y = .ref b ∧ SqT K H a xs ∧ SqT K H b ys ∧ xs.length + ys.length ≤ sizeLine ∧
  (xs = [] → Q (.ref b) H) ∧ (xs ≠ [] → ys = [] → Q (.ref a) H) ∧ (xs ≠ [] → ys ≠ [] → NewT H (xs ++ ys) Q)
theorem op_catN : OpR X (binaryOp .Add) (rCatN X.K) := by
  intro pins s σ H x y v u Q I rx ry h
  obtain ⟨a, b, xs, ys, rfl, rfl, ha, hb, hz, q0, q1, q2⟩ := h
  cases rx
  cases ry
  obtain ⟨its, r1, p1, _⟩ := I.tuple ha
  obtain ⟨its2, r2, p2, _⟩ := I.tuple hb
  by_cases hx : xs = []
  · subst hx
    cases r1
    exact cat_tup0 p1 p2 ⟨.ref b, H, I, rfl, q0 rfl⟩
  · refine HT.cat_tup p1 p2 (fun z => hx (r1.nil_iff.mp z)) (fun z => ⟨.ref a, H, I, rfl, q1 hx (r2.nil_iff.mp z)⟩) (fun z => ?_) (by rw [← r1.length, ← r2.length]; exact hz)
    have := newT (Q := Q) I (r1.append r2) (by rw [List.length_append]; exact hz) (q2 hx (fun w => z (r2.nil_iff.mpr w)))
    exact this
/-- t[lo:hi] -/
def rSlN (K : PySem.W.Frag) : V → Option Int → Option Int → Hp → VK → Prop := fun x lo hi H Q => ∃ a xs, x = .ref a ∧ SqT K H a xs ∧
  (HT.sIx xs.length 0 lo = 0 ∧ HT.sIx xs.length xs.length hi = xs.length → Q (.ref a) H) ∧ (¬ (HT.sIx xs.length 0 lo = 0 ∧ HT.sIx xs.length xs.length hi = xs.length) → NewT H (cutV xs lo hi) Q)
theorem sl_tupN : SlR X (rSlN X.K) := by
  intro pins s σ H x v vl vu lo hi sl Q I rx hs pl pu h
  obtain ⟨a, xs, rfl, hx, q1, q2⟩ := h
  cases rx
  obtain ⟨its, r, ht, hz⟩ := I.tuple hx
  have hlen : its.toArray.size = xs.length := by rw [List.size_toArray]; exact r.length.symm
  refine ⟨"tuple", _, PyProof.Rows.slot_tuple_getitem.lookup, ht.typeIs, ?_⟩
  by_cases hw : HT.sIx xs.length 0 lo = 0 ∧ HT.sIx xs.length xs.length hi = xs.length
  · exact getItem_tuple_whole ht hs pl pu (by rw [hlen]; exact hw) ⟨.ref a, H, I, rfl, q1 hw⟩
  · refine HT.getItem_tuple_cut ht hs pl pu (by rw [hlen]; exact hw) ?_ (by rw [hlen]; exact hz)
    rw [hlen]
    have := newT (Q := Q) I ((r.drop (HT.sIx xs.length 0 lo)).take (HT.sIx xs.length xs.length hi - HT.sIx xs.length 0 lo)) (Nat.le_trans (cutV_length xs lo hi) hz) (q2 hw)
    exact this
/-- a method of a tuple -/
def tTM (K : PySem.W.Frag) (r : V → List V → Hp → VK → Prop) (to : TE) (t : TA) : TE := fun σ H Q => to σ H fun x H1 => (∃ a xs, x = .ref a ∧ TpN K H1 a xs) ∧ t σ H1 fun vs H2 => r x vs H2 Q
theorem pe_tm {name : Str} {id : String} {r : V → List V → Hp → VK → Prop} {o e : Expr} {es : List Expr} {to : TE} {t : TA} {apos cpos : Pos} (slot : Slot "tuple" name id) (hty : typeOf (.builtin id) = pure (.type "method_descriptor")) (hm : MtR X id r) (ho : PE X o to) (ha : PA X (e :: es) t)
    (hbase : attributeBase o name X.env (eval o X.env) = eval o X.env := by rfl)
    (hfew : ((backTo cpos (starEach (e :: es) X.env)).all (fun x => !x.1) && (backToKw cpos (keywordEach [] X.env)).all (fun x => x.1.isSome)
      && decide ((e :: es).length + ([] : List Keyword).length + (if ([] : List Keyword).isEmpty then 0 else 1) < 30)) = true := by rfl)
    (hline : (apos.endLine == cpos.line) = true := by rfl) (hs : starEach (e :: es) X.env = (false, eval e X.env) :: starEach es X.env := by rfl) (hplain : (backTo cpos (starEach es X.env)).any (·.1) = false := by rfl) :
    PE X (.Call (.Attribute o name apos) (e :: es) [] cpos) (tTM X.K r to t) := by
  refine ⟨fun pins s σ H Q I h => ?_⟩
  refine wpAny_Call_method_late hbase hfew hline rfl (thn (ho.run pins s σ H _ I h) fun v s1 ⟨x, H1, I1, r1, ty, q1⟩ => ?_)
  obtain ⟨a, xs, rfl, ht⟩ := ty
  cases r1
  have hty2 : s1.TypeIs (.ref a) "tuple" ∧ ∀ b, Value.ref a = .ref b → ∃ ob, s1.heap.get? b = some ob ∧ ob.dict = none := by
    obtain ⟨its, rv, ⟨ob0, g0, hc0, n0, hd0⟩, _⟩ := I1.tuple ht.sq
    refine ⟨⟨ob0, g0, hc0⟩, fun b e => ?_⟩
    cases e
    rcases ht with ⟨ob, hn, hq⟩ | ⟨ob, its', n, hl, hc, hdn, hd, hz, hv⟩
    · obtain ⟨g, _⟩ := I1.hok a _ hq
      exact ⟨ob, g, hn⟩
    · exact ⟨ob, I1.kIn _ _ hl, hdn⟩
  obtain ⟨h1, h2⟩ := hty2
  refine ⟨"tuple", id, PySem.F.plainAttrs_tuple, slot, hty, h1, h2, ?_⟩
  have hA := ha.run cpos pins s1 σ H1 _ I1 q1
  rw [hs] at hA ⊢
  refine Calls.callWith_builtin (by show (false || (backTo cpos (starEach es X.env)).any (·.1)) = false; rw [hplain] <;> rfl) (Calls.evalArgs_plain ?_)
  exact thn hA fun us s2 ⟨vs, H2, I2, r2, q2⟩ => hm pins s2 σ H2 (.ref a) vs (.ref a) us Q I2 rfl r2 q2
end
end Lm
namespace Lm
open PySem PySem.Spec PyProof.Rows L2
section
variable {X : Cx}
def rCountT (K : PySem.W.Frag) : V → List V → Hp → VK → Prop := fun x xs H Q => ∃ (p : Addr) (ns : List Int) (k : Int), x = .ref p ∧ xs = [.int k] ∧ SqT K H p (ns.map V.int) ∧ Q (.int (ns.count k : Nat)) H
theorem mt_tcount : MtR X "tuple.count" (rCountT X.K) := by
  intro pins s σ H x xs v us Q I rx rxs h
  obtain ⟨p, ns, k, rfl, rfl, hs, q⟩ := h
  cases rx
  obtain ⟨u, rfl, ru⟩ := rxs.one
  obtain ⟨t, rfl⟩ := ru
  obtain ⟨its, rv, ⟨⟨cls, dd, data, sl⟩, ho, hc, n, hd⟩, hlen⟩ := I.tuple hs
  simp only at hc hd
  subst hc hd
  have hi := ints_of_vals rv
  refine call_meets PySem.F.slot_tuple_count ⟨_, ho, rfl⟩ PySem.F.entry_tuple_count (PySem.F.args_tuple_count_2 _ _)
    (SeqAt.tuple_countAt p its.toArray n dd sl (.int k t) (eqk k)) ⟨ho, fun y hy => (eqk_gives hi y (by simpa using hy)).at _ _, ?_⟩
  have ec : its.toArray.toList.countP (eqk k) = ns.count k := eqk_count hi
  refine ⟨.int (ns.count k : Nat), H, I.tok _, ⟨s.toks, ?_⟩, q⟩
  show Value.int ((its.toArray.toList.countP (eqk k) : Nat) : Int) s.toks = Value.int ((ns.count k : Nat) : Int) s.toks
  rw [ec]
end
end Lm


namespace Lm
open PySem PySem.Spec PyProof.Rows L2
variable {c : Ct} {H H' H0 H1 H2 H3 : Hp} {O : List Addr} {σ : L2.St} {Γ : List (Option Rs)}

/-- what an expression gives: a value that stays, a new list, something to be read at once -/
inductive Kd | v | o | b
def Res (c : Ct) (O : List Addr) (H H2 : Hp) (v : V) (d : PyData) : Kd → Prop
  | .v => Bo c (mns H2 O) v d
  | .o => ∃ fp, Fo c H2 v d fp ∧ fp.Nodup ∧ ∀ a ∈ fp, H a = none
  | .b => Bo c H2 v d
theorem Res.bo {v : V} {d : PyData} {k : Kd} (e : Env c H0 O H σ Γ) (h : Res c O H H2 v d k) : Bo c H2 v d := by
  cases k with
  | v => exact Bo.same mns_same h
  | o =>
    obtain ⟨fp, f, nd, new⟩ := h
    exact f.bo fun a ha => okA.fresh e.jH (new a ha)
  | b => exact h
theorem Res.on {v : V} {d : PyData} {k : Kd} (e : Env c H0 O H σ Γ) (r1 : Rr c H H2) (r : Rr c H2 H3) (h : Res c O H H2 v d k) : Res c O H H3 v d k := by
  have e2 := e.on r1
  cases k with
  | v => exact Bo.mono e2.j (r.mns e2.j e2.okO) h
  | o =>
    obtain ⟨fp, f, nd, new⟩ := h
    exact ⟨fp, f.up (fun _ _ s => r.tup e2.jH s) (fun a ha o q => r.1 a o (okA.fresh e.jH (new a ha)) q), nd, new⟩
  | b => exact Bo.mono e2.jH r h
/-- fresh behind is fresh before -/
theorem Res.back {v : V} {d : PyData} {k : Kd} (e : Env c H0 O H σ Γ) (r1 : Rr c H H2) (h : Res c O H2 H3 v d k) : Res c O H H3 v d k := by
  cases k with
  | v => exact h
  | o =>
    obtain ⟨fp, f, nd, new⟩ := h
    exact ⟨fp, f, nd, fun a ha => r1.back e.jH (new a ha)⟩
  | b => exact h
theorem Bo.flatM {v : V} {d : PyData} (e : Env c H0 O H σ Γ) (r : Rr c H H2) (q : flatD d = true) (h : Bo c H2 v d) : Bo c (mns H2 O) v d :=
  h.flatTo (fun a xs s => sqT_mns (fun b hb => (e.on r).dm b hb) s) q

def Ev (c : Ct) (te : TE) (Γ : List (Option Rs)) (k : Kd) (d : PyData) : Prop :=
  ∀ H0 O H σ, Env c H0 O H σ Γ → ∀ Q : VK, (∀ v H2, Rr c H H2 → Res c O H H2 v d k → Q v H2) → te σ H Q
/-- .. one of several -/
def EvN (c : Ct) (te : TE) (Γ : List (Option Rs)) (k : Kd) (P : PyData → Prop) : Prop :=
  ∀ H0 O H σ, Env c H0 O H σ Γ → ∀ Q : VK, (∀ v d H2, P d → Rr c H H2 → Res c O H H2 v d k → Q v H2) → te σ H Q
def EvT (c : Ct) (tt : TT) (Γ : List (Option Rs)) (b : Bool) : Prop :=
  ∀ H0 O H σ, Env c H0 O H σ Γ → ∀ Q : Bool → Hp → Prop, (∀ H2, Rr c H H2 → Q b H2) → tt σ H Q
/-- arguments, to be read; (kv) each a value that stays -/
def EvA (c : Ct) (ta : TA) (Γ : List (Option Rs)) (kv : Bool) (ds : List PyData) : Prop :=
  ∀ H0 O H σ, Env c H0 O H σ Γ → ∀ Q : List V → Hp → Prop, (∀ vs H2, Rr c H H2 → BoAll c (if kv then mns H2 O else H2) vs ds → Q vs H2) → ta σ H Q
section
variable {te ta tb tx : TE} {tt tu : TT} {tr : TA} {k ka kb : Kd} {d x y z : PyData} {i j : Int} {a b : Bool} {kv : Bool} {ds : List PyData}
theorem Ev.n (h : Ev c te Γ k d) : EvN c te Γ k (fun x => x = d) := fun H0 O H σ e Q q => h H0 O H σ e Q fun v H2 r s => q v d H2 rfl r s
theorem EvN.det (h : EvN c te Γ k (fun x => x = d)) : Ev c te Γ k d := fun H0 O H σ e Q q => h H0 O H σ e Q fun v d H2 p r s => by subst p; exact q v H2 r s
theorem EvN.imp {P P' : PyData → Prop} (h : EvN c te Γ k P) (i : ∀ d, P d → P' d) : EvN c te Γ k P' := fun H0 O H σ e Q q => h H0 O H σ e Q fun v d H2 p => q v d H2 (i d p)
theorem Ev.to (h : Ev c te Γ k x) (e : x = y) : Ev c te Γ k y := e ▸ h
theorem EvT.to (h : EvT c tt Γ a) (e : a = b) : EvT c tt Γ b := e ▸ h
/-- flat data stay -/
theorem Ev.fl (h : Ev c te Γ k d) (f : flatD d = true) : Ev c te Γ .v d := fun H0 O H σ e Q q => h H0 O H σ e Q fun v H2 r s => q v H2 r (Bo.flatM e r f (Res.bo e s))
theorem Ev.fo (h : Ev c te Γ k d) (f : flatD d = true) : Ev c te Γ .o d := fun H0 O H σ e Q q => h H0 O H σ e Q fun v H2 r s => q v H2 r ⟨[], .leaf f (Res.bo e s), List.nodup_nil, fun _ h => nomatch h⟩
theorem EvN.fo {P : PyData → Prop} (h : EvN c te Γ k P) (f : ∀ d, P d → flatD d = true) : EvN c te Γ .o P := fun H0 O H σ e Q q => h H0 O H σ e Q fun v d H2 p r s => q v d H2 p r ⟨[], .leaf (f d p) (Res.bo e s), List.nodup_nil, fun _ h => nomatch h⟩
theorem EvN.fl {P : PyData → Prop} (h : EvN c te Γ k P) (f : ∀ d, P d → flatD d = true) : EvN c te Γ .v P := fun H0 O H σ e Q q => h H0 O H σ e Q fun v d H2 p r s => q v d H2 p r (Bo.flatM e r (f d p) (Res.bo e s))

/-! ### leaves -/
theorem d_int : Ev c (tC (.int i)) Γ .v (.int i) := fun H0 O H σ e Q q => q _ H Rr.rf (.int i)
theorem d_bl : Ev c (tC (.bl a)) Γ .v (.bool a) := fun H0 O H σ e Q q => q _ H Rr.rf (.bl a)
theorem d_str {s : Str} : Ev c (tC (.str s)) Γ .v (.str s) := fun H0 O H σ e Q q => q _ H Rr.rf (.str s)
theorem d_non : Ev c (tC .non) Γ .v .none := fun H0 O H σ e Q q => q _ H Rr.rf .non
theorem d_var {n : Nat} (h : Γ[n]? = some (some (.v d))) : Ev c (tVar n) Γ .v d := fun H0 O H σ e Q q => by
  obtain ⟨v, hv, b⟩ := e.slotV h
  exact ⟨v, hv, q v H Rr.rf b⟩
theorem d_varO {n : Nat} (h : Γ[n]? = some (some (.o d))) : Ev c (tVar n) Γ .b d := fun H0 O H σ e Q q => by
  obtain ⟨v, fp, hv, f, nd, sub⟩ := e.slotO h
  exact ⟨v, hv, q v H Rr.rf (f.bo fun a ha => e.okO a (sub a ha))⟩
/-! ### two operands -/
theorem d_bin {r : R2} (ha : Ev c ta Γ ka x) (hb : Ev c tb Γ kb y)
    (hr : ∀ H O v u (Q : VK), Bo c H v x → Bo c H u y → (∀ v' H2, Rr c H H2 → Bo c (mns H2 O) v' z → Q v' H2) → r v u H Q) : Ev c (tOp r ta tb) Γ .v z := fun H0 O H σ e Q q =>
  ha H0 O H σ e _ fun v H1 r1 s1 => hb H0 O H1 σ (e.on r1) _ fun u H2 r2 s2 =>
    hr H2 O v u Q (Res.bo e (Res.on e r1 r2 s1)) (Res.bo (e.on r1) s2) fun v' H3 r3 b => q v' H3 ((r1.tr r2).tr r3) b
theorem d_I {C : Int → Int → Prop} {g : Int → Int → V} {w : V} (ha : Ev c ta Γ ka (.int i)) (hb : Ev c tb Γ kb (.int j)) (hc : C i j) (hw : g i j = w) (hz : ∀ H, Bo c H w z) : Ev c (tOp (rI C g) ta tb) Γ .v z :=
  d_bin ha hb fun H O v u Q bv bu q => ⟨i, j, bv.int', bu.int', hc, q _ H Rr.rf (hw ▸ hz _)⟩
theorem d_I0 {g : Int → Int → V} {w : V} (ha : Ev c ta Γ ka (.int i)) (hb : Ev c tb Γ kb (.int j)) (hw : g i j = w) (hz : ∀ H, Bo c H w z) : Ev c (tOp (rI0 g) ta tb) Γ .v z :=
  d_bin ha hb fun H O v u Q bv bu q => ⟨i, j, bv.int', bu.int', q _ H Rr.rf (hw ▸ hz _)⟩
theorem d_sub (ha : Ev c ta Γ ka (.int i)) (hb : Ev c tb Γ kb (.int j)) : Ev c (tOp (rI0 fun i j => .int (i - j)) ta tb) Γ .v (.int (i - j)) := d_I0 ha hb rfl fun _ => .int _
theorem d_le (ha : Ev c ta Γ ka (.int i)) (hb : Ev c tb Γ kb (.int j)) : Ev c (tOp (rI0 fun i j => .bl (decide (i ≤ j))) ta tb) Γ .v (.bool (decide (i ≤ j))) := d_I0 ha hb rfl fun _ => .bl _
theorem d_gt (ha : Ev c ta Γ ka (.int i)) (hb : Ev c tb Γ kb (.int j)) : Ev c (tOp (rI0 fun i j => .bl (decide (j < i))) ta tb) Γ .v (.bool (decide (j < i))) := d_I0 ha hb rfl fun _ => .bl _
theorem d_mod (ha : Ev c ta Γ ka (.int i)) (hb : Ev c tb Γ kb (.int j)) (h : 0 < j) : Ev c (tOp (rI (fun _ j => 0 < j) fun i j => .int (i % j)) ta tb) Γ .v (.int (i % j)) := d_I ha hb h rfl fun _ => .int _
/-- == and != of scalars -/
def scalD : PyData → Option V
  | .none => some .non
  | .bool b => some (.bl b)
  | .int i => some (.int i)
  | .str s => some (.str s)
  | _ => none
theorem Bo.scal {v w : V} (h : Bo c H v d) (e : scalD d = some w) : v = w := by
  cases h with
  | non => exact Option.some.inj e
  | bl _ => exact Option.some.inj e
  | int _ => exact Option.some.inj e
  | str _ => exact Option.some.inj e
  | lst _ _ _ => cases e
  | tup _ _ => cases e
theorem decI {i j : Int} : decide (V.int i = V.int j) = decide (i = j) := by
  by_cases h : i = j
  · subst h; simp
  · rw [decide_eq_false h, decide_eq_false (fun e => h (V.int.inj e))]
def isNoneD : PyData → Bool
  | .none => true
  | _ => false
theorem Bo.isN {v : V} (h : Bo c H v d) : decide (v = V.non) = isNoneD d := by
  cases h <;> simp [isNoneD]
/-- is None -/
theorem d_isN (ha : Ev c ta Γ ka x) : Ev c (tOp (fun x y H Q => y = .non ∧ Q (.bl (decide (x = .non))) H) ta (tC .non)) Γ .v (.bool (isNoneD x)) :=
  d_bin ha d_non fun H O v u Q bv bu q => ⟨bu.non', by rw [bv.isN]; exact q _ H Rr.rf (.bl _)⟩
/-- an item -/
theorem atI_bo {v : List V} (h : BoAll c H v ds) (e : atI ds i = some d) : ∃ x, atI v i = some x ∧ Bo c H x d := by
  unfold atI at e ⊢
  rw [h.len]
  cases q : ixN ds.length i with
  | none => rw [q] at e; cases e
  | some n =>
    rw [q] at e
    exact h.gets e
/-! ### truth -/
theorem d_notV (ha : Ev c ta Γ ka (.bool a)) : Ev c (tNotV ta) Γ .v (.bool (!a)) := fun H0 O H σ e Q q =>
  ha H0 O H σ e _ fun v H1 r1 s1 => ⟨a, (Res.bo e s1).bl', q _ H1 r1 (.bl _)⟩
theorem d_andV (ha : Ev c ta Γ ka (.bool a)) (hb : a = true → Ev c tb Γ .v (.bool b)) : Ev c (tAndV ta tb) Γ .v (.bool (a && b)) := fun H0 O H σ e Q q =>
  ha H0 O H σ e _ fun v H1 r1 s1 => ⟨a, (Res.bo e s1).bl', by
    cases a with
    | true =>
      refine iteT (hb rfl H0 O H1 σ (e.on r1) _ fun u H2 r2 s2 => ?_)
      rw [(Res.bo (e.on r1) s2).bl']
      exact q _ H2 (r1.tr r2) (.bl _)
    | false => exact iteF (q _ H1 r1 (.bl _))⟩
theorem t_test (h : Ev c te Γ k (.bool a)) : EvT c (tTest te) Γ a := fun H0 O H σ e Q q => h H0 O H σ e _ fun v H2 r s => ⟨a, (Res.bo e s).bl', q H2 r⟩
theorem t_B (h : Ev c te Γ k (.bool a)) : EvT c (tB te) Γ a := fun H0 O H σ e Q q => h H0 O H σ e _ fun v H2 r s => ⟨a, (Res.bo e s).bl', q H2 r⟩
theorem t_not (h : EvT c tt Γ a) : EvT c (tNot tt) Γ (!a) := fun H0 O H σ e Q q => h H0 O H σ e _ fun H2 r => q H2 r
theorem t_and (h : EvT c tt Γ a) (g : a = true → EvT c tu Γ b) : EvT c (tAnd tt tu) Γ (a && b) := fun H0 O H σ e Q q => h H0 O H σ e _ fun H2 r => by
  cases a with
  | true => exact iteT (g rfl H0 O H2 σ (e.on r) _ fun H3 r3 => q H3 (r.tr r3))
  | false => exact iteF (q H2 r)
theorem t_or (h : EvT c tt Γ a) (g : a = false → EvT c tu Γ b) : EvT c (tOr tt tu) Γ (a || b) := fun H0 O H σ e Q q => h H0 O H σ e _ fun H2 r => by
  cases a with
  | false => exact iteF (g rfl H0 O H2 σ (e.on r) _ fun H3 r3 => q H3 (r.tr r3))
  | true => exact iteT (q H2 r)
theorem t_yes : EvT c tYes Γ true := fun H0 O H σ e Q q => q H Rr.rf
/-! ### arguments -/
theorem a_nil : EvA c tNil Γ kv [] := fun H0 O H σ e Q q => q [] H Rr.rf .nil
theorem a_cons (h : Ev c te Γ k d) (hr : EvA c tr Γ false ds) : EvA c (tCons te tr) Γ false (d :: ds) := fun H0 O H σ e Q q =>
  h H0 O H σ e _ fun v H1 r1 s1 => hr H0 O H1 σ (e.on r1) _ fun vs H2 r2 s2 => q _ H2 (r1.tr r2) (.cons (Res.bo e (s1.on e r1 r2)) s2)
theorem a_consV (h : Ev c te Γ .v d) (hr : EvA c tr Γ true ds) : EvA c (tCons te tr) Γ true (d :: ds) := fun H0 O H σ e Q q =>
  h H0 O H σ e _ fun v H1 r1 s1 => hr H0 O H1 σ (e.on r1) _ fun vs H2 r2 s2 => q _ H2 (r1.tr r2) (.cons (s1.on e r1 r2) s2)
end
end Lm


namespace Lm
open PySem PySem.Spec PyProof.Rows L2
variable {c : Ct} {H H' H0 H1 H2 H3 : Hp} {O : List Addr} {σ : L2.St} {Γ Γ' : List (Option Rs)}

/-! ### what is walked -/
/-- an item: data, or a tuple made for the target alone -/
inductive Im where
  | d (x : PyData)
  | t (xs : List Im)
mutual
inductive Lo (c : Ct) (F : Hp) (fz : Bool) (H : Hp) : V → Im → Prop
  | leaf {v : V} {d : PyData} : (flatD d = true ∧ Bo c H v d) ∨ (fz = true ∧ Bo c F v d) → Lo c F fz H v (.d d)
  | tup {a : Addr} {xs : List V} {ds : List Im} : SqT c.K H a xs → LoAll c F fz H xs ds → Lo c F fz H (.ref a) (.t ds)
inductive LoAll (c : Ct) (F : Hp) (fz : Bool) (H : Hp) : List V → List Im → Prop
  | nil : LoAll c F fz H [] []
  | cons {v : V} {vs : List V} {d : Im} {ds : List Im} : Lo c F fz H v d → LoAll c F fz H vs ds → LoAll c F fz H (v :: vs) (d :: ds)
end
theorem LoAll.ofFlat {F : Hp} {fz : Bool} : ∀ {v : List V} {d : List PyData}, flatAll d = true → BoAll c H v d → LoAll c F fz H v (d.map Im.d)
  | _, _, _, .nil => .nil
  | _, _, q, .cons a b => by
    have q' : (flatD _ && flatAll _) = true := q
    rw [Bool.and_eq_true] at q'
    exact .cons (.leaf (.inl ⟨q'.1, a⟩)) (LoAll.ofFlat q'.2 b)
theorem LoAll.ofFz {F : Hp} : ∀ {v : List V} {d : List PyData}, BoAll c F v d → LoAll c F true H v (d.map Im.d)
  | _, _, .nil => .nil
  | _, _, .cons a b => .cons (.leaf (.inr ⟨rfl, a⟩)) (LoAll.ofFz b)
theorem LoAll.len {F : Hp} {fz : Bool} : ∀ {v : List V} {d : List Im}, LoAll c F fz H v d → v.length = d.length
  | _, _, .nil => rfl
  | _, _, .cons _ b => by simp [LoAll.len b]
/-- a tuple's parts -/
theorem Lo.parts {F : Hp} {fz : Bool} {v : V} {ds : List PyData} (j : Ji c F) (r : Rr c F H) (h : Lo c F fz H v (.d (.tuple ds))) : ∃ a xs, v = .ref a ∧ SqT c.K H a xs ∧ LoAll c F fz H xs (ds.map Im.d) := by
  cases h with
  | leaf h =>
    rcases h with ⟨q, b⟩ | ⟨q, b⟩
    · obtain ⟨a, xs, rfl, s, al⟩ := b.tup'
      exact ⟨a, xs, rfl, s.sq, .ofFlat (by simpa [flatD] using q) al⟩
    · obtain ⟨a, xs, rfl, s, al⟩ := b.tup'
      subst q
      exact ⟨a, xs, rfl, (r.tup j s).sq, .ofFz al⟩
def WD (c : Ct) (F : Hp) (fz : Bool) (J : It) (ds : List Im) : Prop :=
  Ji c F ∧ Walk J ds.length (fun H => Rr c F H) (fun i H x H' => Same H H' ∧ ∃ d, ds[i]? = some d ∧ Lo c F fz H' x d)
def EvI (c : Ct) (wi : TI) (Γ : List (Option Rs)) (fz : Bool) (ds : List Im) : Prop :=
  ∀ H0 O H σ, Env c H0 O H σ Γ → ∀ R : It → Hp → Prop, (∀ J H1, Rr c H H1 → WD c (if fz then mns H1 O else H1) fz J ds → R J H1) → wi σ H R
/-- a target takes an item -/
def EvG (c : Ct) (g : TG) (d : Im) (Γ Γ' : List (Option Rs)) (js : List Nat) : Prop :=
  ∀ H0 O H σ F fz x, Env c H0 O H σ Γ → Ji c F → Rr c F H → (fz = true → Rr c F (mns H O)) → Lo c F fz H x d → ∀ Q : L2.St → Hp → Prop,
    (∀ σ', Env c H0 O H σ' Γ' → (∀ vs, (∀ j ∈ js, j ∈ vs) → wipe σ' vs = wipe σ vs) → Q σ' H) → g x σ H Q
def EvGs (c : Ct) (g : TGs) (ds : List Im) (Γ Γ' : List (Option Rs)) (js : List Nat) : Prop :=
  ∀ H0 O H σ F fz xs, Env c H0 O H σ Γ → Ji c F → Rr c F H → (fz = true → Rr c F (mns H O)) → LoAll c F fz H xs ds → ∀ Q : L2.St → Hp → Prop,
    (∀ σ', Env c H0 O H σ' Γ' → (∀ vs, (∀ j ∈ js, j ∈ vs) → wipe σ' vs = wipe σ vs) → Q σ' H) → g xs σ H Q
theorem wipe_set {x : Option V} {j : Nat} {σ : L2.St} : ∀ {vs : List Nat}, j ∈ vs → wipe (σ.set j x) vs = wipe σ vs
  | [], h => by simp at h
  | v :: vs, h => by
    unfold wipe
    by_cases hj : j ∈ vs
    · rw [wipe_set hj]
    · have e : j = v := by simpa [hj] using h
      subst e
      have : ∀ (us : List Nat) (σ : L2.St), (wipe (σ.set j x) us).set j none = (wipe σ us).set j none := by
        intro us
        induction us with
        | nil => intro σ; simp [wipe]
        | cons u us ih =>
          intro σ
          show ((wipe (σ.set j x) us).set u none).set j none = ((wipe σ us).set u none).set j none
          by_cases q : u = j
          · subst q; simpa using ih σ
          · rw [List.set_comm _ _ q, ih σ, List.set_comm _ _ (fun z => q z.symm)]
      exact this vs σ
theorem wipe_wipe {σ : L2.St} : ∀ {vs us : List Nat}, (∀ v ∈ vs, v ∈ us) → wipe (wipe σ vs) us = wipe σ us
  | [], us, h => rfl
  | v :: vs, us, h => by
    show wipe ((wipe σ vs).set v none) us = wipe σ us
    rw [wipe_set (h v (by simp)), wipe_wipe fun w hw => h w (by simp [hw])]
def wipeG (Γ : List (Option Rs)) : List Nat → List (Option Rs)
  | [] => Γ
  | v :: vs => (wipeG Γ vs).set v none
theorem Env.wipe (e : Env c H0 O H σ Γ) : ∀ vs : List Nat, Env c H0 O H (L2.wipe σ vs) (wipeG Γ vs)
  | [] => e
  | v :: vs => (Env.wipe e vs).setN
theorem g_name {j : Nat} {d : PyData} : EvG c (gName j) (.d d) Γ (Γ.set j (some (.v d))) [j] := fun H0 O H σ F fz x e jF rF rM h Q q => by
  have b : Bo c (mns H O) x d := by
    cases h with
    | leaf h =>
      rcases h with ⟨f, b⟩ | ⟨f, b⟩
      · exact b.flatTo (fun a xs s => sqT_mns (fun b hb => e.dm b hb) s) f
      · exact b.mono jF (rM f)
  exact q _ (e.setV b) fun vs hv => wipe_set (hv j (by simp))
theorem g_nil : EvGs c gNil [] Γ Γ [] := fun H0 O H σ F fz xs e jF rF rM h Q q => by
  cases h
  exact ⟨rfl, q σ e fun _ _ => rfl⟩
theorem g_cons {g : TG} {gs : TGs} {d : Im} {ds : List Im} {Γ1 Γ2 : List (Option Rs)} {js ks : List Nat} (h : EvG c g d Γ Γ1 js) (hs : EvGs c gs ds Γ1 Γ2 ks) : EvGs c (gCons g gs) (d :: ds) Γ Γ2 (js ++ ks) := fun H0 O H σ F fz xs e jF rF rM l Q q => by
  cases l with
  | cons a b =>
    exact ⟨_, _, rfl, h H0 O H σ F fz _ e jF rF rM a _ fun σ1 e1 w1 => hs H0 O H σ1 F fz _ e1 jF rF rM b _ fun σ2 e2 w2 => q σ2 e2 fun vs hv =>
      (w2 vs fun j hj => hv j (by simp [hj])).trans (w1 vs fun j hj => hv j (by simp [hj]))⟩
theorem g_tup {n : Nat} {gs : TGs} {ds : List Im} {js : List Nat} (hn : ds.length = n) (hs : EvGs c gs ds Γ Γ' js) : EvG c (gTup c.K n gs) (.t ds) Γ Γ' js := fun H0 O H σ F fz x e jF rF rM h Q q => by
  cases h with
  | tup s al => exact ⟨_, _, rfl, s, al.len.trans hn, hs H0 O H σ F fz _ e jF rF rM al Q q⟩
theorem g_tupD {n : Nat} {gs : TGs} {ds : List PyData} {js : List Nat} (hn : ds.length = n) (hs : EvGs c gs (ds.map Im.d) Γ Γ' js) : EvG c (gTup c.K n gs) (.d (.tuple ds)) Γ Γ' js := fun H0 O H σ F fz x e jF rF rM h Q q => by
  obtain ⟨a, xs, rfl, s, al⟩ := h.parts jF rF
  exact ⟨_, _, rfl, s, al.len.trans (by simpa using hn), hs H0 O H σ F fz _ e jF rF rM al Q q⟩
end Lm


namespace Lm
open PySem PySem.Spec PyProof.Rows L2
variable {c : Ct} {H H' H0 H1 H2 H3 : Hp} {O : List Addr} {σ : L2.St} {Γ Γ' : List (Option Rs)}
variable {te ta tb tx tl : TE} {tt tu : TT} {tr : TA} {k ka kb : Kd} {d x y z : PyData} {i j : Int} {a b : Bool} {kv fz : Bool} {ds es : List PyData}

/-! ### what is walked: lists, tuples, ranges -/
theorem sizeOk {n : Nat} (h : n ≤ 1000000) : n ≤ sizeLine := Nat.le_trans h (by decide)
theorem map_get? {α : Type} {f : PyData → α} {i : Nat} {d : PyData} (h : ds[i]? = some d) : (ds.map f)[i]? = some (f d) := by simp [h]
/-- the frozen part -/
theorem Res.frozen {v : V} (e : Env c H0 O H σ Γ) (r : Rr c H H2) (h : Res c O H H2 v d k) (hk : k ≠ .b) : Bo c (mns H2 O) v d := by
  cases k with
  | v => exact h
  | o =>
    obtain ⟨fp, f, nd, new⟩ := h
    have e2 := e.on r
    have no : ∀ a ∈ fp, a ∉ O := fun a ha hO => by
      obtain ⟨xs, q, _⟩ := e.dm a hO
      rw [new a ha] at q
      cases q
    exact (f.up (fun a xs s => sqT_mns (fun b hb => e2.dm b hb) s) fun a ha o q => by rw [mns_out (no a ha)]; exact q).bo fun a ha => okA.fresh e.jH (new a ha)
  | b => exact absurd rfl hk
theorem i_core {J : It} {xs : List V} {F : Hp} (jF : Ji c F) (hw : Walk J xs.length (fun H => Rr c F H) (YAt xs)) (hb : BoAll c F xs ds) (hf : fz = true ∨ flatAll ds = true) : WD c F fz J (ds.map Im.d) := by
  refine ⟨jF, ?_⟩
  have hl : xs.length = (ds.map Im.d).length := by rw [hb.len]; simp
  rw [hl] at hw
  refine hw.mono (fun _ h => h) fun i H x H' hi g y => ?_
  obtain ⟨rfl, hx⟩ := y
  obtain ⟨d, hd, bd⟩ := hb.get hx
  refine ⟨Same.refl _, .d d, map_get? hd, .leaf ?_⟩
  rcases hf with hf | hf
  · exact .inr ⟨hf, bd⟩
  · refine .inl ⟨?_, bd.mono jF g⟩
    have : ∀ (l : List PyData), flatAll l = true → ∀ d ∈ l, flatD d = true := by
      intro l
      induction l with
      | nil => intro _ _ h; simp at h
      | cons a l ih =>
        intro q d hd
        have q' : (flatD a && flatAll l) = true := q
        rw [Bool.and_eq_true] at q'
        rcases List.mem_cons.mp hd with w | w
        · rw [w]; exact q'.1
        · exact ih q'.2 d w
    exact this ds hf d (List.mem_of_getElem? hd)
theorem i_listB (h : Ev c tl Γ k (.list ds)) (hf : flatAll ds = true) : EvI c (iList c.K tl) Γ false (ds.map Im.d) := fun H0 O H σ e R q =>
  h H0 O H σ e _ fun v H1 r s => by
    obtain ⟨p, xs, rfl, kp, sl, al⟩ := (Res.bo e s).lst'
    have j1 := (e.on r).jH
    exact ⟨p, rfl, ⟨xs, sl⟩, q _ H1 r (i_core j1 (walk_list.mono (fun H h => h.lst kp sl) fun _ _ _ _ _ _ y => y) al (.inr hf))⟩
theorem i_list (h : Ev c tl Γ k (.list ds)) (hk : k ≠ .b) : EvI c (iList c.K tl) Γ true (ds.map Im.d) := fun H0 O H σ e R q =>
  h H0 O H σ e _ fun v H1 r s => by
    obtain ⟨p, xs, rfl, kp, sl, al⟩ := (Res.frozen e r s hk).lst'
    exact ⟨p, rfl, ⟨xs, mns_same.seq sl⟩, q _ H1 r (i_core (e.on r).j (walk_list.mono (fun H h => h.lst kp sl) fun _ _ _ _ _ _ y => y) al (.inl rfl))⟩
theorem i_tup (h : Ev c tl Γ k (.tuple ds)) (hk : k ≠ .b) : EvI c (iTup c.K tl) Γ true (ds.map Im.d) := fun H0 O H σ e R q =>
  h H0 O H σ e _ fun v H1 r s => by
    obtain ⟨p, xs, rfl, sl, al⟩ := (Res.frozen e r s hk).tup'
    exact ⟨p, rfl, ⟨xs, (sqT_same mns_same sl).sq⟩, q _ H1 r (i_core (e.on r).j (walk_tup.mono (fun H h => (h.tup (e.on r).j sl).sq) fun _ _ _ _ _ _ y => y) al (.inl rfl))⟩
/-- the upI from lo on, n of them -/
def upI (lo : Int) (n : Nat) : List Int := (List.range n).map fun (i : Nat) => lo + (i : Int)
theorem i_range {F : Hp} (jF : Ji c F) {lo : Int} {n : Nat} : WD c F fz (Itr lo n) ((upI lo n).map fun i => Im.d (.int i)) := by
  refine ⟨jF, ?_⟩
  have hl : ((upI lo n).map fun i => Im.d (.int i)).length = n := by simp [upI]
  rw [hl]
  refine walk_range.mono (fun _ _ => trivial) fun i H x H' hi g y => ?_
  obtain ⟨rfl, rfl⟩ := y
  exact ⟨Same.refl _, .d (.int (lo + i)), by simp [upI, hi], .leaf (.inl ⟨rfl, .int _⟩)⟩
theorem i_rng1 {n : Int} (h : EvA c tr Γ kv [.int n]) (hn : n ≤ 1000000) (hn' : -1000000 ≤ n) : EvI c (iRng1 tr) Γ true ((upI 0 n.toNat).map fun i => Im.d (.int i)) := fun H0 O H σ e R q =>
  h H0 O H σ e _ fun vs H1 r s => by
    cases s with
    | cons b bs =>
      cases bs
      have := b.int'
      subst this
      exact ⟨n, rfl, by omega, by omega, q _ H1 r (i_range (e.on r).j)⟩
/-! ### comprehensions -/
theorem flatAll_one {d : PyData} {ds : List PyData} (h : flatAll ds = true) (m : d ∈ ds) : flatD d = true := by
  induction ds with
  | nil => simp at m
  | cons a l ih =>
    have q' : (flatD a && flatAll l) = true := h
    rw [Bool.and_eq_true] at q'
    rcases List.mem_cons.mp m with w | w
    · rw [w]; exact q'.1
    · exact ih q'.2 w
theorem ifFz {F : Hp} {H1 : Hp} {O : List Addr} (e : Env c H0 O H σ Γ) (r1 : Rr c H H1) (r : Rr c H1 H2) : Rr c (if fz then mns H1 O else H1) H2 ∧ (fz = true → Rr c (if fz then mns H1 O else H1) (mns H2 O)) := by
  cases fz with
  | true => exact ⟨(Rr.same mns_same).tr r, fun _ => r.mns (e.on r1).j e.okO⟩
  | false => exact ⟨r, fun h => nomatch h⟩
theorem n_lc {wi : TI} {g : TG} {vs : List Nat} {items : List Im} (M : Nat → List PyData → Prop) (hi : EvI c wi Γ fz items) (hl : items.length ≤ 1000000) (h0 : M 0 [])
    (hb : ∀ (n : Nat) (a : Im) (acc : List PyData), items[n]? = some a → M n acc → ∃ Γ' js, EvG c g a (wipeG Γ vs) Γ' js ∧ (∀ j ∈ js, j ∈ vs) ∧
      ∃ (b : Bool) (P : PyData → Prop), EvT c tt Γ' b ∧ (b = true → EvN c te Γ' .o P ∧ ∀ d, P d → M (n + 1) (acc ++ [d])) ∧ (b = false → M (n + 1) acc)) :
    EvN c (tLc wi g tt te vs) Γ .o (fun d => ∃ acc, d = .list acc ∧ M items.length acc) := fun H0 O H σ e Q q =>
  hi H0 O H σ e _ fun J H1 r1 w D hD => by
    obtain ⟨jF, w⟩ := w
    refine lc_it w (fun n H' => Rr c H1 H' ∧ ∃ acc ds fp, H' D = some (.lst acc) ∧ FoAll c H' acc ds fp ∧ fp.Nodup ∧ (∀ a ∈ fp, H1 a = none) ∧ D ∉ fp ∧ ds.length ≤ n ∧ M n ds) ?_ ?_ ?_ ?_
    · exact ⟨Rr.same fun b o z => by rw [upd_ne (ne_of_none z hD)]; exact z, [], [], [], upd_same, .nil, List.nodup_nil, (fun _ h => nomatch h), (fun h => nomatch h), Nat.le_refl _, h0⟩
    · intro n H' _ p
      exact (ifFz (F := H) e r1 p.1).1
    · rintro n x H' H'' hn ⟨p1, acc, ds, fp, p2, p3, p4, p5, p6, p7, p8⟩ ⟨sm, im, him, lo⟩
      have e2 : Env c H0 O H'' σ Γ := e.on ((r1.tr p1).tr (Rr.same sm))
      have fzz := ifFz (fz := fz) (F := H) e r1 (p1.tr (Rr.same sm))
      obtain ⟨Γ', js, hg, hjs, b, P, ht, hy, hno⟩ := hb n im ds him p8
      refine hg H0 O H'' _ _ fz x (e2.wipe vs) jF fzz.1 fzz.2 lo _ fun σ2 e3 hw => ⟨(hw vs hjs).trans (wipe_wipe fun _ h => h), ht H0 O H'' σ2 e3 _ fun H3 r3 => ?_⟩
      have p3' : FoAll c H'' acc ds fp := p3.up (fun _ _ s => sqT_same sm s) fun a _ o z => sm a o z
      have okf : ∀ a ∈ fp, okA c a := fun a ha => okA.fresh (e.on r1).jH (p5 a ha)
      have okD : okA c D := okA.fresh (e.on r1).jH hD
      have f3 : FoAll c H3 acc ds fp := p3'.up (fun _ _ s => r3.tup e2.jH s) fun a ha o z => r3.1 a o (okf a ha) z
      have D3 : H3 D = some (.lst acc) := r3.1 D _ okD (sm _ _ p2)
      have r13 : Rr c H1 H3 := (p1.tr (Rr.same sm)).tr r3
      cases b with
      | true =>
        refine iteT ?_
        obtain ⟨hyN, hyM⟩ := hy rfl
        refine hyN H0 O H3 σ2 (e3.on r3) _ fun v d H4 pd r4 s4 => ?_
        obtain ⟨fq, f4, nq, newq⟩ := s4
        have e3' := e3.on r3
        have D4 : H4 D = some (.lst acc) := r4.1 D _ okD D3
        have f3' : FoAll c H4 acc ds fp := f3.up (fun _ _ s => r4.tup e3'.jH s) fun a ha o z => r4.1 a o (okf a ha) z
        have Dq : D ∉ fq := fun z => by rw [newq D z] at D3; cases D3
        have all : FoAll c H4 (acc ++ [v]) (ds ++ [d]) (fp ++ (fq ++ [])) := f3'.app (.cons f4 .nil)
        rw [List.append_nil] at all
        have lacc : acc.length = ds.length := (f3'.bo okf).len
        have hle : ds.length ≤ 1000000 := by omega
        have nodq : ∀ a ∈ fp, a ∉ fq := fun a ha hq => by
          obtain ⟨xs, z⟩ := f3.isL a ha
          rw [newq a hq] at z; cases z
        refine ⟨acc, D4, by rw [lacc, sizeLine_eq]; omega, ?_, acc ++ [v], ds ++ [d], fp ++ fq, upd_same, ?_, ?_, ?_, ?_, by simp; omega, hyM d pd⟩
        · refine ⟨fun a o ok z => ?_, fun jj => ?_⟩
          · rw [upd_ne (ne_of_none z hD)]; exact (r13.tr r4).1 a o ok z
          · intro st l eq
            obtain ⟨ns, x, k, g1, g2, g3, g4⟩ := (r13.tr r4).2 jj st l eq
            have d1 : st ≠ D := fun z => by
              obtain ⟨ns', x', k', g1', _⟩ := jj st l eq
              rw [z, hD] at g1'; cases g1'
            have d2 : l ≠ D := fun z => by
              obtain ⟨ns', x', k', _, g2', _⟩ := jj st l eq
              rw [z, hD] at g2'; cases g2'
            exact ⟨ns, x, k, by rw [upd_ne d1]; exact g1, by rw [upd_ne d2]; exact g2, g3, g4⟩
        · refine all.up (fun _ _ s => sqT_upd D4 s) fun a ha o z => ?_
          have : a ≠ D := fun w => by
            subst w
            rcases List.mem_append.mp ha with u | u
            · exact p6 u
            · exact Dq u
          rw [upd_ne this]; exact z
        · rw [List.nodup_append]
          exact ⟨p4, nq, fun a ha b hb z => by subst z; exact nodq a ha hb⟩
        · intro a ha
          rcases List.mem_append.mp ha with u | u
          · exact p5 a u
          · exact r13.back (e.on r1).jH (newq a u)
        · intro z
          rcases List.mem_append.mp z with u | u
          · exact p6 u
          · exact Dq u
      | false =>
        exact iteF ⟨r13, acc, ds, fp, D3, f3, p4, p5, p6, by omega, hno rfl⟩
    · rintro H' ⟨p1, acc, ds, fp, p2, p3, p4, p5, p6, p7, p8⟩
      refine q (.ref D) (.list ds) H' ⟨ds, rfl, p8⟩ (r1.tr p1) ⟨D :: fp, .lst p2 p3, ?_, fun a ha => ?_⟩
      · exact List.nodup_cons.mpr ⟨p6, p4⟩
      · rcases List.mem_cons.mp ha with w | w
        · rw [w]; exact r1.back e.jH hD
        · exact r1.back e.jH (p5 a w)
theorem d_lc {α : Type} {wi : TI} {g : TG} {vs : List Nat} {l : List α} {en : α → Im} (p : α → Bool) (m : α → PyData) (hi : EvI c wi Γ fz (l.map en)) (hl : l.length ≤ 1000000)
    (hb : ∀ a ∈ l, ∃ Γ' js, EvG c g (en a) (wipeG Γ vs) Γ' js ∧ (∀ j ∈ js, j ∈ vs) ∧ EvT c tt Γ' (p a) ∧ (p a = true → Ev c te Γ' .o (m a))) :
    Ev c (tLc wi g tt te vs) Γ .o (.list ((l.filter p).map m)) := by
  refine ((n_lc (fun n acc => acc = ((l.take n).filter p).map m) hi (by simpa using hl) rfl ?_).imp ?_).det
  · intro n a acc hn hacc
    rw [List.getElem?_map] at hn
    cases ha : l[n]? with
    | none => rw [ha] at hn; cases hn
    | some a0 =>
      rw [ha] at hn
      have : en a0 = a := Option.some.inj hn
      subst this
      have tk : l.take (n + 1) = l.take n ++ [a0] := by
        rw [List.take_add_one, ha]; rfl
      obtain ⟨Γ', js, h1, h2, h3, h4⟩ := hb a0 (List.mem_of_getElem? ha)
      refine ⟨Γ', js, h1, h2, p a0, fun d => d = m a0, h3, fun hp => ⟨(h4 hp).n, fun d hd => ?_⟩, fun hp => ?_⟩
      · rw [hacc, tk, hd]; simp [hp]
      · rw [hacc, tk]; simp [hp]
  · rintro d ⟨acc, rfl, h⟩
    have : (l.map en).length = l.length := by simp
    rw [this, List.take_length] at h
    rw [h]
/-- without a test -/
theorem d_lcA {α : Type} {wi : TI} {g : TG} {vs : List Nat} {l : List α} {en : α → Im} (m : α → PyData) (hi : EvI c wi Γ fz (l.map en)) (hl : l.length ≤ 1000000)
    (hb : ∀ a ∈ l, ∃ Γ' js, EvG c g (en a) (wipeG Γ vs) Γ' js ∧ (∀ j ∈ js, j ∈ vs) ∧ Ev c te Γ' .o (m a)) :
    Ev c (tLc wi g tYes te vs) Γ .o (.list (l.map m)) := by
  have := d_lc (te := te) (tt := tYes) (g := g) (vs := vs) (fun _ => true) m hi hl fun a ha => by
    obtain ⟨Γ', js, h1, h2, h3⟩ := hb a ha
    exact ⟨Γ', js, h1, h2, t_yes, fun _ => h3⟩
  have e : l.filter (fun _ => true) = l := List.filter_eq_self.mpr fun _ _ => rfl
  rwa [e] at this
end Lm


namespace Lm
open PySem PySem.Spec PyProof.Rows L2
variable {c : Ct} {H H' H0 H1 H2 H3 : Hp} {O : List Addr} {σ : L2.St} {Γ Γ' Γ1 : List (Option Rs)}
variable {te ta tb tx tl : TE} {tt tu : TT} {tr : TA} {k ka kb : Kd} {d x y z : PyData} {i j : Int} {a b : Bool} {kv fz : Bool} {ds es : List PyData}

/-! ### how a statement ends -/
inductive Out where
  | nx (Γ : List (Option Rs))
  | rt (k : Kd) (d : PyData)
  | bk (Γ : List (Option Rs))
  | ct (Γ : List (Option Rs))
def Rt (c : Ct) (H0 H : Hp) (v : V) (d : PyData) : Kd → Prop
  | .v => flatD d = true ∧ Bo c H v d
  | .o => ∃ fp, Fo c H v d fp ∧ fp.Nodup ∧ ∀ a ∈ fp, H0 a = none
  | .b => (∃ x, c.so = some x) ∧ Bo c H v d
def Sat (c : Ct) (H0 : Hp) (D : Ends) : Out → Prop
  | .nx Γ => ∀ O H σ, Env c H0 O H σ Γ → D.nx σ H
  | .rt k d => ∀ v H, Rr c H0 H → Rt c H0 H v d k → D.rt v H
  | .bk Γ => ∀ O H σ, Env c H0 O H σ Γ → D.bk σ H
  | .ct Γ => ∀ O H σ, Env c H0 O H σ Γ → D.ct σ H
def Sd (c : Ct) (t : TS) (Γ : List (Option Rs)) (P : Out → Prop) : Prop :=
  ∀ H0 O H σ D, Env c H0 O H σ Γ → (∀ o, P o → Sat c H0 D o) → t D σ H
section
variable {t u w : TS} {P P1 : Out → Prop} {n : Nat}
theorem Env.back0 (e : Env c H0 O H σ Γ) {a : Addr} (h : mns H O a = none) : H0 a = none := by
  cases q : H0 a with
  | none => rfl
  | some o =>
    have k : okA c a := fun st l z w => by
      obtain ⟨ns, x, k, g1, _⟩ := e.j st l z
      rw [← w, h] at g1
      cases g1
    have := e.r0.1 a o k q
    rw [h] at this
    cases this
theorem s_next (h : P (.nx Γ)) : Sd c tNext Γ P := fun H0 O H σ D e s => s _ h O H σ e
theorem s_seq (h : Sd c t Γ P1) (hn : ∀ Γ1, P1 (.nx Γ1) → Sd c u Γ1 P) (hr : ∀ k d, P1 (.rt k d) → P (.rt k d)) (hb : ∀ Γ1, P1 (.bk Γ1) → P (.bk Γ1)) (hc : ∀ Γ1, P1 (.ct Γ1) → P (.ct Γ1)) : Sd c (tSeq t u) Γ P := fun H0 O H σ D e s =>
  h H0 O H σ _ e fun o po => match o with
    | .nx Γ1 => fun O1 H1 σ1 e1 => hn Γ1 po H0 O1 H1 σ1 D e1 s
    | .rt k d => fun v H1 r q => s _ (hr k d po) v H1 r q
    | .bk Γ1 => fun O1 H1 σ1 e1 => s _ (hb Γ1 po) O1 H1 σ1 e1
    | .ct Γ1 => fun O1 H1 σ1 e1 => s _ (hc Γ1 po) O1 H1 σ1 e1
theorem s_seq1 (h : Sd c t Γ (fun o => o = .nx Γ1)) (hn : Sd c u Γ1 P) : Sd c (tSeq t u) Γ P :=
  s_seq h (fun _ e => by cases e; exact hn) (fun _ _ e => nomatch e) (fun _ e => nomatch e) (fun _ e => nomatch e)
theorem Sd.imp (h : Sd c t Γ P1) (i : ∀ o, P1 o → P o) : Sd c t Γ P := fun H0 O H σ D e s => h H0 O H σ D e fun o po => s o (i o po)
/-- another description of the slots -/
theorem Sd.pre (h : Sd c t Γ1 P) (i : ∀ H0 O H σ, Env c H0 O H σ Γ → ∃ O', Env c H0 O' H σ Γ1) : Sd c t Γ P := fun H0 O H σ D e s => by
  obtain ⟨O', e'⟩ := i H0 O H σ e
  exact h H0 O' H σ D e' s
theorem s_freeze (h : Γ[n]? = some (some (.o d))) (hs : Sd c t (Γ.set n (some (.v d))) P) : Sd c t Γ P :=
  hs.pre fun H0 O H σ e => let ⟨O', e', _⟩ := e.freeze h; ⟨O', e'⟩
/-- what an expression gave is stored: to be returned -/
theorem Rt.of {v : V} (e : Env c H0 O H σ Γ) (r : Rr c H H2) (h : Res c O H H2 v d k) (hk : k = .o ∨ (k = .v ∧ flatD d = true)) : Rt c H0 H2 v d k := by
  rcases hk with rfl | ⟨rfl, f⟩
  · obtain ⟨fp, q, nd, new⟩ := h
    refine ⟨fp, q, nd, fun a ha => e.back0 ?_⟩
    have : a ∉ O := fun z => by
      obtain ⟨xs, w, _⟩ := e.dm a z
      rw [new a ha] at w; cases w
    rw [mns_out this]; exact new a ha
  · exact ⟨f, Bo.same mns_same h⟩
theorem s_ret (h : Ev c te Γ k d) (hk : k = .o ∨ (k = .v ∧ flatD d = true)) (p : P (.rt k d)) : Sd c (tRet te) Γ P := fun H0 O H σ D e s =>
  h H0 O H σ e _ fun v H2 r q => s _ p v H2 (e.rH.tr r) (Rt.of e r q hk)
theorem s_retN (Pd : PyData → Prop) (h : EvN c te Γ k Pd) (hk : k = .o ∨ (k = .v ∧ ∀ d, Pd d → flatD d = true)) (p : ∀ d, Pd d → P (.rt k d)) : Sd c (tRet te) Γ P := fun H0 O H σ D e s =>
  h H0 O H σ e _ fun v d H2 pd r q => s _ (p d pd) v H2 (e.rH.tr r) (Rt.of e r q (hk.imp id fun w => ⟨w.1, w.2 d pd⟩))
/-- what stays is returned, lists in it too: to be read at once -/
theorem s_retB {x : Addr × Addr} (Pd : PyData → Prop) (hs : c.so = some x) (h : EvN c te Γ .v Pd) (p : ∀ d, Pd d → P (.rt .b d)) : Sd c (tRet te) Γ P := fun H0 O H σ D e s =>
  h H0 O H σ e _ fun v d H2 pd r q => s _ (p d pd) v H2 (e.rH.tr r) ⟨⟨x, hs⟩, Bo.same mns_same q⟩
/-- a list of one's own is returned -/
theorem s_retO (h : Γ[n]? = some (some (.o d))) (p : P (.rt .o d)) : Sd c (tRet (tVar n)) Γ P := fun H0 O H σ D e s => by
  obtain ⟨v, fp, hv, f, nd, sub⟩ := e.slotO h
  exact ⟨v, hv, s _ p v H e.rH ⟨fp, f, nd, fun a ha => e.fr a (sub a ha)⟩⟩
theorem s_asg (h : Ev c te Γ .v d) (p : P (.nx (Γ.set n (some (.v d))))) : Sd c (tAsg te (gName n)) Γ P := fun H0 O H σ D e s =>
  h H0 O H σ e _ fun v H2 r q => s _ p O H2 _ ((e.on r).setV q)
theorem s_asgO (h : Ev c te Γ .o d) (p : P (.nx (Γ.set n (some (.o d))))) : Sd c (tAsg te (gName n)) Γ P := fun H0 O H σ D e s =>
  h H0 O H σ e _ fun v H2 r ⟨fp, f, nd, new⟩ => s _ p _ H2 _ (e.setO r f nd new)
theorem q_asg (h : Ev c te Γ .v d) (p : Sd c u (Γ.set n (some (.v d))) P) : Sd c (tSeq (tAsg te (gName n)) u) Γ P := s_seq1 (s_asg h rfl) p
theorem q_asgO (h : Ev c te Γ .o d) (p : Sd c u (Γ.set n (some (.o d))) P) : Sd c (tSeq (tAsg te (gName n)) u) Γ P := s_seq1 (s_asgO h rfl) p
theorem q_asgN (Pd : PyData → Prop) (h : EvN c te Γ .v Pd) (p : ∀ d, Pd d → Sd c u (Γ.set n (some (.v d))) P) : Sd c (tSeq (tAsg te (gName n)) u) Γ P := fun H0 O H σ D e s =>
  h H0 O H σ e _ fun v d H2 pd r q => p d pd H0 O H2 _ D ((e.on r).setV q) s
theorem q_asgNO (Pd : PyData → Prop) (h : EvN c te Γ .o Pd) (p : ∀ d, Pd d → Sd c u (Γ.set n (some (.o d))) P) : Sd c (tSeq (tAsg te (gName n)) u) Γ P := fun H0 O H σ D e s =>
  h H0 O H σ e _ fun v d H2 pd r ⟨fp, f, nd, new⟩ => p d pd H0 _ H2 _ D (e.setO r f nd new) s
theorem q_drop (h : Ev c te Γ k d) (p : Sd c u Γ P) : Sd c (tSeq (tDrop te) u) Γ P := fun H0 O H σ D e s =>
  h H0 O H σ e _ fun v H2 r q => p H0 O H2 σ D (e.on r) s
theorem s_drop (h : Ev c te Γ k d) (p : P (.nx Γ)) : Sd c (tDrop te) Γ P := fun H0 O H σ D e s =>
  h H0 O H σ e _ fun v H2 r q => s _ p O H2 σ (e.on r)
theorem s_if (h : EvT c tt Γ a) (h1 : a = true → Sd c t Γ P) (h2 : a = false → Sd c u Γ P) : Sd c (tIfS tt t u) Γ P := fun H0 O H σ D e s =>
  h H0 O H σ e _ fun H2 r => by
    cases a with
    | true => exact iteT (h1 rfl H0 O H2 σ D (e.on r) s)
    | false => exact iteF (h2 rfl H0 O H2 σ D (e.on r) s)
/-- if, then the rest -/
theorem q_if (h : EvT c tt Γ a) (h1 : a = true → Sd c (tSeq t w) Γ P) (h2 : a = false → Sd c (tSeq u w) Γ P) : Sd c (tSeq (tIfS tt t u) w) Γ P := fun H0 O H σ D e s =>
  h H0 O H σ e _ fun H2 r => by
    cases a with
    | true => exact iteT (h1 rfl H0 O H2 σ D (e.on r) s)
    | false => exact iteF (h2 rfl H0 O H2 σ D (e.on r) s)
theorem q_next (h : Sd c u Γ P) : Sd c (tSeq tNext u) Γ P := fun H0 O H σ D e s => h H0 O H σ D e s
theorem q_ret (h : Ev c te Γ k d) (hk : k = .o ∨ (k = .v ∧ flatD d = true)) (p : P (.rt k d)) : Sd c (tSeq (tRet te) u) Γ P := fun H0 O H σ D e s =>
  h H0 O H σ e _ fun v H2 r q => s _ p v H2 (e.rH.tr r) (Rt.of e r q hk)
/-- if that surely is not so (or is) -/
theorem q_no (h : EvT c tt Γ false) (h2 : Sd c w Γ P) : Sd c (tSeq (tIfS tt t tNext) w) Γ P := q_if h (fun e => nomatch e) (fun _ => q_next h2)
theorem s_no (h : EvT c tt Γ false) (h2 : Sd c u Γ P) : Sd c (tIfS tt t u) Γ P := s_if h (fun e => nomatch e) (fun _ => h2)
theorem s_yes (h : EvT c tt Γ true) (h2 : Sd c t Γ P) : Sd c (tIfS tt t u) Γ P := s_if h (fun _ => h2) (fun e => nomatch e)
/-- x += e -/
theorem s_aug {f : Int → Int → Int} (hx : Γ[n]? = some (some (.v (.int i)))) (h : Ev c te Γ k (.int j)) (p : P (.nx (Γ.set n (some (.v (.int (f i j))))))) : Sd c (tAug n te (ipI f)) Γ P := fun H0 O H σ D e s => by
  obtain ⟨v, hv, b⟩ := e.slotV hx
  refine ⟨v, hv, h H0 O H σ e _ fun w H2 r q => ⟨i, j, b.int', (Res.bo e q).int', s _ p O H2 _ ((e.on r).setV (.int _))⟩⟩
/-- xs.append(e) -/
theorem s_app (hx : Γ[n]? = some (some (.o (.list ds)))) (h : Ev c te Γ k d) (hf : flatD d = true) (hl : ds.length < 1000000) (p : P (.nx (Γ.set n (some (.o (.list (ds ++ [d]))))))) : Sd c (tDrop (tBM c.K "list" rAppend (tVar n) (tCons te tNil))) Γ P := fun H0 O H σ D e s => by
  obtain ⟨q, xs, f, hq, hp, fa, qf, qO, _⟩ := e.write (es := ds ++ [d]) hx
  refine ⟨.ref q, hq, .inl ⟨rfl, xs, .inl (.inl hp)⟩, h H0 O H σ e _ fun v H2 r rs => ?_⟩
  have e2 := e.on r
  obtain ⟨q', xs', f', hq', hp', fa', qf', qO', wr⟩ := e2.write (es := ds ++ [d]) hx
  have : q' = q := by rw [hq] at hq'; cases hq'; rfl
  subst this
  have bo : Bo c H2 v d := Res.bo e rs
  have lx : xs'.length = ds.length := (fa'.bo fun a ha => e.okO a (qO' a ha)).len
  refine ⟨q', xs', v, rfl, rfl, hp', by rw [lx, sizeLine_eq]; omega, s _ p O _ σ (wr (xs' ++ [v]) ?_)⟩
  have := fa'.app (.cons (.leaf hf bo) .nil : FoAll c H2 [v] [d] ([] ++ []))
  rw [List.append_nil, List.append_nil] at this
  exact this.up (fun _ _ s => sqT_upd hp' s) fun a ha o z => by
    have : a ≠ q' := fun w => qf' (w ▸ ha)
    rw [upd_ne this]; exact z
theorem FoAll.set0 : ∀ {v : List V} {d : List PyData} {m : Nat} {x : V} {e : PyData}, FoAll c H v d [] → flatD e = true → Bo c H x e → FoAll c H (v.set m x) (d.set m e) [] := by
  intro v
  induction v with
  | nil =>
    intro d m x e h q b
    cases h
    exact .nil
  | cons v0 v ih =>
    intro d m x e h q b
    generalize hz : ([] : List Addr) = z at h
    cases h with
    | cons a r =>
      obtain ⟨h1, h2⟩ := List.append_eq_nil_iff.mp hz.symm
      subst h1
      subst h2
      cases m with
      | zero => exact .cons (f := []) (fs := []) (.leaf q b) r
      | succ m => exact .cons (f := []) (fs := []) a (ih r q b)
/-! ### for -/
theorem s_for {wi : TI} {g : TG} {tb : TS} {items : List Im} (hi : EvI c wi Γ true items) (I : Nat → List (Option Rs) → Prop) (h0 : I 0 Γ)
    (hs : ∀ n a Γ1, items[n]? = some a → I n Γ1 → ∃ Γ2 js, EvG c g a Γ1 Γ2 js ∧
      Sd c tb Γ2 (fun o => (∃ Γ3, (o = .nx Γ3 ∨ o = .ct Γ3) ∧ I (n + 1) Γ3) ∨ (∃ Γ3, o = .bk Γ3 ∧ P (.nx Γ3)) ∨ ∃ k d, o = .rt k d ∧ P o))
    (hd : ∀ Γ1, I items.length Γ1 → P (.nx Γ1)) : Sd c (tFor wi g tb) Γ P := fun H0 O H σ D e s =>
  hi H0 O H σ e _ fun J H1 r1 w => by
    obtain ⟨jF, w⟩ := w
    have e1 := e.on r1
    refine for_it w (fun n σ' H' => ∃ O' Γ', I n Γ' ∧ Env c (mns H1 O) O' H' σ' Γ') ⟨O, Γ, h0, e1.base⟩ ?_ ?_ ?_
    · rintro n σ' H' _ ⟨O', Γ', _, e'⟩
      exact e'.rH
    · rintro n x σ' H' H'' hn ⟨O', Γ', hI, e'⟩ ⟨sm, im, him, lo⟩
      have e2 := e'.on (Rr.same sm)
      obtain ⟨Γ2, js, hg, hb⟩ := hs n im Γ' him hI
      refine hg _ _ _ _ _ true x e2 jF e2.rH (fun _ => e2.r0) lo _ fun σ2 e3 _ => hb _ _ _ _ _ e3 fun o po => ?_
      rcases po with ⟨Γ3, ho, h3⟩ | ⟨Γ3, ho, h3⟩ | ⟨k, d, ho, h3⟩
      · rcases ho with rfl | rfl
        · exact fun O4 H4 σ4 e4 => ⟨O4, Γ3, h3, e4⟩
        · exact fun O4 H4 σ4 e4 => ⟨O4, Γ3, h3, e4⟩
      · subst ho
        exact fun O4 H4 σ4 e4 => s _ h3 O4 H4 σ4 (e1.fromB e4)
      · subst ho
        intro v H4 r4 rt
        refine s _ h3 v H4 ((e.r0.tr (r1.mns e.j e.okO)).tr r4) ?_
        cases k with
        | v => exact rt
        | o =>
          obtain ⟨fp, q, nd, new⟩ := rt
          exact ⟨fp, q, nd, fun a ha => e1.back0 (new a ha)⟩
        | b => exact rt
    · rintro σ' H' ⟨O', Γ', hI, e'⟩
      exact s _ (hd Γ' hI) O' H' σ' (e1.fromB e')
theorem q_for {wi : TI} {g : TG} {tb : TS} {items : List Im} (hi : EvI c wi Γ true items) (I : Nat → List (Option Rs) → Prop) (h0 : I 0 Γ)
    (hs : ∀ n a Γ1, items[n]? = some a → I n Γ1 → ∃ Γ2 js, EvG c g a Γ1 Γ2 js ∧
      Sd c tb Γ2 (fun o => (∃ Γ3, (o = .nx Γ3 ∨ o = .ct Γ3) ∧ I (n + 1) Γ3) ∨ (∃ Γ3, o = .bk Γ3 ∧ Sd c u Γ3 P) ∨ ∃ k d, o = .rt k d ∧ P o))
    (hd : ∀ Γ1, I items.length Γ1 → Sd c u Γ1 P) : Sd c (tSeq (tFor wi g tb) u) Γ P :=
  s_seq (P1 := fun o => match o with | .nx Γ3 => Sd c u Γ3 P | .rt k d => P (.rt k d) | _ => False)
    (s_for hi I h0 (fun n a Γ1 h1 h2 => by
      obtain ⟨Γ2, js, hg, hb⟩ := hs n a Γ1 h1 h2
      refine ⟨Γ2, js, hg, hb.imp fun o po => ?_⟩
      rcases po with w | ⟨Γ3, ho, h3⟩ | ⟨k, d, ho, h3⟩
      · exact .inl w
      · exact .inr (.inl ⟨Γ3, ho, h3⟩)
      · subst ho; exact .inr (.inr ⟨k, d, rfl, h3⟩)) hd) (fun _ h => h) (fun _ _ h => h) (fun _ h => h.elim) (fun _ h => h.elim)
end

/-! ### new tuples and lists; built-ins -/
theorem newTk {xs : List V} {Q : VK} (h : ∀ p H2, H p = none → Same H H2 → TpN c.K H2 p xs → Q (.ref p) H2) : NewT H xs Q := fun p o ho hp =>
  h p _ hp (fun b u z => by rw [upd_ne (ne_of_none z hp)]; exact z) (.inl ⟨o, ho, upd_same⟩)
theorem BoAll.vm {O : List Addr} {vs : List V} (h : BoAll c (if true = true then mns H O else H) vs ds) : BoAll c (mns H O) vs ds := h
theorem new_notO (e : Env c H0 O H σ Γ) {p : Addr} (h : H p = none) : p ∉ O := fun z => by
  obtain ⟨xs, w, _⟩ := e.dm p z
  rw [h] at w; cases w
theorem tpN_mns (e : Env c H0 O H σ Γ) (r : Rr c H H2) {p : Addr} {xs : List V} (h : TpN c.K H2 p xs) : TpN c.K (mns H2 O) p xs := sqT_mns (fun b hb => (e.on r).dm b hb) h
theorem d_tup (h : EvA c tr Γ true ds) (hl : ds.length ≤ 1000000) : Ev c (tTupN tr) Γ .v (.tuple ds) := fun H0 O H σ e Q q =>
  h H0 O H σ e _ fun vs H1 r s => by
    have s' := BoAll.vm s
    refine ⟨by rw [s'.len]; exact sizeOk hl, newTk (c := c) fun p H2 hp sm tp => q _ H2 (r.tr (Rr.same sm)) ?_⟩
    have r2 : Rr c H H2 := r.tr (Rr.same sm)
    exact .tup (tpN_mns e r2 tp) (s'.mono (e.on r).j ((Rr.same sm : Rr c H1 H2).mns (e.on r).j e.okO))
theorem d_lst (h : EvA c tr Γ kv ds) (hf : flatAll ds = true) (hl : ds.length ≤ 1000000) : Ev c (tLst tr) Γ .o (.list ds) := fun H0 O H σ e Q q =>
  h H0 O H σ e _ fun vs H1 r s => by
    have s' : BoAll c H1 vs ds := by
      cases kv with
      | true => exact BoAll.same mns_same (BoAll.vm s)
      | false => exact s
    refine ⟨by rw [s'.len]; exact sizeOk hl, fun p hp => q _ _ (r.tr (Rr.same fun b u z => by rw [upd_ne (ne_of_none z hp)]; exact z)) ?_⟩
    have sm : Same H1 (upd H1 p (.lst vs)) := fun b u z => by rw [upd_ne (ne_of_none z hp)]; exact z
    exact ⟨[p], .lst upd_same (FoAll.leaves hf (s'.same sm)), by simp, fun a ha => by
      have : a = p := by simpa using ha
      rw [this]; exact r.back e.jH hp⟩
/-- a call by values -/
theorem d_cb {r : List V → Hp → VK → Prop} (h : EvA c tr Γ false ds) (hr : ∀ H O vs (Q : VK), BoAll c H vs ds → (∀ v H2, Rr c H H2 → Bo c (mns H2 O) v z → Q v H2) → r vs H Q) : Ev c (tCB r tr) Γ .v z := fun H0 O H σ e Q q =>
  h H0 O H σ e _ fun vs H1 r1 s => hr H1 O vs Q s fun v H2 r2 b => q v H2 (r1.tr r2) b
theorem BoAll.one {v : List V} (h : BoAll c H v [d]) : ∃ x, v = [x] ∧ Bo c H x d := by
  cases h with
  | cons a b => cases b; exact ⟨_, rfl, a⟩
theorem BoAll.two {v : List V} (h : BoAll c H v [d, x]) : ∃ y z, v = [y, z] ∧ Bo c H y d ∧ Bo c H z x := by
  cases h with
  | cons a b =>
    cases b with
    | cons a' b => cases b; exact ⟨_, _, rfl, a, a'⟩
def rLen (K : PySem.W.Frag) : List V → Hp → VK → Prop := fun xs H Q => ∃ p ys, xs = [.ref p] ∧ (SqL K H p ys ∨ SqT K H p ys) ∧ Q (.int ys.length) H
theorem d_lenT (h : Ev c te Γ k (.tuple ds)) : Ev c (tCB (rLen c.K) (tCons te tNil)) Γ .v (.int ds.length) :=
  d_cb (a_cons h a_nil) fun H O vs Q s q => by
    obtain ⟨x, rfl, b⟩ := s.one
    obtain ⟨p, xs, rfl, s, al⟩ := b.tup'
    exact ⟨p, xs, rfl, .inr s.sq, by rw [al.len]; exact q _ H Rr.rf (.int _)⟩
theorem d_lenL (h : Ev c te Γ k (.list ds)) : Ev c (tCB (rLen c.K) (tCons te tNil)) Γ .v (.int ds.length) :=
  d_cb (a_cons h a_nil) fun H O vs Q s q => by
    obtain ⟨x, rfl, b⟩ := s.one
    obtain ⟨p, xs, rfl, _, s, al⟩ := b.lst'
    exact ⟨p, xs, rfl, .inl s, by rw [al.len]; exact q _ H Rr.rf (.int _)⟩
theorem d_all {bs : List Bool} (h : Ev c te Γ k (.list (bs.map .bool))) : Ev c (tCB (rAll c.K) (tCons te tNil)) Γ .v (.bool (bs.all id)) :=
  d_cb (a_cons h a_nil) fun H O vs Q s q => by
    obtain ⟨x, rfl, b⟩ := s.one
    obtain ⟨p, xs, rfl, _, s, al⟩ := b.lst'
    have := al.bools
    subst this
    exact ⟨p, bs, rfl, s, q _ H Rr.rf (.bl _)⟩
theorem n_tuple {P : List PyData → Prop} (h : EvN c te Γ k (fun d => ∃ ds, d = .list ds ∧ P ds)) (hf : ∀ ds, P ds → flatAll ds = true) : EvN c (tCB (rTuple c.K) (tCons te tNil)) Γ .v (fun d => ∃ ds, d = .tuple ds ∧ P ds) := fun H0 O H σ e Q q =>
  h H0 O H σ e _ fun v d H1 ⟨ds, hd, pd⟩ r s => by
    subst hd
    obtain ⟨p, xs, rfl, _, sl, al⟩ := (Res.bo e s).lst'
    refine ⟨p, xs, rfl, .inl ⟨sl, newTk (c := c) fun p' H2 hp sm tp => q _ (.tuple ds) H2 ⟨ds, rfl, pd⟩ (r.tr (Rr.same sm)) ?_⟩⟩
    have r2 : Rr c H H2 := r.tr (Rr.same sm)
    exact .tup (tpN_mns e r2 tp) ((al.same sm).flatTo (fun a xs s => sqT_mns (fun b hb => (e.on r2).dm b hb) s) (hf ds pd))
theorem d_tuple (h : Ev c te Γ k (.list ds)) (hf : flatAll ds = true) : Ev c (tCB (rTuple c.K) (tCons te tNil)) Γ .v (.tuple ds) :=
  ((n_tuple (P := fun es => es = ds) (h.n.imp fun d hd => ⟨ds, hd, rfl⟩) fun es he => he ▸ hf).imp fun d ⟨es, h1, h2⟩ => by rw [h1, h2]).det
end Lm


namespace Lm
open PySem PySem.Spec PyProof.Rows L2
variable {c : Ct} {H H' H0 H1 H2 H3 : Hp} {O : List Addr} {σ : L2.St} {Γ Γ' Γ1 : List (Option Rs)}
variable {te ta tb tx tl : TE} {tt tu : TT} {tr : TA} {k ka kb : Kd} {d x y z : PyData} {i j : Int} {a b : Bool} {kv fz : Bool} {ds es : List PyData}

/-! ### promises of defs over data -/
abbrev pc (K : PySem.W.Frag) : Ct := ⟨K, none⟩
/-- args, how the answer is held, the answer -/
abbrev Pre := List PyData → Kd → PyData → Prop
def spD (K : PySem.W.Frag) (pre : Pre) : Sp := fun vs H Q _ => ∃ ds k d, BoAll (pc K) H vs ds ∧ pre ds k d ∧ ∀ v H', Same H H' → Rt (pc K) H H' v d k → Q v H'
/-- with the stream first: one of several answers -/
abbrev PreS := List PyData → Kd → (PyData → Prop) → Prop
abbrev sc (K : PySem.W.Frag) (st l : Addr) : Ct := ⟨K, some (st, l)⟩
def spS (K : PySem.W.Frag) (pre : PreS) : Sp := fun vs H Q _ => ∃ st l vs' ds k P, vs = .ref st :: vs' ∧ Str1 K st l H ∧ BoAll (sc K st l) H vs' ds ∧ pre ds k P ∧ ∀ v d H', P d → Rr (sc K st l) H H' → Rt (sc K st l) H H' v d k → Q v H'
mutual
theorem Fo.ct {c' : Ct} (hk : c'.K = c.K) : ∀ {v : V} {d : PyData} {fp : List Addr}, Fo c H v d fp → Fo c' H v d fp
  | _, _, _, .leaf q b => .leaf q (b.flat hk q)
  | _, _, _, .lst e a => .lst e (FoAll.ct hk a)
theorem FoAll.ct {c' : Ct} (hk : c'.K = c.K) : ∀ {v : List V} {d : List PyData} {fp : List Addr}, FoAll c H v d fp → FoAll c' H v d fp
  | _, _, _, .nil => .nil
  | _, _, _, .cons a b => .cons (Fo.ct hk a) (FoAll.ct hk b)
end
theorem Rt.res {v : V} (e : Env c H0 O H σ Γ) (r : Rr c H H2) (h : Rt c H H2 v d k) : Res c O H H2 v d k := by
  cases k with
  | v => exact Bo.flatM e r h.1 h.2
  | o => exact h
  | b => exact h.2
theorem d_call {pre : Pre} {E : XK} (h : EvA c tr Γ false ds) (hp : pre ds k d) : Ev c (tCall (spD c.K pre) [] E tr) Γ k d := fun H0 O H σ e Q q =>
  h H0 O H σ e _ fun vs H1 r s => by
    refine ⟨ds, k, d, by rw [List.append_nil]; exact s.pure, hp, fun v H2 sm rt => q v H2 (r.tr (Rr.same sm)) ?_⟩
    have r2 : Rr c H H2 := r.tr (Rr.same sm)
    cases k with
    | v => exact (Bo.flat (c := pc c.K) (c' := c) rfl rt.1 rt.2).flatM e r2 rt.1
    | o =>
      obtain ⟨fp, f, nd, new⟩ := rt
      exact ⟨fp, Fo.ct (c := pc c.K) (c' := c) rfl f, nd, fun a ha => r.back e.jH (new a ha)⟩
    | b => obtain ⟨⟨_, e⟩, _⟩ := rt; exact nomatch e
theorem n_call {pre : PreS} {E : XK} {st l : Addr} {P : PyData → Prop} {n : Nat} (hc : c.so = some (st, l)) (hst : Γ[n]? = some (some (.r (.ref st)))) (h : EvA c tr Γ false ds) (hp : pre ds k P) :
    EvN c (tCall (spS c.K pre) [] E (tCons (tVar n) tr)) Γ k P := fun H0 O H σ e Q q => by
  have hcc : c = sc c.K st l := by cases c; cases hc; rfl
  refine ⟨_, e.slotR hst, h H0 O H σ e _ fun vs H1 r s => ?_⟩
  refine ⟨st, l, vs, ds, k, P, by simp, (e.on r).jH st l hc, by rw [← hcc]; exact s, hp, fun v d H2 pd r2 rt => ?_⟩
  rw [← hcc] at r2 rt
  refine q v d H2 pd (r.tr r2) ?_
  exact (Rt.res (e.on r) r2 rt).back e r
/-! ### a def's body -/
def argsG (ds : List PyData) (n : Nat) : List (Option Rs) := ds.map (fun d => some (.v d)) ++ List.replicate (n - ds.length) none
theorem reps_none {O : List Addr} : ∀ n : Nat, Reps c O H (List.replicate n none) (List.replicate n none) []
  | 0 => .nil
  | n + 1 => .cons (f := []) (fs := []) rfl (reps_none n)
theorem reps_args {O : List Addr} {rest : L2.St} {restG : List (Option Rs)} (hr : Reps c O H rest restG []) : ∀ {vs : List V} {ds : List PyData}, BoAll c (mns H O) vs ds → Reps c O H (vs.map some ++ rest) (ds.map (fun d => some (.v d)) ++ restG) []
  | _, _, .nil => hr
  | _, _, .cons a b => .cons (f := []) (fs := []) ⟨rfl, _, rfl, a⟩ (reps_args hr b)
theorem env_args {N : List Str} {vs : List V} (j : Ji c H) (h : BoAll c H vs ds) : Env c H [] H (start N vs) (argsG ds N.length) := by
  refine ⟨Rr.same (by rw [mns_nil]; exact Same.refl _), by rw [mns_nil]; exact j, (fun _ h => nomatch h), (fun _ h => nomatch h), [], ?_, List.nodup_nil, (fun _ h => nomatch h)⟩
  unfold L2.start argsG
  rw [h.len]
  exact reps_args (reps_none _) (by rw [mns_nil]; exact h)
theorem Ji.pc {K : PySem.W.Frag} {H : Hp} : Ji (pc K) H := fun _ _ e => nomatch e
/-- the body of a def without the stream -/
theorem run_pure {K : PySem.W.Frag} {N : List Str} {t : TS} {pre : Pre} {vs : List V} {Q : VK} {E : XK} (hs : ∀ ds k d, pre ds k d → Sd (pc K) t (argsG ds N.length) (fun o => o = .rt k d ∨ (k = .v ∧ d = .none ∧ ∃ Γ, o = .nx Γ)))
    (h : spD K pre vs H Q E) : t { nx := fun _ H' => Q .non H', rt := Q } (start N vs) H := by
  obtain ⟨ds, k, d, hb, hp, hq⟩ := h
  have sm : ∀ H', Rr (Lm.pc K) H H' → Same H H' := fun H' r a o z => r.1 a o (fun _ _ e => nomatch e) z
  refine hs ds k d hp H [] H (start N vs) _ (env_args Ji.pc hb) fun o po => ?_
  rcases po with rfl | ⟨rfl, rfl, Γ, rfl⟩
  · exact fun v H' r rt => hq v H' (sm H' r) rt
  · intro O H' σ e
    exact hq .non H' (sm H' (e.r0.tr (Rr.same mns_same))) ⟨rfl, .non⟩
theorem spD_len {K : PySem.W.Frag} {pre : Pre} {vs : List V} {Q : VK} {E : XK} {n : Nat} (h : spD K pre vs H Q E) (hl : ∀ ds k d, pre ds k d → ds.length = n) : vs.length = n := by
  obtain ⟨ds, k, d, hb, hp, _⟩ := h
  rw [hb.len, hl ds k d hp]
/-- the body of a def with the stream first -/
theorem run_str {K : PySem.W.Frag} {N : List Str} {t : TS} {pre : PreS} {vs : List V} {Q : VK} {E : XK}
    (hs : ∀ st l ds k P, pre ds k P → Sd (sc K st l) t (some (.r (.ref st)) :: (ds.map (fun d => some (.v d)) ++ List.replicate (N.length - (ds.length + 1)) none)) (fun o => ∃ d, o = .rt k d ∧ P d))
    (h : spS K pre vs H Q E) : t { nx := fun _ H' => Q .non H', rt := Q } (start N vs) H := by
  obtain ⟨st, l, vs', ds, k, P, rfl, hst, hb, hp, hq⟩ := h
  have j : Ji (sc K st l) H := fun st' l' e => by cases e; exact hst
  refine hs st l ds k P hp H [] H (start N (.ref st :: vs')) _ ⟨Rr.same (by rw [mns_nil]; exact Same.refl _), by rw [mns_nil]; exact j, (fun _ h => nomatch h), (fun _ h => nomatch h), [], ?_, List.nodup_nil, (fun _ h => nomatch h)⟩ fun o po => ?_
  · unfold L2.start
    have : (V.ref st :: vs').length = ds.length + 1 := by simp [hb.len]
    rw [this]
    exact .cons (f := []) (fs := []) ⟨rfl, rfl⟩ (reps_args (reps_none _) (by rw [mns_nil]; exact hb))
  · obtain ⟨d, rfl, pd⟩ := po
    exact fun v H' r rt => hq v d H' pd r rt
theorem spS_len {K : PySem.W.Frag} {pre : PreS} {vs : List V} {Q : VK} {E : XK} {n : Nat} (h : spS K pre vs H Q E) (hl : ∀ ds k P, pre ds k P → ds.length + 1 = n) : vs.length = n := by
  obtain ⟨st, l, vs', ds, k, P, rfl, _, hb, hp, _⟩ := h
  simp [hb.len, hl ds k P hp]
/-- what a caller knows of a def: where it stands, what it promises -/
structure Cal (P : Program) (w : World) (K : PySem.W.Frag) (mg : Str → Option Value) (base : Heap) (CX : CXT) (k : Nat) (x : Str) (ps : List Str) (sp : Sp) : Prop where
  ok : ∃ f fd, FnOk P w K mg base CX k f fd ps sp ∧ mg x = some (.ref f) ∧ PySem.W.keepIn K (.ref f) = true ∧ Binds K fd ps []
section
variable {X : Cx}
theorem pe_cal {CX : CXT} {E : XK} {k : Nat} {x : Str} {ps : List Str} {sp : Sp} {p pos : Pos} {e : Expr} {es : List Expr} {t : TA} (F : Cal X.prog X.w X.K X.mg X.base CX k x ps sp) (hr : Room k X.A) (hg : Gl X x) (hx : Passes CX X E) (ha : PA X (e :: es) t)
    (hdb : (x == ("__debug__" : Str)) = false := by decide) (he : starEach (e :: es) X.env = (false, eval e X.env) :: starEach es X.env := by rfl) (hpl : (backTo pos (starEach es X.env)).any (·.1) = false := by rfl) :
    PE X (.Call (.Name x p) (e :: es) [] pos) (tCall sp [] E t) := by
  obtain ⟨f, fd, F1, F2, F3, F4⟩ := F.ok
  exact pe_call F1 hr hg F2 F3 F4 .nil hx ha hdb he hpl
end
/-! ### methods of tuples -/
theorem d_count {ns : List Int} (h : Ev c ta Γ ka (.tuple (ns.map .int))) (hb : Ev c tb Γ kb (.int i)) : Ev c (tTM c.K (rCountT c.K) ta (tCons tb tNil)) Γ .v (.int (ns.count i : Nat)) := fun H0 O H σ e Q q =>
  h H0 O H σ e _ fun v H1 r1 s1 => by
    obtain ⟨p, xs, rfl, s, al⟩ := (Res.bo e s1).tup'
    refine ⟨⟨p, xs, rfl, s⟩, hb H0 O H1 σ (e.on r1) _ fun u H2 r2 s2 => ?_⟩
    obtain ⟨p', xs', e', s', al'⟩ := (Res.bo e (Res.on e r1 r2 s1)).tup'
    cases e'
    have := al'.ints
    subst this
    exact ⟨p, ns, i, rfl, by rw [(Res.bo (e.on r1) s2).int'], s'.sq, q _ H2 (r1.tr r2) (.int _)⟩
end Lm


namespace Lm
open PySem PySem.Spec PyProof.Rows L2
/-! ### enumerate(tuple) -/
/-- the turns of enumerate over the tuple at a: its items as they stand, each in a pair -/
def IteT (K : PySem.W.Frag) (a : Addr) : It where
  go := fun i H => ∃ (xs : List V) (x : V), SqT K H a xs ∧ xs[i]? = some x
  yld := fun i H v H' => ∃ T x, v = .ref T ∧ H T = none ∧ H' = upd H T (.tup [.int (i : Nat), x]) ∧ ∀ xs, SqT K H a xs → xs[i]? = some x
  stop := fun i H => ∃ xs : List V, SqT K H a xs ∧ xs.length = i
theorem turnEnumT {P : Program} {w : World} {K : PySem.W.Frag} {elts : List Expr} {kk : Nat} {tpos : Pos} (a e it : Addr) :
    Turn P w K (.Tuple elts kk tpos) (IteT K a) [e, it] e fun i h => (∃ old, IsEnum h e it ((i : Nat) : Int) old) ∧ h.IsTupleIter it a i ∧ e ≠ it ∧ a ≠ it where
  mem := List.mem_cons_self
  obj := by
    rintro i h ⟨⟨old, he⟩, ⟨o, ho, hc, hd⟩, _⟩ b hb
    rcases List.mem_cons.mp hb with rfl | hb
    · exact ⟨_, he, fun v q => nomatch q⟩
    · cases List.mem_singleton.mp hb
      exact ⟨o, ho, fun v q => by rw [hd] at q; cases q⟩
  keep := by
    rintro i h h' ⟨⟨old, he⟩, hi, hne⟩ k
    exact ⟨⟨old, k e List.mem_cons_self _ he⟩, hi.at fun o q => k it (List.mem_cons_of_mem _ List.mem_cons_self) o q, hne⟩
  item := by
    intro X hP hw hK hc i pins s σ H E I hf ⟨⟨old, he⟩, hit, hne, hai⟩ ⟨xs, x, hq, hx⟩
    subst hP hw hK
    obtain ⟨its, rv, p, hz⟩ := I.tuple hq
    obtain ⟨u, hu, ru⟩ := rv.get hx
    have hlt : i < its.toArray.size := by rw [List.size_toArray]; exact (List.getElem?_eq_some_iff.mp hu).1
    have hel := Heap.lt_size he
    have hil : it < s.heap.objs.size := let ⟨_, q, _⟩ := hit; Heap.lt_size q
    have hea : e ≠ a := fun z => by
      have h0 := (hf e List.mem_cons_self).1
      obtain ⟨ob, g, gc, n, gd⟩ := p
      rw [← z, he] at g
      cases g
      exact absurd gc (by simp)
    have DT := Draws.tuple (prog := X.prog) (w := X.w) (A := X.A.in1) (show X.A.in1.handled = none from I.ok.hd hc) it a hai its.toArray
    refine PySem.wpAny_pyNext_enum_itemD DT he ⟨hit, p⟩ hlt hne (by simpa [hne] using hea) fun x' h' tk hx' ho hs' hT hsz hk => ?_
    have ex : x' = u := by
      have : its[i]? = some x' := by simpa using hx'
      rw [hu] at this
      exact (Option.some.inj this).symm
    subst ex
    refine ⟨_, rfl, wpAny_letOwnedTupleGo_enum (s := { s with heap := h', toks := tk + 1 }) ho fun h'' he' sb => ?_⟩
    have hT2 := (sb.2 _ (Nat.ne_of_gt hel)).trans hT
    have new : ObjOk X.prog X.w (upd H s.heap.objs.size (.tup [.int (i : Nat), x])) h'' s.heap.objs.size (.tup [.int (i : Nat), x]) :=
      ⟨(by decide : 2 ≤ sizeLine), [.int i tk, x'], .cons ⟨_, rfl⟩ (.cons ru .nil), _, hT2, rfl, _, rfl⟩
    have I1 := I.turnedNew (t' := tk + 1) (ch := [e, it]) (fun b ob hb q => (sb.2 b fun z => hb (z ▸ List.mem_cons_self)).trans (hk b ob (fun z => hb (z ▸ List.mem_cons_self)) (fun z => hb (z ▸ List.mem_cons_of_mem _ List.mem_cons_self)) q)) hf (Nat.le_refl _) new
    refine ⟨.ref s.heap.objs.size, _, I1, rfl, ⟨_, x, rfl, I.hok.fresh (Nat.le_refl _), rfl, fun ys hy => by rw [I.tuple_inj hy hq]; exact hx⟩, ⟨⟨x', ?_⟩, hs'.1.at fun o q => (sb.2 it hne.symm).trans q, hne, hai⟩, fun b hb => ?_⟩
    · have e1 : ((i + 1 : Nat) : Int) = (i : Int) + 1 := by omega
      rw [e1]; exact he'
    · have hb' : b < s.heap.objs.size := by
        rcases List.mem_cons.mp hb with rfl | hb
        · exact hel
        · cases List.mem_singleton.mp hb; exact hil
      rw [upd_ne (Nat.ne_of_lt hb')]
      exact (hf b hb).1
  done := by
    intro X hP hw hK hc i pins s σ H E I hf ⟨⟨old, he⟩, hit, hne, hai⟩ ⟨xs, hq, hx⟩
    subst hP hw hK
    obtain ⟨its, rv, p, hz⟩ := I.tuple hq
    obtain ⟨f0, f1, f2, f3, f4, f5⟩ := hf it (List.mem_cons_of_mem _ List.mem_cons_self)
    have hl : its.toArray.size = i := by rw [List.size_toArray, ← rv.length]; exact hx
    have DT := Draws.tuple (prog := X.prog) (w := X.w) (A := X.A.in1) (show X.A.in1.handled = none from I.ok.hd hc) it a hai its.toArray
    rw [hl] at DT
    exact PySem.wpAny_pyNext_enum_endD DT he ⟨hit, p⟩
      fun h' eb => ⟨rfl, I.turned (t' := s.toks) (fun b o hb q => eb b o hb q) f0 f1 f3 f4 f5⟩
  self := fun A i s Q E ⟨⟨_, he⟩, _⟩ h => wpAny_pyIter_enum he h
theorem meetsEnumT {l : Addr} {items : Array Value} :
    Meets (Builtin.«enumerate.__new__» ⟨[.type "enumerate", .ref l], []⟩) fun _ R s => s.heap.IsTuple l items ∧
      R (.ok (.ret (.ref (s.heap.push { cls := .type "tuple_iterator", data := .fields #[.ref l, .int 0 0] }).objs.size)))
        { s with heap := (s.heap.push { cls := .type "tuple_iterator", data := .fields #[.ref l, .int 0 0] }).push { cls := .type "enumerate", data := .fields #[.none, .bool false, .ref s.heap.objs.size, rawInt 0, .none, .none] } } :=
  .of_wp fun prog w A R s h => by
    obtain ⟨hp, g, d, tk, os⟩ := s
    obtain ⟨hl, h⟩ := h
    have q1 : ∀ {A' : Around} {E Q : Value → Shared → Prop}, Q (.ref hp.objs.size) ⟨hp.push { cls := .type "tuple_iterator", data := .fields #[.ref l, .int 0 0] }, g, d, tk, os⟩ → wpAny (model prog w) A' (pyIter (.ref l)) Q E ⟨hp, g, d, tk, os⟩ := fun q => wpAny_pyIter_tuple hl q
    have hsub := sub_enumerate
    wp_walk using q1
    refine wpAny_stack_any fun st => wpAny_pure ?_
    split
    · rename_i c _ _ _ _ _
      cases (c == Value.type "enumerate") <;> (wp_walk using q1; exact ⟨_, rfl, h⟩)
    · wp_walk using q1
      exact ⟨_, rfl, h⟩
theorem callEnumT {prog : Program} {w : World} {A : Around} {E : Value → Shared → Prop} {s : Shared} {l : Addr} {items : Array Value} {Q : Value → Shared → Prop} (hL : s.heap.IsTuple l items)
    (h : ∀ h', IsEnum h' (s.heap.objs.size + 1) s.heap.objs.size 0 .none → h'.IsTupleIter s.heap.objs.size l 0 → (∀ b o, s.heap.get? b = some o → h'.get? b = some o) → Q (.ref (s.heap.objs.size + 1)) { s with heap := h' }) :
    wpAny (model prog w) A (call (.type "enumerate") [.ref l]) Q E s := by
  refine callType_new F.called_enumerate (by decide) (F.typeCall_enumerate_1 _) (F.newCall_enumerate_1 _) (fun obj => F.args_object_init_2 obj _) F.entry_enumerate_new meetsEnumT ⟨hL, ?_⟩
  generalize hto : ({ cls := .type "tuple_iterator", data := .fields #[.ref l, .int 0 0] } : Obj) = to
  have hz : (s.heap.push to).objs.size = s.heap.objs.size + 1 := Heap.size_push ..
  show _ ∧ _
  rw [hz]
  have he : IsEnum ((s.heap.push to).push { cls := .type "enumerate", data := .fields #[.none, .bool false, .ref s.heap.objs.size, rawInt 0, .none, .none] }) (s.heap.objs.size + 1) s.heap.objs.size 0 .none := by
    have := Heap.get?_push_size (s.heap.push to) (o := { cls := .type "enumerate", data := .fields #[.none, .bool false, .ref s.heap.objs.size, rawInt 0, .none, .none] }) rfl
    rw [hz] at this
    exact this
  have hfree : to.isFreed = false := by rw [← hto]; rfl
  refine ⟨⟨_, he, rfl⟩, h _ he ?_ fun b o x => Heap.get?_push_of_some _ (Heap.get?_push_of_some _ x)⟩
  exact ⟨to, Heap.get?_push_of_some _ (Heap.get?_push_size _ hfree), by rw [← hto], by rw [← hto]; rfl⟩
def iEnumA (K : PySem.W.Frag) (ta : TA) : TI := fun σ H R => ta σ H fun vs H1 => ∃ a xs, vs = [.ref a] ∧ ((SqL K H1 a xs ∧ R (Ite K a) H1) ∨ (SqT K H1 a xs ∧ R (IteT K a) H1))
theorem pi_enumA {X : Cx} {e : Expr} {ta : TA} {p pos tpos : Pos} {elts : List Expr} {kk : Nat} (hg : Gl X "enumerate") (hm : X.mg "enumerate" = none) (ha : PA X [e] ta) (hs : starEach [e] X.env = [(false, eval e X.env)] := by rfl) :
    PI X (.Tuple elts kk tpos) (.Call (.Name "enumerate" p) [e] [] pos) (iEnumA X.K ta) := by
  refine ⟨fun pins s σ H R I h => Call_ (ld_blt I hg hm boot_enumerate (PyProof.Rows.callWith_type1 (thn (ha.run pos pins s σ H _ I h) fun us s1 ⟨vs, H1, I1, r1, q1⟩ => ?_) hs rfl))⟩
  obtain ⟨a, xs, rfl, q⟩ := q1
  obtain ⟨u, rfl, ru⟩ := vals1 r1
  cases ru
  have fresh2 : ∀ b ∈ [s1.heap.objs.size + 1, s1.heap.objs.size], FpOk X pins H1 b := fun b hb => by
    have hle : s1.heap.objs.size ≤ b := by
      rcases List.mem_cons.mp hb with rfl | hb
      · exact Nat.le_succ _
      · cases List.mem_singleton.mp hb; exact Nat.le_refl _
    exact I1.fpOk hle (I1.hok.fresh hle)
  rcases q with ⟨hq, q⟩ | ⟨hq, q⟩
  · obtain ⟨its, rv, p', hz⟩ := I1.list hq
    refine call_enumerate_list p'.isList fun h' he hit hsz hk => wpAny_pyIter_enum he ?_
    exact ⟨_, _, _, _, H1, rfl, I1.kept (t' := s1.toks) hk, turn_enum a (s1.heap.objs.size + 1) s1.heap.objs.size, ⟨⟨.none, he⟩, hit, Nat.succ_ne_self _⟩, fresh2, q⟩
  · obtain ⟨its, rv, p', hz⟩ := I1.tuple hq
    have ha : a < s1.heap.objs.size := let ⟨_, g, _⟩ := p'; Heap.lt_size g
    refine callEnumT p' fun h' he hit hk => wpAny_pyIter_enum he ?_
    exact ⟨_, _, _, _, H1, rfl, I1.kept (t' := s1.toks) hk, turnEnumT a (s1.heap.objs.size + 1) s1.heap.objs.size, ⟨⟨.none, he⟩, hit, Nat.succ_ne_self _, Nat.ne_of_lt ha⟩, fresh2, q⟩
theorem walk_enumT {K : PySem.W.Frag} {a : Addr} {xs : List V} : Walk (IteT K a) xs.length (fun H => SqT K H a xs) (YPair (fun i => some (.int (i : Nat))) fun i => xs[i]?) where
  goes := fun i _ hi q => ⟨xs, xs[i], q, List.getElem?_eq_getElem hi⟩
  stops := fun _ q => ⟨xs, q, rfl⟩
  yields := fun i H v H' _ q ⟨T, x, h1, h2, h3, h4⟩ => ⟨T, _, x, h1, h2, h3, rfl, h4 xs q⟩
end Lm


namespace Lm
open PySem PySem.Spec PyProof.Rows L2
/-- the greatest one of these and m -/
def mxOf (m : Int) (ns : List Int) : Int := ns.foldl (fun m n => if n > m then n else m) m
section
variable {prog : Program} {w : World} {A : Around} {E : Value → Shared → Prop} {s : Shared}
/-- a call of a built-in function with keywords, by its tree -/
theorem callFnKw {id : String} {b : Builtin} {args : List Value} {kw : List (Str × Value)} {Q : Value → Shared → Prop} (hk : builtinKind id = none) (hp : plainId id = true) (hb : entryFor table id = some b) (ha : argsOk id ⟨args, kw⟩)
    (hc : wpAny (model prog w) A.in1 (b ⟨args, kw⟩) (fun fin s' => match fin with
      | .done f => (match (Except.ok f : Result) with | .ok (.ret v) => Q v s' | .ok _ => False | .error e => E e s')
      | .again c' => c'.quiet = true ∧ codeAny (model prog w) A c' (fun r s' => match r with | .ok (.ret v) => Q v s' | .ok _ => False | .error e => E e s') s') E s) :
    wpAny (model prog w) A (call (.builtin id) args kw) Q E s := by
  refine wpAny_call (codeAny_call_builtin hp hb ?_)
  simp only [checkBuiltinCall, hk]
  cases hsig : Manifest.signature? id with
  | none => exact wpAny_pure hc
  | some sig =>
    have h2 : Bind.checkArgs id sig ⟨args, kw⟩ = pure () := by simpa only [argsOk, hsig] using ha
    show wpAny _ A.in1 (Bind.checkArgs id sig ⟨args, kw⟩) _ _ s
    exact h2 ▸ wpAny_pure hc
/-- max's loop with any keywords, from the j-th item on, the greatest so far being m -/
theorem maxLoopKw {R : Result → Shared → Prop} {I a S : Addr} {its : Array Value} {ns : List Int} {kw : List (Str × Value)} (hh : A.handled = none) (hi : IntsAre its.toList ns) (hSI : S ≠ I) (hSa : S ≠ a) (haI : a ≠ I) :
    ∀ (k j : Nat) (s : Shared) (m : Int) (t : Tok) (c : Nat), ns.length - j = k → j ≤ ns.length → s.heap.IsTupleIter I a j → s.heap.IsTuple a its → s.heap.get? S = some { cls := .type "list", data := .seq #[.int m t, .int m t] c } →
    (∀ h' tk t', (∀ b o, b ≠ I → b ≠ S → s.heap.get? b = some o → h'.get? b = some o) → R (.ok (.ret (.int (mxOf m (ns.drop j)) t'))) { s with heap := h', toks := tk }) →
    codeAny (model prog w) A (.builtin "max.loop" ⟨[.ref I, .none, .ref S], kw⟩) R s := by
  have hname : (toString "max" ++ toString ".loop" : String) = "max.loop" := by decide
  have hsz : its.size = ns.length := by rw [← Array.length_toList]; exact hi.length
  have W := Walks.tuple (prog := prog) (w := w) (A := A.in1) hh I a haI its
  intro k
  induction k with
  | zero =>
    intro j s m t c hk hj hit ht hS hR
    have e : j = ns.length := by omega
    subst e
    refine codeAny_builtin F.entry_max_loop ?_
    rw [Around.under_plainId F.plain_max_loop _]
    show wpAny _ A.in1 (seqItems? (.ref S) >>= _) _ _ s
    refine wpAny_bind (wpAny_seqItems hS rfl (wpAny_bind (wpAny_tryCatch (W.done s _ _ (hsz ▸ ⟨hit, ht⟩) fun h' tk hk' => ?_))))
    have hS' := hk' S _ (by simpa using hSI) hS
    show wpAny _ A.in1 (updateSeq S (fun _ => #[]) >>= _) _ _ _
    refine wpAny_bind (wpAny_updateSeq hS' rfl (wpAny_bind (wpAny_letGo (wpAny_pure ?_))))
    have := hR (h'.update S (Obj.mapSeq fun _ => #[])) tk t fun b o hb hb' q => (Heap.get?_update_other _ _ hb'.symm).trans (hk' b o (by simpa using hb) q)
    rw [List.drop_length] at this
    exact this
  | succ k ih =>
    intro j s m t c hk hj hit ht hS hR
    have hlt : j < ns.length := by omega
    obtain ⟨tj, hjt⟩ := hi.get j ns[j] (List.getElem?_eq_getElem hlt)
    refine codeAny_builtin F.entry_max_loop ?_
    rw [Around.under_plainId F.plain_max_loop _]
    show wpAny _ A.in1 (seqItems? (.ref S) >>= _) _ _ s
    refine wpAny_bind (wpAny_seqItems hS rfl (wpAny_bind (wpAny_tryCatch (W.item j s _ _ (by omega) ⟨hit, ht⟩ fun v h' tk hP hst' hk' => ?_))))
    have ev : v = .int ns[j] tj := by
      have h1 : its.toList[j]? = some v := by simpa using hP
      rw [hjt] at h1
      exact (Option.some.inj h1).symm
    subst ev
    have hS' := hk' S _ (by simpa using hSI) hS
    have hdrop : ns.drop j = ns[j] :: ns.drop (j + 1) := List.drop_eq_getElem_cons hlt
    have gt : ∀ (s0 : Shared) (Q0 E0 : Value → Shared → Prop), Q0 (.bool (decide (ns[j] > m))) s0 → wpAny (model prog w) A.in1 (richCompare .Gt (.int ns[j] tj) (.int m t)) Q0 E0 s0 := fun s0 Q0 E0 q =>
      CmpOf.ints_gt (A := A.in1) (P := fun i v => (i = 0 ∧ v = .int ns[j] tj) ∨ (i = 1 ∧ v = .int m t)) (fun i => if i = 0 then ns[j] else m) (by rintro i v (⟨rfl, rfl⟩ | ⟨rfl, rfl⟩) <;> exact ⟨_, rfl⟩) 0 1 _ _ s0 Q0 E0 (.inl ⟨rfl, rfl⟩) (.inr ⟨rfl, rfl⟩) (by simpa using q)
    refine wpAny_bind (wpAny_pure ?_)
    refine wpAny_bind (wpAny_tryCatch (wpAny_holding (wpAny_bind (gt _ _ _ (wpAny_bind (wpAny_holding (wpAny_truthy_bool (wpAny_bind (wpAny_letGo (wpAny_pure ?_))))))))))
    by_cases hb : ns[j] > m
    · simp only [hb, decide_true, if_true]
      have e2 : mxOf m (ns.drop j) = mxOf ns[j] (ns.drop (j + 1)) := by
        rw [hdrop]
        exact congrArg (fun z => mxOf z (ns.drop (j + 1))) (if_pos hb)
      refine wpAny_bind (wpAny_updateSeq hS' rfl (wpAny_bind (wpAny_letGo ?_)))
      rw [hname]
      have oth : ∀ b o, b ≠ S → h'.get? b = some o → (h'.update S (Obj.mapSeq fun _ => #[.int ns[j] tj, .int ns[j] tj])).get? b = some o := fun b o q e => (Heap.get?_update_other _ _ q.symm).trans e
      refine wpAny_pure ⟨plainId_quiet F.plain_max_loop _, ih (j + 1) _ ns[j] tj _ (by omega) hlt (hst'.1.at fun o q => oth _ _ hSI.symm q) (hst'.2.at fun o q => oth _ _ hSa.symm q) (Heap.get?_update_self _ hS' rfl) fun h'' tk'' t'' hk'' => ?_⟩
      exact e2 ▸ hR h'' tk'' t'' fun b o hbI hbS q => hk'' b o hbI hbS (oth b o hbS (hk' b o (by simpa using hbI) q))
    · simp only [hb, decide_false, Bool.false_eq_true, if_false]
      have e2 : mxOf m (ns.drop j) = mxOf m (ns.drop (j + 1)) := by
        rw [hdrop]
        exact congrArg (fun z => mxOf z (ns.drop (j + 1))) (if_neg hb)
      refine wpAny_bind (wpAny_letGo ?_)
      rw [hname]
      refine wpAny_pure ⟨plainId_quiet F.plain_max_loop _, ih (j + 1) _ m t c (by omega) hlt hst'.1 hst'.2 hS' fun h'' tk'' t'' hk'' => ?_⟩
      exact e2 ▸ hR h'' tk'' t'' fun b o hbI hbS q => hk'' b o hbI hbS (hk' b o (by simpa using hbI) q)
/-- max(t, default=d) of a tuple of ints -/
theorem callMaxD {a : Addr} {its : Array Value} {ns : List Int} {d : Value} {Q : Value → Shared → Prop} (hh : A.handled = none) (ht : s.heap.IsTuple a its) (hi : IntsAre its.toList ns)
    (h0 : ns = [] → ∀ h' tk, (∀ b o, s.heap.get? b = some o → h'.get? b = some o) → Q d { s with heap := h', toks := tk })
    (h1 : ∀ n ms, ns = n :: ms → ∀ h' tk t', (∀ b o, s.heap.get? b = some o → h'.get? b = some o) → Q (.int (mxOf n ms) t') { s with heap := h', toks := tk }) :
    wpAny (model prog w) A (call (.builtin "max") [.ref a] [("default", d)]) Q E s := by
  have hname : (toString "max" ++ toString ".loop" : String) = "max.loop" := by decide
  refine callFnKw F.kind_max F.plain_max F.entry_max (by unfold argsOk; kernel_rfl) ?_
  show wpAny _ A.in1 (Builtin.Builtins.bindParams "max" ["key", "default"] 0 ⟨[], [("default", d)]⟩ >>= _) _ _ s
  refine wpAny_bind (wpAny_of_eq (a := [none, some d]) rfl (wpAny_bind (wpAny_pure (wpAny_bind (wpAny_pyIter_tuple ht ?_)))))
  refine wpAny_bind (wpAny_newObj_type ?_)
  have haL : a < s.heap.objs.size := let ⟨_, g, _⟩ := ht; Heap.lt_size g
  generalize hhp : (s.heap.push { cls := .type "tuple_iterator", data := .fields #[.ref a, .int 0 0] }) = hp
  have hps : hp.objs.size = s.heap.objs.size + 1 := by rw [← hhp]; exact Heap.size_push ..
  have old : ∀ b o, s.heap.get? b = some o → hp.get? b = some o := fun b o q => by rw [← hhp]; exact Heap.get?_push_of_some _ q
  rw [hname]
  have W := Walks.tuple (prog := prog) (w := w) (A := A.in1) hh s.heap.objs.size a (Nat.ne_of_lt haL) its
  have sz : its.size = ns.length := by rw [← Array.length_toList]; exact hi.length
  have hS : (hp.push (seqObj "list" #[] 0)).get? hp.objs.size = some { cls := .type "list", data := .seq #[] 0 } := Heap.get?_push_size _ rfl
  have hitI : (hp.push (seqObj "list" #[] 0)).IsTupleIter s.heap.objs.size a 0 := ⟨_, Heap.get?_push_of_some _ (by rw [← hhp]; exact Heap.get?_push_size _ rfl), rfl, rfl⟩
  have htI : (hp.push (seqObj "list" #[] 0)).IsTuple a its := ht.at fun o q => Heap.get?_push_of_some _ (old _ _ q)
  have nIS : hp.objs.size ≠ s.heap.objs.size := by omega
  have nSa : hp.objs.size ≠ a := Nat.ne_of_gt (Nat.lt_of_lt_of_le haL (hps ▸ Nat.le_succ _))
  refine wpAny_pure ⟨plainId_quiet F.plain_max_loop _, codeAny_builtin F.entry_max_loop ?_⟩
  rw [Around.under_plainId F.plain_max_loop _]
  show wpAny _ A.in1 (seqItems? (.ref hp.objs.size) >>= _) _ _ _
  refine wpAny_bind (wpAny_seqItems hS rfl ?_)
  cases ns with
  | nil =>
    refine wpAny_bind (wpAny_tryCatch (W.done _ _ _ (sz ▸ ⟨hitI, htI⟩) fun h' tk hk => ?_))
    refine wpAny_bind (wpAny_rule (wpAny_pure ?_))
    exact h0 rfl h' tk fun b o q => hk b o (by simpa using Nat.ne_of_lt (Heap.lt_size q)) (Heap.get?_push_of_some _ (old b o q))
  | cons n ms =>
    obtain ⟨t0, ht0⟩ := hi.get 0 n rfl
    refine wpAny_bind (wpAny_tryCatch (W.item 0 _ _ _ (by rw [sz]; exact Nat.succ_pos _) ⟨hitI, htI⟩ fun v h' tk hP hst hk => ?_))
    have ev : v = .int n t0 := by
      have h1 : its.toList[0]? = some v := by simpa using hP
      rw [ht0] at h1
      exact (Option.some.inj h1).symm
    subst ev
    have hS' := hk _ _ (by simpa using nIS) hS
    refine wpAny_bind (wpAny_pure (wpAny_bind (wpAny_updateSeq hS' rfl ?_)))
    have oth : ∀ b o, b ≠ hp.objs.size → h'.get? b = some o → (h'.update hp.objs.size (Obj.mapSeq fun _ => #[.int n t0, .int n t0])).get? b = some o := fun b o q e => (Heap.get?_update_other _ _ q.symm).trans e
    rw [hname]
    refine wpAny_pure ⟨plainId_quiet F.plain_max_loop _, maxLoopKw hh hi nIS nSa (Nat.ne_of_lt haL) _ 1 _ n t0 _ rfl (Nat.succ_le_succ (Nat.zero_le _)) (hst.1.at fun o q => oth _ _ nIS.symm q) (hst.2.at fun o q => oth _ _ nSa.symm q) (Heap.get?_update_self _ hS' rfl) fun h'' tk'' t'' hk'' => ?_⟩
    refine h1 n ms rfl h'' tk'' t'' fun b o q => ?_
    have lb := Heap.lt_size q
    have b1 : b ≠ s.heap.objs.size := Nat.ne_of_lt lb
    have b2 : b ≠ hp.objs.size := Nat.ne_of_lt (Nat.lt_of_lt_of_le lb (hps ▸ Nat.le_succ _))
    exact hk'' b o b1 b2 (oth b o b2 (hk b o (by simpa using b1) (Heap.get?_push_of_some _ (old b o q))))
end
def rMaxDT (K : PySem.W.Frag) : List V → List V → Hp → VK → Prop := fun xs zs H Q => ∃ (a : Addr) (ns : List Int) (d : Int), xs = [.ref a] ∧ zs = [.int d] ∧ SqT K H a (ns.map V.int) ∧ Q (.int (match ns with | [] => d | n :: ms => mxOf n ms)) H
theorem cr_maxD {X : Cx} (hc : X.calm = true) : CallRK X (.builtin "max") [Str.ofString "default"] (rMaxDT X.K) := by
  intro pins s σ H vs zs us ws Q I r rz h
  obtain ⟨a, ns, d, rfl, rfl, hs, q⟩ := h
  obtain ⟨u, rfl, e⟩ := vals1 r
  cases e
  obtain ⟨w1, rfl, t, rfl⟩ := vals1 rz
  obtain ⟨its, rv, p, hz⟩ := I.tuple hs
  have hi := ints_of_vals rv
  refine callMaxD (ns := ns) (I.ok.hd hc) (show s.heap.IsTuple a its.toArray from p) hi (fun e h' tk hk => ?_) fun n ms e h' tk t' hk => ?_
  · subst e
    exact ⟨.int d, H, I.kept hk, ⟨_, rfl⟩, q⟩
  · subst e
    exact ⟨.int (mxOf n ms), H, I.kept hk, ⟨_, rfl⟩, q⟩
end Lm


namespace Lm
open PySem PySem.Spec PyProof.Rows L2
section
variable {X : Cx}
/-! ### rules that serve several kinds of values: the derivation need not know which -/
def rAddA (K : PySem.W.Frag) : R2 := fun x y H Q => rI0 (fun i j => .int (i + j)) x y H Q ∨ rCatN K x y H Q ∨ rCat x y H Q
theorem op_addA : OpR X (binaryOp .Add) (rAddA X.K) := op_add.or (op_catN.or op_cat)
def rMulA : R2 := fun x y H Q => rI CMul (fun i j => .int (i * j)) x y H Q ∨ rRep x y H Q
theorem op_mulA : OpR X (binaryOp .Mult) rMulA := op_mul.or op_rep
def rEqA (K : PySem.W.Frag) : R2 := fun x y H Q => rEq x y H Q ∨ rEqD K x y H Q
theorem op_eqA (hu : X.A.units + 64 < cLine) : OpR X (compareOp .Eq) (rEqA X.K) := op_eq.or (op_eqD hu)
def rNeA (K : PySem.W.Frag) : R2 := fun x y H Q => rNe x y H Q ∨ rNeD K x y H Q
theorem op_neA (hu : X.A.units + 64 < cLine) : OpR X (compareOp .NotEq) (rNeA X.K) := op_ne.or (op_neD hu)
def iSeq (K : PySem.W.Frag) (tl : TE) : TI := fun σ H R => iList K tl σ H R ∨ iTup K tl σ H R
theorem pi_seq {e tg : Expr} {tl : TE} (h : PE X e tl) : PI X tg e (iSeq X.K tl) := by
  refine ⟨fun pins s σ H R I q => ?_⟩
  rcases q with q | q
  · exact (pi_list h).run pins s σ H R I q
  · exact (pi_tup h).run pins s σ H R I q
def rUnits {k : Nat} {A : Around} (hr : Room k A) : A.units + 64 < cLine := by have := hr.un; omega
end
variable {c : Ct} {H H' H0 H1 H2 H3 : Hp} {O : List Addr} {σ : L2.St} {Γ Γ' Γ1 : List (Option Rs)}
variable {te ta tb tx tl : TE} {tt tu : TT} {tr : TA} {k ka kb kc : Kd} {d x y z : PyData} {i j : Int} {a b : Bool} {kv fz : Bool} {ds es : List PyData}
theorem e_add (ha : Ev c ta Γ ka (.int i)) (hb : Ev c tb Γ kb (.int j)) : Ev c (tOp (rAddA c.K) ta tb) Γ .v (.int (i + j)) :=
  d_bin ha hb fun H O v u Q bv bu q => .inl ⟨i, j, bv.int', bu.int', q _ H Rr.rf (.int _)⟩
theorem e_eqI (ha : Ev c ta Γ ka (.int i)) (hb : Ev c tb Γ kb (.int j)) : Ev c (tOp (rEqA c.K) ta tb) Γ .v (.bool (decide (i = j))) :=
  d_bin ha hb fun H O v u Q bv bu q => .inl ⟨by rw [bv.int', bu.int']; rfl, by rw [bv.int', bu.int', decI]; exact q _ H Rr.rf (.bl _)⟩
theorem e_neI (ha : Ev c ta Γ ka (.int i)) (hb : Ev c tb Γ kb (.int j)) : Ev c (tOp (rNeA c.K) ta tb) Γ .v (.bool (!decide (i = j))) :=
  d_bin ha hb fun H O v u Q bv bu q => .inl ⟨by rw [bv.int', bu.int']; rfl, by rw [bv.int', bu.int', decI]; exact q _ H Rr.rf (.bl _)⟩
theorem e_eqS {v w : V} (ha : Ev c ta Γ ka x) (hb : Ev c tb Γ kb y) (hx : scalD x = some v) (hy : scalD y = some w) (hs : scal v w = true) (hz : decide (v = w) = a) : Ev c (tOp (rEqA c.K) ta tb) Γ .v (.bool a) :=
  d_bin ha hb fun H O v' u' Q bv bu q => .inl ⟨by rw [bv.scal hx, bu.scal hy]; exact hs, by rw [bv.scal hx, bu.scal hy, hz]; exact q _ H Rr.rf (.bl _)⟩
theorem e_eqD (ha : Ev c ta Γ ka x) (hb : Ev c tb Γ kb y) (hx : SeqAt.shaped x = true) (hy : SeqAt.shaped y = true) : Ev c (tOp (rEqA c.K) ta tb) Γ .v (.bool (PyData.eqv x y)) :=
  d_bin ha hb fun H O v u Q bv bu q => .inr ⟨x, y, bv.dp, bu.dp, hx, hy, q _ H Rr.rf (.bl _)⟩
theorem e_ixT (ha : Ev c ta Γ ka (.tuple ds)) (hb : Ev c tb Γ kb (.int i)) (he : atI ds i = some d) (hf : flatD d = true) : Ev c (tOp (rIx c.K) ta tb) Γ .v d := fun H0 O H σ e Q q =>
  ha H0 O H σ e _ fun v H1 r1 s1 => hb H0 O H1 σ (e.on r1) _ fun u H2 r2 s2 => by
    obtain ⟨p, xs, rfl, s, al⟩ := (Res.bo e (Res.on e r1 r2 s1)).tup'
    obtain ⟨x, hx, bx⟩ := atI_bo al he
    exact .inr (.inl ⟨p, xs, i, x, rfl, (Res.bo (e.on r1) s2).int', s.sq, hx, q x H2 (r1.tr r2) (Bo.flatM e (r1.tr r2) hf bx)⟩)
theorem e_ixL (ha : Ev c ta Γ ka (.list ds)) (hb : Ev c tb Γ kb (.int i)) (he : atI ds i = some d) (hf : flatD d = true) : Ev c (tOp (rIx c.K) ta tb) Γ .v d := fun H0 O H σ e Q q =>
  ha H0 O H σ e _ fun v H1 r1 s1 => hb H0 O H1 σ (e.on r1) _ fun u H2 r2 s2 => by
    obtain ⟨p, xs, rfl, _, s, al⟩ := (Res.bo e (Res.on e r1 r2 s1)).lst'
    obtain ⟨x, hx, bx⟩ := atI_bo al he
    exact .inl ⟨p, xs, i, x, rfl, (Res.bo (e.on r1) s2).int', s, hx, q x H2 (r1.tr r2) (Bo.flatM e (r1.tr r2) hf bx)⟩
/-- an item of a frozen tuple, whatever it is -/
theorem e_ixTv (ha : Ev c ta Γ .v (.tuple ds)) (hb : Ev c tb Γ kb (.int i)) (he : atI ds i = some d) : Ev c (tOp (rIx c.K) ta tb) Γ .v d := fun H0 O H σ e Q q =>
  ha H0 O H σ e _ fun v H1 r1 s1 => hb H0 O H1 σ (e.on r1) _ fun u H2 r2 s2 => by
    obtain ⟨p, xs, rfl, s, al⟩ := Bo.tup' (Res.on e r1 r2 s1)
    obtain ⟨x, hx, bx⟩ := atI_bo al he
    exact .inr (.inl ⟨p, xs, i, x, rfl, (Res.bo (e.on r1) s2).int', (sqT_same mns_same s).sq, hx, q x H2 (r1.tr r2) bx⟩)
theorem e_ixLv (ha : Ev c ta Γ .v (.list ds)) (hb : Ev c tb Γ kb (.int i)) (he : atI ds i = some d) : Ev c (tOp (rIx c.K) ta tb) Γ .v d := fun H0 O H σ e Q q =>
  ha H0 O H σ e _ fun v H1 r1 s1 => hb H0 O H1 σ (e.on r1) _ fun u H2 r2 s2 => by
    obtain ⟨p, xs, rfl, _, s, al⟩ := Bo.lst' (Res.on e r1 r2 s1)
    obtain ⟨x, hx, bx⟩ := atI_bo al he
    exact .inl ⟨p, xs, i, x, rfl, (Res.bo (e.on r1) s2).int', mns_same.seq s, hx, q x H2 (r1.tr r2) bx⟩
/-- a < b < c of ints -/
theorem d_chain {f g : Int → Int → Bool} {l : Int} (ha : Ev c ta Γ ka (.int i)) (hb : Ev c tb Γ kb (.int j)) (hc : f i j = true → Ev c tx Γ kc (.int l)) :
    Ev c (tChain (rI0 fun i j => .bl (f i j)) (rI0 fun i j => .bl (g i j)) ta tb tx) Γ .v (.bool (f i j && g j l)) := fun H0 O H σ e Q q =>
  ha H0 O H σ e _ fun v H1 r1 s1 => hb H0 O H1 σ (e.on r1) _ fun u H2 r2 s2 => by
    refine ⟨i, j, (Res.bo e s1).int', (Res.bo (e.on r1) s2).int', f i j, rfl, ?_⟩
    cases hf : f i j with
    | true =>
      refine iteT (hc hf H0 O H2 σ ((e.on r1).on r2) _ fun w H3 r3 s3 => ?_)
      exact ⟨j, l, (Res.bo (e.on r1) s2).int', (Res.bo ((e.on r1).on r2) s3).int', by
        have := q (.bl (g j l)) H3 ((r1.tr r2).tr r3)
        rw [hf, Bool.true_and] at this
        exact this (.bl _)⟩
    | false =>
      refine iteF ?_
      have := q (.bl false) H2 (r1.tr r2)
      rw [hf, Bool.false_and] at this
      exact this (.bl _)
/-! ### isinstance -/
def tyD : PyData → String
  | .none => "NoneType"
  | .bool _ => "bool"
  | .int _ => "int"
  | .str _ => "str"
  | .list _ => "list"
  | .tuple _ => "tuple"
  | .dict _ => "dict"
theorem Bo.ty {v : V} (h : Bo c H v d) : TyX c.K H v (.type (tyD d)) := by
  cases h with
  | non => exact .base .non
  | bl b => exact .base (.bl b)
  | int i => exact .base (.int i)
  | str x => exact .base (.str x)
  | lst _ s a =>
    rcases s with (s | ⟨o, s⟩) | ⟨o, its, n, h1, h2, _⟩
    · exact .base (.lst s)
    · exact .base (.frz s)
    · exact .kList h1 h2
  | tup s a =>
    rcases s with ⟨o, _, s⟩ | ⟨o, its, n, h1, h2, _⟩
    · exact .fTuple s
    · exact .kTuple h1 h2
theorem e_isi {n : String} (h : Ev c te Γ k d) (e : kitB (tyD d) n = some b) : Ev c (tCB (rIsi c.K) (tCons te (tCons (tC (.ty n)) tNil))) Γ .v (.bool b) := fun H0 O H σ en Q q =>
  h H0 O H σ en _ fun v H1 r1 s1 => ⟨v, .ty n, _, _, b, rfl, .ty n, (Res.bo en s1).ty, kit_ty e, q _ H1 r1 (.bl b)⟩
/-! ### what is walked -/
theorem i_seqL (h : Ev c tl Γ k (.list ds)) (hk : k ≠ .b) : EvI c (iSeq c.K tl) Γ true (ds.map Im.d) := fun H0 O H σ e R q => .inl (i_list h hk H0 O H σ e R q)
theorem i_seqB (h : Ev c tl Γ k (.list ds)) (hf : flatAll ds = true) : EvI c (iSeq c.K tl) Γ false (ds.map Im.d) := fun H0 O H σ e R q => .inl (i_listB h hf H0 O H σ e R q)
theorem i_seqT (h : Ev c tl Γ k (.tuple ds)) (hk : k ≠ .b) : EvI c (iSeq c.K tl) Γ true (ds.map Im.d) := fun H0 O H σ e R q => .inr (i_tup h hk H0 O H σ e R q)
/-- the places and the items -/
def enumI (ds : List PyData) : List Im := ds.zipIdx.map fun p => .t [.d (.int (p.2 : Nat)), .d p.1]
theorem enum_core {J : It} {xs : List V} {F : Hp} (jF : Ji c F) (hw : Walk J xs.length (fun H => Rr c F H) (YPair (fun i => some (.int (i : Nat))) fun i => xs[i]?)) (hb : BoAll c F xs ds) (hf : fz = true ∨ flatAll ds = true) : WD c F fz J (enumI ds) := by
  refine ⟨jF, ?_⟩
  have hl : xs.length = (enumI ds).length := by rw [hb.len]; simp [enumI]
  rw [hl] at hw
  refine hw.mono (fun _ h => h) fun i H x H' hi g y => ?_
  obtain ⟨T, x1, x2, rfl, hT, rfl, h1, h2⟩ := y
  cases h1
  obtain ⟨d, hd, bd⟩ := hb.get h2
  have sm : Same H (upd H T (.tup [.int (i : Nat), x2])) := fun b o z => by rw [upd_ne (ne_of_none z hT)]; exact z
  refine ⟨sm, .t [.d (.int (i : Nat)), .d d], ?_, .tup (.inl (.inl upd_same)) (.cons (.leaf (.inl ⟨rfl, .int _⟩)) (.cons (.leaf ?_) .nil))⟩
  · simp [enumI, hd]
  · rcases hf with hf | hf
    · exact .inr ⟨hf, bd⟩
    · exact .inl ⟨flatAll_one hf (List.mem_of_getElem? hd), bd.mono jF (g.tr (Rr.same sm))⟩
theorem i_enumT (h : EvA c tr Γ true [.tuple ds]) : EvI c (iEnumA c.K tr) Γ true (enumI ds) := fun H0 O H σ e R q =>
  h H0 O H σ e _ fun vs H1 r s => by
    obtain ⟨x, rfl, b⟩ := (BoAll.vm s).one
    obtain ⟨p, xs, rfl, sl, al⟩ := b.tup'
    exact ⟨p, xs, rfl, .inr ⟨(sqT_same mns_same sl).sq, q _ H1 r (enum_core (e.on r).j (walk_enumT.mono (fun H h => (h.tup (e.on r).j sl).sq) fun _ _ _ _ _ _ y => y) al (.inl rfl))⟩⟩
/-- max(t, default=d) -/
def mxD (d : Int) : List Int → Int
  | [] => d
  | n :: ms => mxOf n ms
theorem e_maxD {ns : List Int} (h : Ev c ta Γ ka (.tuple (ns.map .int))) (hb : Ev c tb Γ kb (.int i)) : Ev c (tCKw (rMaxDT c.K) (tCons ta tNil) (tCons tb tNil)) Γ .v (.int (mxD i ns)) := fun H0 O H σ e Q q =>
  h H0 O H σ e _ fun v H1 r1 s1 => hb H0 O H1 σ (e.on r1) _ fun u H2 r2 s2 => by
    obtain ⟨p, xs, rfl, s, al⟩ := (Res.bo e (Res.on e r1 r2 s1)).tup'
    have := al.ints
    subst this
    refine ⟨p, ns, i, rfl, by rw [(Res.bo (e.on r1) s2).int'], s.sq, ?_⟩
    cases ns with
    | nil => exact q _ H2 (r1.tr r2) (.int _)
    | cons n ms => exact q _ H2 (r1.tr r2) (.int _)
end Lm


namespace Lm
open PySem PySem.Spec PyProof.Rows L2
section
variable {prog : Program} {w : World} {A : Around} {E : Value → Shared → Prop} {s : Shared}
/-- iter(t), what it takes to walk t -/
theorem iterTup {a : Addr} {its : Array Value} {Q : Value → Shared → Prop} (ht : s.heap.IsTuple a its)
    (h : ∀ s2 : Shared, s2 = { s with heap := s.heap.push { cls := .type "tuple_iterator", data := .fields #[.ref a, .int 0 0] } } → s2.heap.IsTupleIter s.heap.objs.size a 0 ∧ s2.heap.IsTuple a its → (∀ b ∈ [s.heap.objs.size, a], b < s2.heap.objs.size) → a ≠ s.heap.objs.size →
      (∀ b o, s.heap.get? b = some o → b ∉ [s.heap.objs.size] ∧ s2.heap.get? b = some o) → Q (.ref s.heap.objs.size) s2) : wpAny (model prog w) A (pyIter (.ref a)) Q E s := by
  have hlt : a < s.heap.objs.size := let ⟨_, g, _⟩ := ht; Heap.lt_size g
  refine wpAny_pyIter_tuple ht (h _ rfl ⟨⟨_, Heap.get?_push_size _ rfl, rfl, rfl⟩, ht.at fun o q => Heap.get?_push_of_some _ q⟩ (fun b hb => ?_) (Nat.ne_of_lt hlt) fun b o q => ⟨by simpa using Nat.ne_of_lt (Heap.lt_size q), Heap.get?_push_of_some _ q⟩)
  show b < (s.heap.push _).objs.size
  rw [Heap.size_push]
  rcases List.mem_cons.mp hb with rfl | hb
  · exact Nat.lt_succ_self _
  · cases List.mem_singleton.mp hb
    exact Nat.lt_succ_of_lt hlt
theorem preSum_take (ns : List Int) : ∀ j, j ≤ ns.length → preSum (fun i => ns.getD i 0) j = (ns.take j).sum
  | 0, _ => rfl
  | j + 1, h => by
    have e : ns[j]? = some ns[j] := List.getElem?_eq_getElem h
    rw [preSum, preSum_take ns j (Nat.le_of_succ_le h), sum_take e, List.getD_eq_getElem?_getD, e]
    rfl
theorem callSumT {a : Addr} {its : Array Value} {ns : List Int} {Q : Value → Shared → Prop} (hh : A.handled = none) (ht : s.heap.IsTuple a its) (hi : IntsAre its.toList ns)
    (h : ∀ h' tk t', (∀ b o, s.heap.get? b = some o → h'.get? b = some o) → Q (.int ns.sum t') { s with heap := h', toks := tk }) : wpAny (model prog w) A (call (.builtin "sum") [.ref a]) Q E s := by
  have hsz : its.size = ns.length := by rw [← Array.length_toList]; exact hi.length
  refine call_sum_walkG (iterTup ht fun s2 e st hfp hne old => ?_)
  refine ⟨_, _, _, ns.length, _, _, fun i => ns.getD i 0, rfl, hsz ▸ Walks.tuple (A := A.in1) hh _ a hne its, st, hfp, fun i v q => ?_, fun h' tk t' hk => ?_⟩
  · have h1 : its.toList[i]? = some v := by simpa using q
    have hlt : i < ns.length := by rw [← hi.length]; exact (List.getElem?_eq_some_iff.mp h1).1
    obtain ⟨t, h2⟩ := hi.get i ns[i] (List.getElem?_eq_getElem hlt)
    rw [h1] at h2
    refine ⟨t, ?_⟩
    show v = Value.int (ns.getD i 0) t
    rw [List.getD_eq_getElem?_getD, List.getElem?_eq_getElem hlt]
    exact Option.some.inj h2
  · rw [preSum_take ns _ (Nat.le_refl _), List.take_length]
    subst e
    exact h h' tk t' fun b o q => hk b o (old b o q).1 (old b o q).2
end
def rSumT (K : PySem.W.Frag) : List V → Hp → VK → Prop := fun vs H Q => ∃ (a : Addr) (ns : List Int), vs = [V.ref a] ∧ SqT K H a (ns.map V.int) ∧ Q (.int ns.sum) H
def rSumA (K : PySem.W.Frag) : List V → Hp → VK → Prop := fun vs H Q => rSum K vs H Q ∨ rSumT K vs H Q
section
variable {X : Cx}
theorem cr_sumT (hc : X.calm = true) : CallR X (.builtin "sum") (rSumT X.K) := by
  rintro pins s σ H vs us Q I r ⟨a, ns, rfl, hs, q⟩
  obtain ⟨its, rv, p, _⟩ := I.tuple hs
  rw [Vals.ref1 r]
  exact callSumT (I.ok.hd hc) (show s.heap.IsTuple a its.toArray from p) rv.ints fun h' tk t' hk => ⟨.int _, H, I.kept hk, ⟨_, rfl⟩, q⟩
theorem cr_sumA (hc : X.calm = true) : CallR X (.builtin "sum") (rSumA X.K) := (cr_sum hc).or (cr_sumT hc)
theorem cr_len : CallR X (.builtin "len") (rLen X.K) := call_len_seq
/-- a module's int -/
theorem pe_const {x : Str} {n : Int} {pos : Pos} (hg : Gl X x) (hm : ∃ t, X.mg x = some (.int n t)) (hd : (x == ("__debug__" : Str)) = false := by decide) : PE X (.Name x pos) (tC (.int n)) := by
  obtain ⟨t, h⟩ := hm
  exact pe_glob hg h ⟨t, rfl⟩ hd
/-- a built-in class as a value -/
theorem pe_ty {x : Str} {n : String} {pos : Pos} (hg : Gl X x) (hm : X.mg x = none) (hv : bootBuiltins x = some (.type n)) (hn : x ≠ "__name__" := by decide) (hd : (x == ("__debug__" : Str)) = false := by decide) : PE X (.Name x pos) (tC (.ty n)) :=
  pe_bltn hg hm hv rfl hn hd
/-- list(x) -/
def rListA (K : PySem.W.Frag) : List V → Hp → VK → Prop := fun xs H Q => ∃ p ys, xs = [.ref p] ∧ (SqL K H p ys ∨ SqT K H p ys) ∧ ∀ l, H l = none → Q (.ref l) (upd H l (.lst ys))
theorem cr_list : CallR X (.type "list") (rListA X.K) := call_list_of
end
variable {c : Ct} {H H' H0 H1 H2 H3 : Hp} {O : List Addr} {σ : L2.St} {Γ Γ' Γ1 : List (Option Rs)}
variable {te ta tb tx tl : TE} {tt tu : TT} {tr : TA} {k ka kb kc : Kd} {d x y z : PyData} {i j : Int} {a b : Bool} {kv fz : Bool} {ds es : List PyData}
theorem e_sumT {ns : List Int} (h : Ev c te Γ k (.tuple (ns.map .int))) : Ev c (tCB (rSumA c.K) (tCons te tNil)) Γ .v (.int ns.sum) :=
  d_cb (a_cons h a_nil) fun H O vs Q s q => by
    obtain ⟨x, rfl, b⟩ := s.one
    obtain ⟨p, xs, rfl, s, al⟩ := b.tup'
    have := al.ints
    subst this
    exact .inr ⟨p, ns, rfl, s.sq, q _ H Rr.rf (.int _)⟩
theorem e_sumL {ns : List Int} (h : Ev c te Γ k (.list (ns.map .int))) : Ev c (tCB (rSumA c.K) (tCons te tNil)) Γ .v (.int ns.sum) :=
  d_cb (a_cons h a_nil) fun H O vs Q s q => by
    obtain ⟨x, rfl, b⟩ := s.one
    obtain ⟨p, xs, rfl, _, s, al⟩ := b.lst'
    have := al.ints
    subst this
    exact .inl ⟨p, ns, rfl, s, q _ H Rr.rf (.int _)⟩
theorem e_listT (h : Ev c te Γ k (.tuple ds)) (hf : flatAll ds = true) : Ev c (tCB (rListA c.K) (tCons te tNil)) Γ .o (.list ds) := fun H0 O H σ e Q q =>
  h H0 O H σ e _ fun v H1 r s => by
    obtain ⟨p, xs, rfl, sl, al⟩ := (Res.bo e s).tup'
    refine ⟨p, xs, rfl, .inr sl.sq, fun l hl => ?_⟩
    have sm : Same H1 (upd H1 l (.lst xs)) := fun b u z => by rw [upd_ne (ne_of_none z hl)]; exact z
    exact q _ _ (r.tr (Rr.same sm)) ⟨[l], .lst upd_same (FoAll.leaves hf (al.same sm)), by simp, fun a ha => by
      cases List.mem_singleton.mp ha
      exact r.back e.jH hl⟩
end Lm
namespace Lm
open PySem PySem.Spec PyProof.Rows L2
variable {c : Ct} {Γ : List (Option Rs)} {te : TE} {tt : TT} {fz : Bool} {α : Type} {wi : TI} {g : TG} {vs : List Nat} {l : List α} {en : α → Im}
theorem d_lcB (m : α → Bool) (hi : EvI c wi Γ fz (l.map en)) (hl : l.length ≤ 1000000)
    (hb : ∀ a ∈ l, ∃ Γ' js, EvG c g (en a) (wipeG Γ vs) Γ' js ∧ (∀ j ∈ js, j ∈ vs) ∧ ∃ k, Ev c te Γ' k (.bool (m a))) : Ev c (tLc wi g tYes te vs) Γ .o (.list ((l.map m).map .bool)) := by
  have := d_lcA (te := te) (g := g) (vs := vs) (fun a => PyData.bool (m a)) hi hl fun a ha => by
    obtain ⟨Γ', js, h1, h2, k, h3⟩ := hb a ha
    exact ⟨Γ', js, h1, h2, h3.fo rfl⟩
  rw [List.map_map]
  exact this
theorem d_lcI (m : α → Int) (hi : EvI c wi Γ fz (l.map en)) (hl : l.length ≤ 1000000)
    (hb : ∀ a ∈ l, ∃ Γ' js, EvG c g (en a) (wipeG Γ vs) Γ' js ∧ (∀ j ∈ js, j ∈ vs) ∧ ∃ k, Ev c te Γ' k (.int (m a))) : Ev c (tLc wi g tYes te vs) Γ .o (.list ((l.map m).map .int)) := by
  have := d_lcA (te := te) (g := g) (vs := vs) (fun a => PyData.int (m a)) hi hl fun a ha => by
    obtain ⟨Γ', js, h1, h2, k, h3⟩ := hb a ha
    exact ⟨Γ', js, h1, h2, h3.fo rfl⟩
  rw [List.map_map]
  exact this
theorem d_lcPI (p : α → Bool) (m : α → Int) (hi : EvI c wi Γ fz (l.map en)) (hl : l.length ≤ 1000000)
    (hb : ∀ a ∈ l, ∃ Γ' js, EvG c g (en a) (wipeG Γ vs) Γ' js ∧ (∀ j ∈ js, j ∈ vs) ∧ EvT c tt Γ' (p a) ∧ (p a = true → ∃ k, Ev c te Γ' k (.int (m a)))) : Ev c (tLc wi g tt te vs) Γ .o (.list (((l.filter p).map m).map .int)) := by
  have := d_lc (te := te) (tt := tt) (g := g) (vs := vs) p (fun a => PyData.int (m a)) hi hl fun a ha => by
    obtain ⟨Γ', js, h1, h2, h3, h4⟩ := hb a ha
    exact ⟨Γ', js, h1, h2, h3, fun q => let ⟨k, h⟩ := h4 q; h.fo rfl⟩
  rw [List.map_map]
  exact this
end Lm
namespace Lm
open PySem
theorem flatT (ns : List Int) : flatD (.tuple (ns.map .int)) = true := flatAll_ints ns
end Lm
namespace Lm
open PySem PySem.Spec PyProof.Rows L2
def pairI (p : Int × Nat) : Im := .t [.d (.int ((p.2 : Nat) : Int)), .d (.int p.1)]
theorem enumI_ints (ns : List Int) : enumI (ns.map .int) = ns.zipIdx.map pairI := by
  unfold enumI
  rw [List.zipIdx_map, List.map_map]
  rfl
theorem i_enumTI {c : Ct} {Γ : List (Option Rs)} {tr : TA} {ns : List Int} (h : EvA c tr Γ true [.tuple (ns.map .int)]) : EvI c (iEnumA c.K tr) Γ true (ns.zipIdx.map pairI) := enumI_ints ns ▸ i_enumT h
end Lm
namespace Lm
open PySem PySem.Spec PyProof.Rows L2
def imI (n : Int) : Im := .d (.int n)
theorem i_seqTI {c : Ct} {Γ : List (Option Rs)} {tl : TE} {k : Kd} {ns : List Int} (h : Ev c tl Γ k (.tuple (ns.map .int))) (hk : k ≠ .b) : EvI c (iSeq c.K tl) Γ true (ns.map imI) := by
  have := i_seqT h hk
  rwa [List.map_map] at this
theorem kv_ne : Kd.v ≠ Kd.b := fun h => nomatch h
theorem ko_ne : Kd.o ≠ Kd.b := fun h => nomatch h
end Lm


/-! the rules, the written part given by name (within a comprehension's block it may not be read off the context) -/
namespace Lm
open PySem PySem.Spec PyProof.Rows L2
section
variable {X : Cx} {K : PySem.W.Frag} (hK : X.K = K)
include hK
theorem k_add : OpR X (binaryOp .Add) (rAddA K) := hK ▸ op_addA
theorem k_eq (hu : X.A.units + 64 < cLine) : OpR X (compareOp .Eq) (rEqA K) := hK ▸ op_eqA hu
theorem k_ne (hu : X.A.units + 64 < cLine) : OpR X (compareOp .NotEq) (rNeA K) := hK ▸ op_neA hu
theorem k_ix : IxR X (rIx K) := hK ▸ ix_seq
theorem k_slT : SlR X (rSlN K) := hK ▸ sl_tupN
theorem k_isi : CallR X (.builtin "isinstance") (rIsi K) := hK ▸ call_isi
theorem k_len : CallR X (.builtin "len") (rLen K) := hK ▸ cr_len
theorem k_all (hc : X.calm = true) : CallR X (.builtin "all") (rAll K) := hK ▸ cr_all hc
theorem k_sum (hc : X.calm = true) : CallR X (.builtin "sum") (rSumA K) := hK ▸ cr_sumA hc
theorem k_tuple : CallR X (.type "tuple") (rTuple K) := hK ▸ cr_tuple
theorem k_list : CallR X (.type "list") (rListA K) := hK ▸ cr_list
theorem k_maxD (hc : X.calm = true) : CallRK X (.builtin "max") [Str.ofString "default"] (rMaxDT K) := hK ▸ cr_maxD hc
theorem k_count : MtR X "tuple.count" (rCountT K) := hK ▸ mt_tcount
theorem k_seq {e tg : Expr} {tl : TE} (h : PE X e tl) : PI X tg e (iSeq K tl) := hK ▸ pi_seq h
theorem k_enum {e : Expr} {ta : TA} {p pos tpos : Pos} {elts : List Expr} {kk : Nat} (hg : Gl X "enumerate") (hm : X.mg "enumerate" = none) (ha : PA X [e] ta) (hs : starEach [e] X.env = [(false, eval e X.env)] := by rfl) :
    PI X (.Tuple elts kk tpos) (.Call (.Name "enumerate" p) [e] [] pos) (iEnumA K ta) := hK ▸ pi_enumA hg hm ha hs
theorem k_zip {e e2 : Expr} {ta : TA} {p pos tpos : Pos} {elts : List Expr} {kk : Nat} (hg : Gl X "zip") (hm : X.mg "zip" = none) (ha : PA X [e, e2] ta)
    (hs : starEach [e, e2] X.env = (false, eval e X.env) :: starEach [e2] X.env := by rfl) (hpl : (backTo pos (starEach [e2] X.env)).any (·.1) = false := by rfl) :
    PI X (.Tuple elts kk tpos) (.Call (.Name "zip" p) [e, e2] [] pos) (RZ.iZipA K ta) := hK ▸ RZ.pi_zipA hg hm ha hs hpl
theorem k_tup {es : List Expr} {k : Nat} {t : TGs} {n : Nat} {pos : Pos} (hc : X.calm = true) (h : PGs X es t)
    (hn : (assignEach es X.env).length = n := by rfl) (hst : (assignEach es X.env).findIdx? (·.1) = none := by rfl) : PG X (.Tuple es k pos) (gTup K n t) := hK ▸ pg_tup hc h hn hst
theorem k_tm {name : Str} {id : String} {r : V → List V → Hp → VK → Prop} {o e : Expr} {es : List Expr} {to : TE} {t : TA} {apos cpos : Pos} (slot : Slot "tuple" name id) (hty : typeOf (.builtin id) = pure (.type "method_descriptor")) (hm : MtR X id r) (ho : PE X o to) (ha : PA X (e :: es) t)
    (hbase : attributeBase o name X.env (eval o X.env) = eval o X.env := by rfl)
    (hfew : ((backTo cpos (starEach (e :: es) X.env)).all (fun x => !x.1) && (backToKw cpos (keywordEach [] X.env)).all (fun x => x.1.isSome) && decide ((e :: es).length + ([] : List Keyword).length + (if ([] : List Keyword).isEmpty then 0 else 1) < 30)) = true := by rfl)
    (hline : (apos.endLine == cpos.line) = true := by rfl) (hs : starEach (e :: es) X.env = (false, eval e X.env) :: starEach es X.env := by rfl) (hplain : (backTo cpos (starEach es X.env)).any (·.1) = false := by rfl) :
    PE X (.Call (.Attribute o name apos) (e :: es) [] cpos) (tTM K r to t) := hK ▸ pe_tm slot hty hm ho ha hbase hfew hline hs hplain
theorem k_bm {T : String} {name : Str} {id : String} {r : V → List V → Hp → VK → Prop} {o e : Expr} {es : List Expr} {to : TE} {t : TA} {apos cpos : Pos} (pa : PlainAttrs T) (slot : Slot T name id) (hty : typeOf (.builtin id) = pure (.type "method_descriptor")) (hm : MtR X id r) (ho : PE X o to) (ha : PA X (e :: es) t)
    (hbase : attributeBase o name X.env (eval o X.env) = eval o X.env := by rfl)
    (hfew : ((backTo cpos (starEach (e :: es) X.env)).all (fun x => !x.1) && (backToKw cpos (keywordEach [] X.env)).all (fun x => x.1.isSome) && decide ((e :: es).length + ([] : List Keyword).length + (if ([] : List Keyword).isEmpty then 0 else 1) < 30)) = true := by rfl)
    (hline : (apos.endLine == cpos.line) = true := by rfl) (hs : starEach (e :: es) X.env = (false, eval e X.env) :: starEach es X.env := by rfl) (hplain : (backTo cpos (starEach es X.env)).any (·.1) = false := by rfl) :
    PE X (.Call (.Attribute o name apos) (e :: es) [] cpos) (tBM K T r to t) := hK ▸ pe_bm pa slot hty hm ho ha hbase hfew hline hs hplain
end
end Lm


/-! the law's own start and end -/
namespace Lm
open PySem PySem.Spec PyProof.Rows L2
variable {c : Ct} {H H' H0 H1 H2 H3 : Hp} {O : List Addr} {σ : L2.St} {Γ Γ' Γ1 : List (Option Rs)}
variable {te ta tb tx tl : TE} {tt tu : TT} {tr : TA} {k ka kb kc : Kd} {d x y z : PyData} {i j : Int} {a b : Bool} {kv fz : Bool} {ds es : List PyData}
/-- law's: a list of at most 63 ints is handed in, True comes out -/
def spLaw (K : PySem.W.Frag) : Sp := fun vs H Q _ => ∃ (a : Addr) (ns : List Int), vs = [.ref a] ∧ SqL K H a (ns.map V.int) ∧ ns.length ≤ 63 ∧ ∀ H', Q (.bl true) H'
def spStream (K : PySem.W.Frag) : Sp := fun vs H Q _ => ∃ (a : Addr) (ns : List Int), vs = [.ref a] ∧ SqL K H a (ns.map V.int) ∧ ns.length ≤ 63 ∧ ∀ st l H', Same H H' → H st = none → Str1 K st l H' → Q (.ref st) H'
theorem run_law {K : PySem.W.Frag} {N : List Str} {t : TS} {vs : List V} {Q : VK} {E E' : XK} (hN : 2 ≤ N.length)
    (hs : ∀ st l, Sd (sc K st l) t (none :: some (.r (.ref st)) :: List.replicate (N.length - 2) none) (fun o => o = .rt .v (.bool true))) (h : spLaw K vs H Q E) :
    tSeq (tAsg (tCall (spStream K) [] E' (tCons (tVar 0) tNil)) (gName 1)) t { nx := fun _ H' => Q .non H', rt := Q } (start N vs) H := by
  obtain ⟨a, ns, rfl, hS, hl, hq⟩ := h
  have es : start N [.ref a] = some (.ref a) :: List.replicate (N.length - 1) none := rfl
  rw [es]
  refine ⟨.ref a, rfl, a, ns, rfl, hS, hl, fun st l H1 sm hst str => ?_⟩
  have j : Ji (sc K st l) H1 := fun st' l' e => by cases e; exact str
  refine hs st l H1 [] H1 _ _ ⟨Rr.same (by rw [mns_nil]; exact Same.refl _), by rw [mns_nil]; exact j, (fun _ h => nomatch h), (fun _ h => nomatch h), [], ?_, List.nodup_nil, (fun _ h => nomatch h)⟩ fun o po => ?_
  · have e2 : List.replicate (N.length - 1) (none : Option V) = none :: List.replicate (N.length - 2) none := by
      have : N.length - 1 = (N.length - 2) + 1 := by omega
      rw [this, List.replicate_succ]
    rw [e2]
    exact .cons (f := []) (fs := []) rfl (.cons (f := []) (fs := []) ⟨rfl, rfl⟩ (reps_none _))
  · subst po
    intro v H' _ rt
    have := rt.2.bl'
    subst this
    exact hq H'
/-! one of several answers -/
/-- some int with Q -/
abbrev SomeI (Q : Int → Prop) : PyData → Prop := fun d => ∃ n : Int, d = .int n ∧ Q n
theorem Ev.sm {Q : Int → Prop} (h : Ev c te Γ k (.int i)) (q : Q i) : EvN c te Γ k (SomeI Q) := h.n.imp fun d e => ⟨i, e, q⟩
end Lm


/-! what the defs promise -/
namespace Lm
open PySem PySem.Spec PyProof.Rows L2
/-- is an int from lo to hi -/
def isIntD : PyData → Int → Int → Bool
  | .int i, lo, hi => decide (lo ≤ i) && decide (i ≤ hi)
  | _, _, _ => false
def isIntTy : PyData → Bool
  | .int _ => true
  | .bool _ => true
  | _ => false
def isBoolTy : PyData → Bool
  | .bool _ => true
  | _ => false
theorem kit_int (x : PyData) : kitB (tyD x) "int" = some (isIntTy x) := by cases x <;> (simp only [tyD, isIntTy, isBoolTy]; decide +kernel)
theorem kit_bool (x : PyData) : kitB (tyD x) "bool" = some (isBoolTy x) := by cases x <;> (simp only [tyD, isIntTy, isBoolTy]; decide +kernel)
def sp_is_integer (K : PySem.W.Frag) : Sp := spD K fun ds k d => ∃ x lo hi, ds = [x, .int lo, .int hi] ∧ k = .v ∧ d = .bool (isIntD x lo hi)


def sp_require (K : PySem.W.Frag) : Sp := spD K fun ds k d => ∃ nm, ds = [.bool true, .str nm] ∧ k = .v ∧ d = .none
/-- a tuple of ints from lo to hi -/
def areInts : PyData → Int → Int → Bool
  | .tuple ds, lo, hi => ds.all fun d => isIntD d lo hi
  | _, _, _ => false
def isTupTy : PyData → Bool
  | .tuple _ => true
  | _ => false
theorem kit_tuple (x : PyData) : kitB (tyD x) "tuple" = some (isTupTy x) := by cases x <;> (simp only [tyD, isTupTy]; decide +kernel)
/-- tuples are not too long -/
def SmallT (x : PyData) : Prop := ∀ es, x = .tuple es → es.length ≤ 1000000
def sp_are_integers (K : PySem.W.Frag) : Sp := spD K fun ds k d => ∃ x lo hi, ds = [x, .int lo, .int hi] ∧ SmallT x ∧ k = .v ∧ d = .bool (areInts x lo hi)
theorem isInt_int {d : PyData} {lo hi : Int} (h : isIntD d lo hi = true) : ∃ n, d = .int n ∧ lo ≤ n ∧ n ≤ hi := by
  cases d with
  | int i =>
    simp only [isIntD, Bool.and_eq_true, decide_eq_true_eq] at h
    exact ⟨i, rfl, h.1, h.2⟩
  | _ => simp [isIntD] at h
theorem areInts_ints {x : PyData} {lo hi : Int} (h : areInts x lo hi = true) : ∃ ns : List Int, x = .tuple (ns.map .int) ∧ ∀ n ∈ ns, lo ≤ n ∧ n ≤ hi := by
  cases x with
  | tuple ds =>
    have h' : (ds.all fun d => isIntD d lo hi) = true := h
    clear h
    induction ds with
    | nil => exact ⟨[], rfl, fun _ h => nomatch h⟩
    | cons d ds ih =>
      rw [List.all_cons, Bool.and_eq_true] at h'
      obtain ⟨n, rfl, h1, h2⟩ := isInt_int h'.1
      obtain ⟨ns, e, h3⟩ := ih h'.2
      refine ⟨n :: ns, by rw [PyData.tuple.inj e]; rfl, fun m hm => ?_⟩
      rcases List.mem_cons.mp hm with q | q
      · rw [q]; exact ⟨h1, h2⟩
      · exact h3 m q
  | _ => simp [areInts] at h
theorem areInts_of {ns : List Int} {lo hi : Int} (h : ∀ n ∈ ns, lo ≤ n ∧ n ≤ hi) : areInts (.tuple (ns.map .int)) lo hi = true := by
  show ((ns.map PyData.int).all fun d => isIntD d lo hi) = true
  rw [List.all_map, List.all_eq_true]
  intro n hn
  have := h n hn
  simp [isIntD, this.1, this.2]


def lenT : PyData → Nat
  | .tuple ds => ds.length
  | _ => 0
def intD : PyData → Int
  | .int i => i
  | _ => 0
def sumT : PyData → Int
  | .tuple ds => (ds.map intD).sum
  | _ => 0
theorem lenT_ints (ns : List Int) : lenT (.tuple (ns.map .int)) = ns.length := by simp [lenT]
theorem sumT_ints (ns : List Int) : sumT (.tuple (ns.map .int)) = ns.sum := by
  have : (intD ∘ PyData.int) = id := rfl
  simp [sumT, this]
def isAlloc (x : PyData) (n b : Int) : Bool := areInts x 0 b && (decide ((lenT x : Int) = n) && decide (sumT x = b))
def sp_is_allocation (K : PySem.W.Frag) : Sp := spD K fun ds k d => ∃ x n b, ds = [x, .int n, .int b] ∧ SmallT x ∧ k = .v ∧ d = .bool (isAlloc x n b)
def isBAsg (x : PyData) (v : Int) : Bool := areInts x 0 (v - 1) && decide ((lenT x : Int) ≤ 20)
def sp_is_bounded_assignment (K : PySem.W.Frag) : Sp := spD K fun ds k d => ∃ x v, ds = [x, .int v] ∧ SmallT x ∧ k = .v ∧ d = .bool (isBAsg x v)
def sp_check_assignment (K : PySem.W.Frag) : Sp := spD K fun ds k d => ∃ x nm, ds = [x, .str nm] ∧ SmallT x ∧ isBAsg x 5 = true ∧ k = .v ∧ d = .none
def sp_check_enough (K : PySem.W.Frag) : Sp := spD K fun ds k d => ∃ (v : Int) (ns : List Int), ds = [.int v, .tuple (ns.map .int)] ∧ mxD 0 ns + 1 ≤ v ∧ v ≤ 5 ∧ k = .v ∧ d = .none


/-- how often each variant occurs -/
def countsI (ns : List Int) (v : Int) : List Int := (upI 0 v.toNat).map fun i => (ns.count i : Int)
/-- the places of a variant -/
def placesI (ns : List Int) (v : Int) : List Int := (ns.zipIdx.filter fun p => decide (p.1 = v)).map fun p => ((p.2 : Nat) : Int)
theorem mxOf_le : ∀ (ns : List Int) (m b : Int), m ≤ b → (∀ n ∈ ns, n ≤ b) → mxOf m ns ≤ b
  | [], m, b, h, _ => h
  | n :: ns, m, b, h, g => by
    show mxOf (if n > m then n else m) ns ≤ b
    refine mxOf_le ns _ b ?_ fun x hx => g x (by simp [hx])
    split
    · exact g n (by simp)
    · exact h
theorem mxD_le {ns : List Int} {b : Int} (h0 : 0 ≤ b) (h : ∀ n ∈ ns, n ≤ b) : mxD 0 ns ≤ b := by
  cases ns with
  | nil => exact h0
  | cons n ns => exact mxOf_le ns n b (h n (by simp)) fun x hx => h x (by simp [hx])
/-- an assignment of at most 20 buckets to v variants -/
structure Asg (ns : List Int) (v : Int) : Prop where
  len : ns.length ≤ 20
  rng : ∀ n ∈ ns, 0 ≤ n ∧ n < v
theorem Asg.bAsg {ns : List Int} {v w : Int} (h : Asg ns v) (hw : v ≤ w) : isBAsg (.tuple (ns.map .int)) w = true := by
  unfold isBAsg
  rw [areInts_of fun n hn => ⟨(h.rng n hn).1, by have := (h.rng n hn).2; omega⟩, lenT_ints]
  have := h.len
  simp
  omega
theorem small_ints {ns : List Int} (h : ns.length ≤ 1000000) : SmallT (.tuple (ns.map .int)) := fun es e => by
  rw [← PyData.tuple.inj e]
  simpa using h
theorem Asg.small {ns : List Int} {v : Int} (h : Asg ns v) : SmallT (.tuple (ns.map .int)) := small_ints (by have := h.len; omega)
def sp_allocation_of (K : PySem.W.Frag) : Sp := spD K fun ds k d => ∃ (ns : List Int) (v : Int), ds = [.tuple (ns.map .int), .int v] ∧ Asg ns v ∧ 1 ≤ v ∧ v ≤ 5 ∧ k = .v ∧ d = .tuple ((countsI ns v).map .int)
def sp_buckets_of (K : PySem.W.Frag) : Sp := spD K fun ds k d => ∃ (ns : List Int) (v : Int), ds = [.tuple (ns.map .int), .int v] ∧ Asg ns 5 ∧ 0 ≤ v ∧ v ≤ 4 ∧ k = .o ∧ d = .list ((placesI ns v).map .int)


def sp__law_next (K : PySem.W.Frag) : Sp := spS K fun ds k P => ∃ m : Int, ds = [.int m] ∧ 0 < m ∧ m < 1073741824 ∧ k = .v ∧ P = fun d => ∃ n : Int, d = .int n ∧ 0 ≤ n ∧ n < m
theorem Str1.put {K : PySem.W.Frag} {st l : Addr} {H : Hp} {ns : List Int} {x k : Int} (h2 : H l = some (.lst (ns.map V.int))) (h3 : l ≠ st) (h4 : 0 ≤ k) : Str1 K st l (upd H st (.lst [.ref l, .int x, .int k])) :=
  ⟨ns, x, k, upd_same, by rw [upd_ne h3]; exact h2, h3, h4⟩


/-! the law's helpers -/

def sp__law_stream := spStream
def isIntNB : PyData → Bool
  | .int _ => true
  | _ => false
def sp__law_is_integer (K : PySem.W.Frag) : Sp := spD K fun ds k d => ∃ x, ds = [x] ∧ k = .v ∧ d = .bool (isIntNB x)
/-- data that _law_equal may look at, to some depth -/
inductive EqOk : Nat → PyData → Prop
  | non {n} : EqOk n .none
  | bl {n} (b : Bool) : EqOk n (.bool b)
  | int {n} (i : Int) : EqOk n (.int i)
  | str {n} (s : Str) : EqOk n (.str s)
  | lst {n} {xs : List PyData} : xs.length ≤ 1000000 → (∀ x ∈ xs, EqOk n x) → EqOk (n + 1) (.list xs)
  | tup {n} {xs : List PyData} : xs.length ≤ 1000000 → (∀ x ∈ xs, EqOk n x) → EqOk (n + 1) (.tuple xs)
def spEq (K : PySem.W.Frag) : Nat → Sp
  | 0 => fun _ _ _ _ => False
  | n + 1 => spD K fun ds k d => ∃ x, ds = [x, x] ∧ EqOk n x ∧ k = .v ∧ d = .bool true
def sp__law_equal (K : PySem.W.Frag) : Sp := spEq K 8
theorem EqOk.ints {n : Nat} {ns : List Int} (h : ns.length ≤ 1000000) : EqOk (n + 1) (.tuple (ns.map .int)) := .tup (by simpa using h) fun x hx => by
  obtain ⟨i, _, rfl⟩ := List.mem_map.mp hx
  exact .int i
theorem EqOk.up {n : Nat} {x : PyData} (h : EqOk n x) : ∀ {m : Nat}, n ≤ m → EqOk m x := by
  induction h with
  | non => intro m _; exact .non
  | bl b => intro m _; exact .bl b
  | int i => intro m _; exact .int i
  | str s => intro m _; exact .str s
  | lst hl _ ih =>
    intro m hm
    cases m with
    | zero => omega
    | succ m => exact .lst hl fun x hx => ih x hx (by omega)
  | tup hl _ ih =>
    intro m hm
    cases m with
    | zero => omega
    | succ m => exact .tup hl fun x hx => ih x hx (by omega)


theorem n_draws {c : Ct} {Γ : List (Option Rs)} {te : TE} {fz : Bool} {wi : TI} {g : TG} {vs : List Nat} {items : List Im} (Q : Int → Prop) (hi : EvI c wi Γ fz items) (hl : items.length ≤ 1000000)
    (hb : ∀ a ∈ items, ∃ Γ' js, EvG c g a (wipeG Γ vs) Γ' js ∧ (∀ j ∈ js, j ∈ vs) ∧ ∃ k, EvN c te Γ' k (fun d => ∃ n : Int, d = .int n ∧ Q n)) :
    EvN c (tLc wi g tYes te vs) Γ .o (fun d => ∃ acc, d = .list acc ∧ ∃ ns : List Int, acc = ns.map .int ∧ ns.length = items.length ∧ ∀ n ∈ ns, Q n) := by
  refine n_lc (fun m acc => ∃ ns : List Int, acc = ns.map .int ∧ ns.length = m ∧ ∀ n ∈ ns, Q n) hi hl ⟨[], rfl, rfl, fun _ h => nomatch h⟩ fun m a acc ha hM => ?_
  obtain ⟨Γ', js, h1, h2, k, h3⟩ := hb a (List.mem_of_getElem? ha)
  obtain ⟨ns, rfl, hn, hq⟩ := hM
  refine ⟨Γ', js, h1, h2, true, fun d => ∃ n : Int, d = .int n ∧ Q n, t_yes, fun _ => ⟨h3.fo (by rintro d ⟨n, rfl, _⟩; rfl), ?_⟩, fun e => nomatch e⟩
  rintro d ⟨n, rfl, q⟩
  refine ⟨ns ++ [n], by simp, by simp [hn], fun x hx => ?_⟩
  rcases List.mem_append.mp hx with w | w
  · exact hq x w
  · rw [List.mem_singleton.mp w]; exact q

theorem upI0 (v : Nat) : upI 0 v = (List.range v).map fun (i : Nat) => (i : Int) := by
  unfold upI
  apply List.map_congr_left
  intro i _
  omega
theorem upI_count {v : Nat} {n : Int} (h0 : 0 ≤ n) (h1 : n < v) : (upI 0 v).count n = 1 := by
  obtain ⟨m, rfl⟩ := Int.eq_ofNat_of_zero_le h0
  have hm : m < v := by omega
  rw [upI0, List.count_eq_countP, List.countP_map]
  have e : ((fun x : Int => x == (m : Int)) ∘ fun (i : Nat) => (i : Int)) = fun i : Nat => i == m := by
    funext i
    show ((i : Int) == (m : Int)) = (i == m)
    rw [Bool.eq_iff_iff]
    simp
    omega
  rw [e]
  have : List.countP (fun i => i == m) (List.range v) = (List.range v).count m := rfl
  rw [this, List.nodup_range.count]
  simp [hm]
theorem count_sum (v : Nat) : ∀ ns : List Int, (∀ n ∈ ns, 0 ≤ n ∧ n < (v : Int)) → ((upI 0 v).map fun i => (ns.count i : Int)).sum = ns.length := by
  intro ns
  induction ns with
  | nil =>
    intro _
    generalize upI 0 v = l
    induction l with
    | nil => rfl
    | cons a l ih =>
      rw [List.map_cons, List.sum_cons, ih]
      rfl
  | cons n ns ih =>
    intro hv
    have ih' := ih fun m hm => hv m (by simp [hm])
    have hn := hv n (by simp)
    have key : ∀ l : List Int, (l.map fun i => ((n :: ns).count i : Int)).sum = (l.map fun i => (ns.count i : Int)).sum + l.count n := by
      intro l
      induction l with
      | nil => rfl
      | cons a l ihl =>
        rw [List.map_cons, List.sum_cons, List.map_cons, List.sum_cons, ihl, List.count_cons, List.count_cons]
        by_cases h : n = a
        · subst h
          rw [beq_self_eq_true, if_pos rfl]
          omega
        · rw [beq_eq_false_iff_ne.mpr h, beq_eq_false_iff_ne.mpr (fun e => h e.symm)]
          simp
          omega
    rw [key, ih', upI_count hn.1 hn.2]
    simp
theorem zipIdx_places (ns : List Int) (v : Int) : ((ns.zipIdx.filter fun p => decide (p.1 = v)).map fun p => ((p.2 : Nat) : Int)) = ((upI 0 ns.length).filter fun i => decide (ns.getD i.toNat 0 = v)) := by
  rw [upI0, List.filter_map]
  have e : ns.zipIdx = (List.range ns.length).map fun i => (ns.getD i 0, i) := by
    apply List.ext_getElem
    · simp
    · intro i h1 h2
      simp at h1 h2 ⊢
      rw [List.getElem?_eq_getElem h1]; rfl
  rw [e, List.filter_map, List.map_map]
  congr 1


def isListTy : PyData → Bool
  | .list _ => true
  | _ => false
def isStrTy : PyData → Bool
  | .str _ => true
  | _ => false
theorem kit_list (x : PyData) : kitB (tyD x) "list" = some (isListTy x) := by cases x <;> (simp only [tyD, isListTy]; decide +kernel)
theorem kit_str (x : PyData) : kitB (tyD x) "str" = some (isStrTy x) := by cases x <;> (simp only [tyD, isStrTy]; decide +kernel)
theorem atI_i {ds : List PyData} {i : Nat} {d : PyData} (h : ds[i]? = some d) : atI ds ((0 : Int) + (i : Int)) = some d := by rw [Int.zero_add]; exact atI_nat h

end Lm


/-! more rules: a list unpacked, tuple.index of an int, the number of a tuple's different ints, list.pop(i) -/
namespace Lm
open PySem PySem.Spec PyProof.Rows L2
section
variable {prog : Program} {w : World} {A : Around} {E : Value → Shared → Prop} {s : Shared}
theorem drawL {it t : Addr} {items : Array Value} (hne : t ≠ it) : ∀ (n i : Nat) (s : Shared) (Q : List Value → Shared → Prop), s.heap.IsListIter it t i → s.heap.IsList t items → i + n ≤ items.size →
    (∀ h', h'.IsListIter it t (i + n) → Heap.SameBut it s.heap h' → Q ((items.toList.drop i).take n) { s with heap := h' }) → wpAny (model prog w) A (draw (.ref it) n) Q E s
  | 0, i, s, Q, hit, _, _, hQ => by
    show wpAny _ _ (pure []) Q E s
    exact wpAny_pure (by simpa using hQ s.heap hit (Heap.SameBut.refl ..))
  | n + 1, i, s, Q, hit, ht, hle, hQ => by
    have hlt : i < items.size := by omega
    show wpAny _ _ (pyNext (.ref it) >>= _) Q E s
    refine wpAny_bind (wpAny_pyNext_list_item hit ht (x := items[i]) (by simp [hlt]) fun h₁ hit₁ hs₁ => ?_)
    refine wpAny_bind (wpAny_holding (drawL hne n (i + 1) _ _ hit₁ (ht.extBut hs₁.extBut hne) (by omega) fun h₂ hit₂ hs₂ => wpAny_pure ?_))
    have e1 : items.toList.drop i = items[i] :: items.toList.drop (i + 1) := by simp [List.drop_eq_getElem_cons, hlt]
    have e2 := hQ h₂ (by rw [show i + (n + 1) = i + 1 + n by omega]; exact hit₂) (hs₁.trans hs₂)
    rw [e1, List.take_succ_cons] at e2
    exact e2
theorem unpackL {t : Addr} {items : Array Value} {Q : List Value → Shared → Prop} (hh : A.handled = none) (ht : s.heap.IsList t items)
    (hQ : ∀ h', Heap.ExtBut s.heap.objs.size s.heap h' → Q items.toList { s with heap := h' }) : wpAny (model prog w) A (unpackItems (.ref t) items.size none) Q E s := by
  have hlt : t ≠ s.heap.objs.size := by obtain ⟨o, ho, _⟩ := ht; exact Nat.ne_of_lt (Heap.lt_size ho)
  unfold unpackItems
  refine wpAny_bind ?_
  · unfold notIterableAtAll
    refine wpAny_bind (wpAny_specialOf ht.typeIs F.slot_list_iter.lookup ?_)
    refine wpAny_pure ?_
    simp only [Bool.false_eq_true, if_false]
    refine wpAny_bind (wpAny_holding (wpAny_pyIter_list ht ?_))
    refine wpAny_bind (wpAny_holding (drawL hlt items.size 0 _ _ ⟨_, Heap.get?_push_size _ rfl, rfl, rfl⟩ (ht.push _) (by omega) fun h₁ hit₁ hs₁ => ?_))
    have e1 : List.take items.size (List.drop 0 items.toList) = items.toList := by
      rw [List.drop_zero]; exact List.take_of_length_le (by simp)
    rw [e1, if_neg (by simp)]
    have ht₁ : h₁.IsList t items := (ht.push _).extBut hs₁.extBut hlt
    refine wpAny_bind (wpAny_holding (wpAny_pyNext_list_end hh hit₁ ht₁ (by simp) fun h₂ he₂ => ?_))
    simp only [Option.isSome_none, Bool.false_eq_true, if_false]
    exact wpAny_pure (hQ h₂ fun b o hb e => he₂ b o hb (hs₁.extBut b o hb (Heap.get?_push_of_some _ e)))
theorem assignTupL {env : PySem.Env} {elts : List Expr} {x1} {pos : Pos} {t : Addr} {items : Array Value} {Q : Unit → Shared → Prop} (hh : A.handled = none) (ht : s.heap.IsList t items)
    (hn : (assignEach elts env).length = items.size) (hstar : (assignEach elts env).findIdx? (·.1) = none)
    (h : ∀ h', Heap.ExtBut s.heap.objs.size s.heap h' → wpAny (model prog w) A (assignInOrder ((assignEach elts env).map (·.2)) items.toList) Q E { s with heap := h' }) :
    wpAny (model prog w) A (assign (.Tuple elts x1 pos) env (.ref t)) Q E s := by
  rw [arm_assign_Tuple]
  refine wpAny_bind (wpAny_standAt ?_)
  unfold unpack
  rw [hn, hstar]
  exact wpAny_bind (wpAny_holding (unpackL hh ht h))
end
/-- (a, b, ..) = a tuple or a list of that length -/
def gTupA (K : PySem.W.Frag) (n : Nat) (t : TGs) : TG := fun v σ H Q => ∃ a xs, v = .ref a ∧ (SqT K H a xs ∨ SqL K H a xs) ∧ xs.length = n ∧ t xs σ H Q
section
variable {X : Cx}
theorem pg_tupA {es : List Expr} {k : Nat} {t : TGs} {n : Nat} {pos : Pos} (hc : X.calm = true) (h : PGs X es t)
    (hn : (assignEach es X.env).length = n := by rfl) (hst : (assignEach es X.env).findIdx? (·.1) = none := by rfl) : PG X (.Tuple es k pos) (gTupA X.K n t) := by
  refine ⟨fun pins s σ H v u Q I r hw => ?_⟩
  obtain ⟨a, xs, e1, hq, hl, hw⟩ := hw
  rcases hq with hq | hq
  · exact (pg_tup hc h hn hst).run pins s σ H v u Q I r ⟨a, xs, e1, hq, hl, hw⟩
  · subst e1
    cases r
    obtain ⟨its, rv, ht, hz⟩ := I.list hq
    refine assignTupL (I.ok.hd hc) ht.isList (by simp [hn, ← hl, rv.length]) hst fun h' hx => ?_
    have I1 : Inv X pins σ H { s with heap := h' } := I.kept (t' := s.toks) fun b o e => hx b o (Nat.ne_of_lt (Heap.lt_size e)) e
    exact h.run pins _ σ H xs _ Q I1 (by simpa using rv) hw
theorem length_sub : ∀ {as bs : List Int}, as.Nodup → (∀ k, k ∈ as → k ∈ bs) → as.length ≤ bs.length
  | [], _, _, _ => Nat.zero_le _
  | a :: as, bs, ha, h => by
    have hm : a ∈ bs := h a (by simp)
    obtain ⟨hna, hnd⟩ := List.nodup_cons.mp ha
    have := length_sub (bs := bs.erase a) hnd fun k q => (List.mem_erase_of_ne fun (z : k = a) => hna (by rw [← z]; exact q)).mpr (h k (by simp [q]))
    rw [List.length_erase_of_mem hm] at this
    have : 0 < bs.length := List.length_pos_of_mem hm
    simp only [List.length_cons]
    omega
end
section
variable {X : Cx} {K : PySem.W.Frag} (hK : X.K = K)
include hK
theorem k_tupA {es : List Expr} {k : Nat} {t : TGs} {n : Nat} {pos : Pos} (hc : X.calm = true) (h : PGs X es t)
    (hn : (assignEach es X.env).length = n := by rfl) (hst : (assignEach es X.env).findIdx? (·.1) = none := by rfl) : PG X (.Tuple es k pos) (gTupA K n t) := hK ▸ pg_tupA hc h hn hst
end
end Lm


namespace Lm
open PySem PySem.Spec PyProof.Rows L2
variable {c : Ct} {H H' H0 H1 H2 H3 : Hp} {O : List Addr} {σ : L2.St} {Γ Γ' Γ1 : List (Option Rs)}
variable {te ta tb tx tl : TE} {tt tu : TT} {tr : TA} {k ka kb kc : Kd} {d x y z : PyData} {i j : Int} {a b : Bool} {kv fz : Bool} {ds es : List PyData}
/-! ### zip of two tuples -/
def zipD (ds es : List PyData) : List Im := (ds.zip es).map fun p => .t [.d p.1, .d p.2]
theorem walk_zipT {K : PySem.W.Frag} {p q : Addr} {xs ys : List V} {n : Nat} (hn : n = min xs.length ys.length) : Walk (RZ.ItzT K p q) n (fun H => SqT K H p xs ∧ SqT K H q ys) (YPair (fun i => xs[i]?) (fun i => ys[i]?)) where
  goes := fun i _ hi w => ⟨xs, ys, xs[i]'(by omega), ys[i]'(by omega), w.1, w.2, List.getElem?_eq_getElem (by omega), List.getElem?_eq_getElem (by omega)⟩
  stops := fun _ w => ⟨xs, ys, w.1, w.2, by omega⟩
  yields := fun i H v H' _ w ⟨T, x, z, h1, h2, h3, h4, h5⟩ => ⟨T, x, z, h1, h2, h3, h4 xs w.1, h5 ys w.2⟩
theorem i_zipT (h : EvA c tr Γ true [.tuple ds, .tuple es]) : EvI c (RZ.iZipA c.K tr) Γ true (zipD ds es) := fun H0 O H σ e R q =>
  h H0 O H σ e _ fun vs H1 r s => by
    obtain ⟨x, y, rfl, b1, b2⟩ := (BoAll.vm s).two
    obtain ⟨p, xs, rfl, sl, al⟩ := b1.tup'
    obtain ⟨p2, ys, rfl, sl2, al2⟩ := b2.tup'
    refine ⟨p, p2, xs, ys, rfl, .inr ⟨(sqT_same mns_same sl).sq, (sqT_same mns_same sl2).sq, q _ H1 r ⟨(e.on r).j, ?_⟩⟩⟩
    have hl : (zipD ds es).length = min xs.length ys.length := by rw [al.len, al2.len]; simp [zipD]
    refine (walk_zipT hl).mono (fun H h => ⟨(h.tup (e.on r).j sl).sq, (h.tup (e.on r).j sl2).sq⟩) fun i H v H' hi g w => ?_
    obtain ⟨T, u1, u2, rfl, hT, rfl, g1, g2⟩ := w
    obtain ⟨d1, hd1, bd1⟩ := al.get g1
    obtain ⟨d2, hd2, bd2⟩ := al2.get g2
    have sm : Same H (upd H T (.tup [u1, u2])) := fun b o z => by rw [upd_ne (ne_of_none z hT)]; exact z
    refine ⟨sm, .t [.d d1, .d d2], ?_, .tup (.inl (.inl upd_same)) (.cons (.leaf (.inr ⟨rfl, bd1⟩)) (.cons (.leaf (.inr ⟨rfl, bd2⟩)) .nil))⟩
    have : (ds.zip es)[i]? = some (d1, d2) := by rw [List.getElem?_zip_eq_some]; exact ⟨hd1, hd2⟩
    simp [zipD, this]
def zipI (p : Int × Int) : Im := .t [.d (.int p.1), .d (.int p.2)]
theorem i_zipTI {ns ms : List Int} (h : EvA c tr Γ true [.tuple (ns.map .int), .tuple (ms.map .int)]) : EvI c (RZ.iZipA c.K tr) Γ true ((ns.zip ms).map zipI) := by
  have e : zipD (ns.map .int) (ms.map .int) = (ns.zip ms).map zipI := by
    unfold zipD
    rw [List.zip_map, List.map_map]
    rfl
  exact e ▸ i_zipT h
/-! ### calls -/
theorem e_max2 (ha : Ev c ta Γ ka (.int i)) (hb : Ev c tb Γ kb (.int j)) : Ev c (tCB (fun xs H Q => ∃ i j, xs = [V.int i, V.int j] ∧ Q (.int (if j > i then j else i)) H) (tCons ta (tCons tb tNil))) Γ .v (.int (if j > i then j else i)) :=
  d_cb (a_cons ha (a_cons hb a_nil)) fun H O vs Q s q => by
    obtain ⟨y, z, rfl, b1, b2⟩ := s.two
    exact ⟨i, j, by rw [b1.int', b2.int'], q _ H Rr.rf (.int _)⟩
/-- list * int, the list a new one -/
theorem e_rep (h : Ev c ta Γ .o (.list ds)) (hf : flatAll ds = true) (hb : Ev c tb Γ kb (.int i)) (h1 : -(2 ^ 63) ≤ i) (h2 : i < 2 ^ 63) (hl : ds.length * i.toNat ≤ 1000000) : Ev c (tOp rMulA ta tb) Γ .o (.list (List.replicate i.toNat ds).flatten) := fun H0 O H σ e Q q =>
  h H0 O H σ e _ fun v H1 r1 s1 => hb H0 O H1 σ (e.on r1) _ fun u H2 r2 s2 => by
    obtain ⟨fp, f, nd, new⟩ : Res c O H H2 v (.list ds) .o := Res.on e r1 r2 s1
    obtain ⟨p, xs, g, rfl, rfl, hp, fa⟩ := f.list'
    obtain ⟨_, al⟩ := fa.flat0 hf
    refine .inr ⟨p, i, xs, rfl, (Res.bo (e.on r1) s2).int', hp, h1, h2, by rw [al.len]; exact sizeOk hl, fun p' hp' => ?_⟩
    have sm : Same H2 (upd H2 p' (.lst (List.replicate i.toNat xs).flatten)) := fun b o z => by rw [upd_ne (ne_of_none z hp')]; exact z
    have rep : ∀ n : Nat, BoAll c H2 (List.replicate n xs).flatten (List.replicate n ds).flatten := by
      intro n
      induction n with
      | zero => exact .nil
      | succ n ih => rw [List.replicate_succ, List.replicate_succ, List.flatten_cons, List.flatten_cons]; exact al.app ih
    have fl : ∀ n : Nat, flatAll (List.replicate n ds).flatten = true := by
      intro n
      refine flatAll_mem fun d hd => ?_
      obtain ⟨l, hl, hd⟩ := List.mem_flatten.mp hd
      rw [(List.mem_replicate.mp hl).2] at hd
      exact flatAll_one hf hd
    refine q _ _ ((r1.tr r2).tr (Rr.same sm)) ⟨[p'], .lst upd_same (FoAll.leaves (fl _) ((rep _).same sm)), by simp, fun a ha => ?_⟩
    cases List.mem_singleton.mp ha
    exact (r1.tr r2).back e.jH hp'
/-! ### unpacking -/
theorem q_unp {n : Nat} {gs : TGs} {u : TS} {P : Out → Prop} (Pd : PyData → Prop) (h : EvN c te Γ k Pd)
    (p : ∀ d, Pd d → ∃ ds Γ' js, (d = .tuple ds ∨ d = .list ds) ∧ flatAll ds = true ∧ ds.length = n ∧ EvGs c gs (ds.map Im.d) Γ Γ' js ∧ Sd c u Γ' P) : Sd c (tSeq (tAsg te (gTupA c.K n gs)) u) Γ P := fun H0 O H σ D e s =>
  h H0 O H σ e _ fun v d H2 pd r rs => by
    obtain ⟨ds, Γ', js, hd, hf, hn, hg, hu⟩ := p d pd
    have e2 := e.on r
    have key : ∃ a xs, v = .ref a ∧ (SqT c.K H2 a xs ∨ SqL c.K H2 a xs) ∧ BoAll c H2 xs ds := by
      rcases hd with rfl | rfl
      · obtain ⟨a, xs, rfl, sl, al⟩ := (Res.bo e rs).tup'
        exact ⟨a, xs, rfl, .inl sl.sq, al⟩
      · obtain ⟨a, xs, rfl, _, sl, al⟩ := (Res.bo e rs).lst'
        exact ⟨a, xs, rfl, .inr sl, al⟩
    obtain ⟨a, xs, rfl, sl, al⟩ := key
    exact ⟨a, xs, rfl, sl, al.len.trans hn, hg H0 O H2 σ H2 false xs e2 e2.jH Rr.rf (fun z => nomatch z) (.ofFlat hf al) _ fun σ' e' _ => hu H0 O H2 σ' D e' s⟩
/-- data drawn one after another -/
theorem n_drawsP {wi : TI} {g : TG} {vs : List Nat} {items : List Im} (Q : PyData → Prop) (hQ : ∀ d, Q d → flatD d = true) (hi : EvI c wi Γ fz items) (hl : items.length ≤ 1000000)
    (hb : ∀ a ∈ items, ∃ Γ' js, EvG c g a (wipeG Γ vs) Γ' js ∧ (∀ j ∈ js, j ∈ vs) ∧ ∃ k, EvN c te Γ' k Q) :
    EvN c (tLc wi g tYes te vs) Γ .o (fun d => ∃ acc, d = .list acc ∧ acc.length = items.length ∧ ∀ x ∈ acc, Q x) := by
  refine n_lc (fun m acc => acc.length = m ∧ ∀ x ∈ acc, Q x) hi hl ⟨rfl, fun _ h => nomatch h⟩ fun m a acc ha hM => ?_
  obtain ⟨Γ', js, h1, h2, k, h3⟩ := hb a (List.mem_of_getElem? ha)
  refine ⟨Γ', js, h1, h2, true, Q, t_yes, fun _ => ⟨h3.fo hQ, fun d hd => ⟨by simp [hM.1], fun x hx => ?_⟩⟩, fun e => nomatch e⟩
  rcases List.mem_append.mp hx with w | w
  · exact hM.2 x w
  · rw [List.mem_singleton.mp w]; exact hd
end Lm


/-! what more defs promise: allocations, orders -/
namespace Lm
open PySem PySem.Spec PyProof.Rows L2
/-- an allocation of b buckets to v variants -/
structure Alc (ns : List Int) (v b : Int) : Prop where
  len : (ns.length : Int) = v
  sum : ns.sum = b
  nn : ∀ n ∈ ns, 0 ≤ n
theorem sum_nn : ∀ {ns : List Int}, (∀ n ∈ ns, 0 ≤ n) → 0 ≤ ns.sum
  | [], _ => by simp
  | n :: ns, h => by
    have h1 := sum_nn (ns := ns) fun m hm => h m (by simp [hm])
    have h2 := h n (by simp)
    simp only [List.sum_cons]; omega
theorem le_sum : ∀ {ns : List Int}, (∀ n ∈ ns, 0 ≤ n) → ∀ m ∈ ns, m ≤ ns.sum
  | [], _, m, hm => nomatch hm
  | n :: ns, h, m, hm => by
    have h1 := sum_nn (ns := ns) fun m hm => h m (by simp [hm])
    have h2 := h n (by simp)
    simp only [List.sum_cons]
    rcases List.mem_cons.mp hm with q | q
    · rw [q]; omega
    · have := le_sum (ns := ns) (fun m hm => h m (by simp [hm])) m q
      omega
theorem Alc.le {ns : List Int} {v b : Int} (h : Alc ns v b) : ∀ n ∈ ns, n ≤ b := fun n hn => h.sum ▸ le_sum h.nn n hn
theorem Alc.b0 {ns : List Int} {v b : Int} (h : Alc ns v b) : 0 ≤ b := h.sum ▸ sum_nn h.nn
theorem Alc.isAlloc {ns : List Int} {v b : Int} (h : Alc ns v b) : isAlloc (.tuple (ns.map .int)) v b = true := by
  unfold Lm.isAlloc
  rw [areInts_of fun n hn => ⟨h.nn n hn, h.le n hn⟩, lenT_ints, sumT_ints, h.len, h.sum]
  simp
def sp_check_allocation (K : PySem.W.Frag) : Sp := spD K fun ds k d => ∃ (ns : List Int) (v b : Int) (nm : Str), ds = [.tuple (ns.map .int), .str nm] ∧ Alc ns v b ∧ 1 ≤ v ∧ v ≤ 5 ∧ b ≤ 20 ∧ k = .v ∧ d = .none
def sp_check_alike (K : PySem.W.Frag) : Sp := spD K fun ds k d => ∃ (ms ns : List Int) (v b : Int) (nm : Str), ds = [.tuple (ms.map .int), .tuple (ns.map .int), .str nm] ∧ Alc ms v b ∧ Alc ns v b ∧ v ≤ 1000 ∧ k = .v ∧ d = .none
/-- what goes over from one to the other -/
def trI (ns ms : List Int) : Int := ((ns.zip ms).map fun p => if 0 > p.1 - p.2 then 0 else p.1 - p.2).sum
def sp_transfer (K : PySem.W.Frag) : Sp := spD K fun ds k d => ∃ (ns ms : List Int) (v b : Int), ds = [.tuple (ns.map .int), .tuple (ms.map .int)] ∧ Alc ns v b ∧ Alc ms v b ∧ 1 ≤ v ∧ v ≤ 5 ∧ b ≤ 20 ∧ k = .v ∧ d = .int (trI ns ms)
/-- the numbers from 0 to m - 1, each once -/
structure IsOrd (ns : List Int) (m : Int) : Prop where
  len : (ns.length : Int) = m
  nd : ns.Nodup
  rng : ∀ n ∈ ns, 0 ≤ n ∧ n < m
def placedI (ns os : List Int) : List Int := (upI 0 os.length).map fun i => ns.getD (os.idxOf i) 0
def sp__law_allocation (K : PySem.W.Frag) : Sp := spS K fun ds k P => ∃ v b : Int, ds = [.int v, .int b] ∧ 1 ≤ v ∧ v ≤ 1000 ∧ 0 ≤ b ∧ b ≤ 1000 ∧ k = .v ∧ P = fun d => ∃ ns : List Int, d = .tuple (ns.map .int) ∧ Alc ns v b
/-! orders: every number has its place -/
theorem nodup_inj {ns : List Int} (h : ns.Nodup) {i j : Nat} (hi : i < ns.length) (hj : j < ns.length) (e : ns[i] = ns[j]) : i = j := by
  have p := List.pairwise_iff_getElem.mp h
  rcases Nat.lt_trichotomy i j with q | q | q
  · exact absurd e (p i j hi hj q)
  · exact q
  · exact absurd e.symm (p j i hj hi q)
theorem perm_sum {as bs : List Int} (h : as.Perm bs) : as.sum = bs.sum := by
  induction h with
  | nil => rfl
  | cons x _ ih => simp [ih]
  | swap x y l => simp only [List.sum_cons]; omega
  | trans _ _ ih1 ih2 => exact ih1.trans ih2
theorem mem_upI {n : Nat} {i : Int} : i ∈ upI 0 n ↔ 0 ≤ i ∧ i < n := by
  unfold upI
  rw [List.mem_map]
  constructor
  · rintro ⟨m, hm, rfl⟩
    have := List.mem_range.mp hm
    omega
  · rintro ⟨h0, h1⟩
    exact ⟨i.toNat, List.mem_range.mpr (by omega), by omega⟩
theorem nodup_upI (n : Nat) : (upI 0 n).Nodup := by
  rw [upI0]
  exact List.Pairwise.map _ (fun a b h e => h (Int.ofNat.inj e)) List.nodup_range
theorem IsOrd.mem {ns : List Int} {m : Int} (h : IsOrd ns m) {i : Int} (h0 : 0 ≤ i) (h1 : i < m) : i ∈ ns := by
  refine Decidable.byContradiction fun hn => ?_
  have h2 : (i :: ns).length ≤ (upI 0 ns.length).length := length_sub (List.nodup_cons.mpr ⟨hn, h.nd⟩) fun k hk => by
    have hl := h.len
    rcases List.mem_cons.mp hk with q | q
    · rw [q, mem_upI]; omega
    · rw [mem_upI]; have := h.rng k q; omega
  simp [upI] at h2
  omega
theorem IsOrd.perm {ns : List Int} {m : Int} (h : IsOrd ns m) : (upI 0 ns.length).Perm ns := by
  refine (List.perm_iff_count.mpr fun i => ?_)
  by_cases q : 0 ≤ i ∧ i < (ns.length : Int)
  · rw [upI_count q.1 q.2, h.nd.count]
    rw [if_pos (h.mem q.1 (by have := h.len; omega))]
  · rw [List.count_eq_zero_of_not_mem (fun z => q (mem_upI.mp z)), List.count_eq_zero_of_not_mem (fun z => q (by have := h.rng i z; have := h.len; omega))]
theorem IsOrd.idx {ns : List Int} {m : Int} (h : IsOrd ns m) {i : Int} (h0 : 0 ≤ i) (h1 : i < m) : ∃ hj : ns.idxOf i < ns.length, ns[ns.idxOf i]? = some i ∧ ∀ n, n < ns.idxOf i → ns[n]? ≠ some i := by
  have hj : ns.idxOf i < ns.length := List.idxOf_lt_length_of_mem (h.mem h0 h1)
  refine ⟨hj, ?_, fun n hn e => ?_⟩
  · rw [List.getElem?_eq_getElem hj, List.getElem_idxOf hj]
  · have hl : n < ns.length := by omega
    have e1 : ns[n] = i := by rw [List.getElem?_eq_getElem hl] at e; exact Option.some.inj e
    have e2 : ns[ns.idxOf i] = i := List.getElem_idxOf hj
    have := nodup_inj h.nd hl hj (e1.trans e2.symm)
    omega
theorem IsOrd.idxOf_get {ns : List Int} {m : Int} (h : IsOrd ns m) {j : Nat} (hj : j < ns.length) : ns.idxOf ns[j] = j := by
  have hm : ns[j] ∈ ns := List.getElem_mem hj
  have hl : ns.idxOf ns[j] < ns.length := List.idxOf_lt_length_of_mem hm
  exact nodup_inj h.nd hl hj (List.getElem_idxOf hl)
/-- a sum over the placed is the sum over the old -/
theorem IsOrd.sums {os : List Int} {m : Int} (h : IsOrd os m) (f : Nat → Int) : ((upI 0 os.length).map fun i => f (os.idxOf i)).sum = ((List.range os.length).map f).sum := by
  have e : os.map (fun i => f (os.idxOf i)) = (List.range os.length).map f := by
    apply List.ext_getElem
    · simp
    · intro j h1 h2
      simp only [List.getElem_map, List.getElem_range]
      rw [h.idxOf_get (by simpa using h1)]
  rw [← e]
  exact perm_sum (h.perm.map _)
theorem sum_range {ns : List Int} : ((List.range ns.length).map fun j => ns.getD j 0).sum = ns.sum := by
  congr 1
  apply List.ext_getElem
  · simp
  · intro j h1 h2
    have h2' : j < ns.length := h2
    simp [List.getD_eq_getElem?_getD, List.getElem?_eq_getElem h2']
theorem IsOrd.alc {ns os : List Int} {v b : Int} (h : Alc ns v b) (o : IsOrd os v) : Alc (placedI ns os) v b := by
  have hl : os.length = ns.length := by have := h.len; have := o.len; omega
  refine ⟨?_, ?_, ?_⟩
  · simp [placedI, upI, o.len]
  · unfold placedI
    rw [o.sums fun j => ns.getD j 0, hl, sum_range, h.sum]
  · intro n hn
    obtain ⟨i, _, rfl⟩ := List.mem_map.mp hn
    rw [List.getD_eq_getElem?_getD]
    cases q : ns[os.idxOf i]? with
    | none => exact Int.le_refl _
    | some x => exact h.nn x (List.mem_of_getElem? q)
def t0 (a b : Int) : Int := if 0 > a - b then 0 else a - b
end Lm


namespace Lm
open PySem PySem.Spec PyProof.Rows L2
section
variable {c : Ct} {H H' H0 H1 H2 H3 : Hp} {O : List Addr} {σ : L2.St} {Γ Γ' Γ1 : List (Option Rs)} {te : TE} {k : Kd} {i : Int}
theorem yesT {σ : L2.St} {H : Hp} {Q : Bool → Hp → Prop} (h : Q true H) : tYes σ H Q := h
end
theorem eqvT (ns ms : List Int) : PyData.eqv (.tuple (ns.map .int)) (.tuple (ms.map .int)) = decide (ns = ms) := by
  simp only [PyData.eqv]
  exact PySem.W.ked_eqvAll ns ms
theorem shapedT (ns : List Int) : SeqAt.shaped (.tuple (ns.map .int)) = true := by
  simp [SeqAt.shaped, PyData.canLay0, PyData.canLayAll0, PyData.depth, PyData.depthAll, PySem.W.ke_canLayAll0, PySem.W.ke_depthAll]
section
variable {c : Ct} {Γ : List (Option Rs)} {ta tb : TE} {ka kb : Kd}
theorem e_eqTT {ns ms : List Int} (ha : Ev c ta Γ ka (.tuple (ns.map .int))) (hb : Ev c tb Γ kb (.tuple (ms.map .int))) : Ev c (tOp (rEqA c.K) ta tb) Γ .v (.bool (decide (ns = ms))) :=
  (e_eqD ha hb (shapedT _) (shapedT _)).to (by rw [eqvT])
end
end Lm


/-! allocations: how they are made, what goes over -/
namespace Lm
open PySem PySem.Spec PyProof.Rows L2
theorem sum_set : ∀ {ns : List Int} {m : Nat} {x : Int}, m < ns.length → (ns.set m x).sum = ns.sum - ns.getD m 0 + x
  | [], _, _, h => by simp at h
  | n :: ns, 0, x, _ => by
    show x + ns.sum = (n + ns.sum) - n + x
    omega
  | n :: ns, m + 1, x, h => by
    have := sum_set (ns := ns) (m := m) (x := x) (by simpa using h)
    show n + (ns.set m x).sum = (n + ns.sum) - ns.getD m 0 + x
    omega
theorem Alc.one {ns : List Int} {v : Int} {b m : Nat} (h : Alc ns v b) (hm : m < ns.length) : Alc (ns.set m (ns.getD m 0 + 1)) v ((b + 1 : Nat) : Int) := by
  refine ⟨by rw [List.length_set]; exact h.len, ?_, fun n hn => ?_⟩
  · have := h.sum
    rw [sum_set hm]
    omega
  · rcases List.mem_or_eq_of_mem_set hn with q | q
    · exact h.nn n q
    · have : ns.getD m 0 ∈ ns := by
        rw [List.getD_eq_getElem?_getD, List.getElem?_eq_getElem hm]
        exact List.getElem_mem hm
      have := h.nn _ this
      omega
/-! ### sums over two lists at once -/
def zs (f : Int → Int → Int) (ns ms : List Int) : Int := ((List.range ns.length).map fun j => f (ns.getD j 0) (ms.getD j 0)).sum
theorem zs_cons {f : Int → Int → Int} {n m : Int} {ns ms : List Int} : zs f (n :: ns) (m :: ms) = f n m + zs f ns ms := by
  unfold zs
  rw [List.length_cons, List.range_succ_eq_map, List.map_cons, List.sum_cons, List.map_map]
  rfl
variable {ns ms ps : List Int} {v b : Int}
theorem Alc.lens (h : Alc ns v b) (g : Alc ms v b) : ns.length = ms.length := by have := h.len; have := g.len; omega
/-- a list that is filled place by place -/
structure Due (ns os due : List Int) (v : Int) (n : Nat) : Prop where
  len : (due.length : Int) = v
  got : ∀ j, j < n → due.getD (os.getD j 0).toNat 0 = ns.getD j 0
theorem gd_lt {l : List Int} {j : Nat} (h : j < l.length) : l.getD j 0 = l[j] := by
  rw [List.getD_eq_getElem?_getD, List.getElem?_eq_getElem h]
  rfl
theorem gd_mem {l : List Int} {j : Nat} (h : j < l.length) : l.getD j 0 ∈ l := by rw [gd_lt h]; exact List.getElem_mem h
variable {os due : List Int} {n : Nat}
theorem Due.step (d : Due ns os due v n) (ho : IsOrd os v) (hn : n < os.length) : Due ns os (due.set (os.getD n 0).toNat (ns.getD n 0)) v (n + 1) := by
  refine ⟨by rw [List.length_set]; exact d.len, fun j hj => ?_⟩
  have hl := d.len
  have r1 := ho.rng _ (gd_mem hn)
  have h1 : (os.getD n 0).toNat < due.length := by omega
  by_cases q : j = n
  · subst q
    rw [List.getD_eq_getElem?_getD, List.getElem?_set_self h1]
    rfl
  · have hj' : j < n := by omega
    have hjl : j < os.length := by omega
    have r2 := ho.rng _ (gd_mem hjl)
    have ne : (os.getD n 0).toNat ≠ (os.getD j 0).toNat := fun e => by
      have e2 : os.getD j 0 = os.getD n 0 := by omega
      rw [gd_lt hn, gd_lt hjl] at e2
      exact q (nodup_inj ho.nd hjl hn e2)
    rw [List.getD_eq_getElem?_getD, List.getElem?_set_ne ne, ← List.getD_eq_getElem?_getD]
    exact d.got j hj'
theorem Due.done (d : Due ns os due v os.length) (ho : IsOrd os v) : due = placedI ns os := by
  have hl := d.len
  have hol := ho.len
  apply List.ext_getElem
  · simp [placedI, upI]; omega
  · intro i h1 h2
    obtain ⟨hj, h3, _⟩ := ho.idx (i := (i : Int)) (by omega) (by omega)
    have := d.got _ hj
    have e1 : os.getD (os.idxOf (i : Int)) 0 = i := by rw [List.getD_eq_getElem?_getD, h3]; rfl
    rw [e1] at this
    have e2 : ((i : Int)).toNat = i := by omega
    rw [e2, gd_lt h1] at this
    rw [this]
    unfold placedI
    simp [upI]
theorem upI_at {n m : Nat} {a : Im} (h : ((upI 0 n).map fun i => Im.d (.int i))[m]? = some a) : m < n ∧ a = .d (.int (m : Int)) := by
  unfold upI at h
  rw [List.map_map, List.getElem?_map] at h
  cases q : (List.range n)[m]? with
  | none => rw [q] at h; cases h
  | some j =>
    rw [q] at h
    have hm : m < n := by have := (List.getElem?_eq_some_iff.mp q).1; simpa using this
    have hj : j = m := by rw [List.getElem?_range hm] at q; exact (Option.some.inj q).symm
    subst hj
    refine ⟨hm, (Option.some.inj h).symm.trans ?_⟩
    show Im.d (.int (0 + (j : Int))) = _
    rw [Int.zero_add]
theorem ixN_at {n m : Nat} {i : Int} (hi : i = (m : Int)) (h : m < n) : ixN n i = some m := by
  rw [hi]
  exact Evl.ixN_nat h
theorem at_ints {ns : List Int} {j : Nat} (h : j < ns.length) : atI (ns.map PyData.int) (j : Int) = some (.int (ns.getD j 0)) := atI_nat (by simp [h])
end Lm


/-! zip whose tuples are kept; enumerate(zip(a, b)) -/
namespace Lm
open PySem PySem.Spec PyProof.Rows L2
/-- a zip, with what it says of its last tuple -/
abbrev IsZipX (h : Heap) (z TI TO : Addr) (x : Value) (b : Bool) : Prop := h.get? z = some { cls := .type "zip", data := .fields #[x, .bool b, .bool false, .ref TI, .ref TO] }
section
variable {prog : Program} {w : World} {A : Around} {E : Value → Shared → Prop} {s : Shared} {z TI TO i1 i2 : Addr} {fp1 fp2 : List Addr} {n1 n2 i : Nat} {P1 P2 : Nat → Value → Prop} {St1 St2 : Nat → Heap → Prop} {a1 a2 : Value} {b : Bool} {x : Value}
theorem zipX_free {Q : Bool → Shared → Prop} (hz : IsZipX s.heap z TI TO x b) (hx : x = .none ∨ ∃ T : Addr, x = rawInt T) (h1 : Q true s) (h2 : ∀ h', IsZipX h' z TI TO x true → Heap.SameBut z s.heap h' → Q false { s with heap := h' }) :
    wpAny (model prog w) A (Builtin.SmallTypes.ownedTupleIsFree (.ref z)) Q E s := by
  unfold Builtin.SmallTypes.ownedTupleIsFree
  refine wpAny_bind (wpAny_field hz rfl (x := x) rfl ?_)
  rcases hx with rfl | ⟨T, rfl⟩
  · exact wpAny_pure h1
  · show wpAny _ _ (loadIfAlive T >>= _) _ _ _
    cases hT : s.heap.get? T with
    | none =>
      have alive : ∀ {Q : Option Obj → Shared → Prop}, Q none s → wpAny (model prog w) A (loadIfAlive T) Q E s := fun {Q} q => by
        have q' : Q (s.heap.get? T) s := by rw [hT]; exact q
        exact fun _ _ _ => q'
      refine wpAny_bind (alive ?_)
      exact wpAny_pure h1
    | some o =>
      refine wpAny_bind (PySem.W.kdx_alive hT ?_)
      simp only [Option.isNone_some, Bool.false_eq_true, if_false]
      refine wpAny_bind (wpAny_field hz rfl (x := .bool b) rfl ?_)
      cases b with
      | true => exact wpAny_pure (h2 _ hz (Heap.SameBut.refl ..))
      | false => exact wpAny_bind (wpAny_setField_rec hz (by simp) fun h1 hz1 hs1 => wpAny_pure (h2 h1 hz1 hs1))
/-- a turn of zip, whatever became of the last tuple -/
theorem zipX_item {Q : Value → Shared → Prop} (S : ZipSep2 z TI TO i1 i2 fp1 fp2) (D1 : Draws prog w A i1 fp1 n1 P1 St1) (D2 : Draws prog w A i2 fp2 n2 P2 St2)
    (hz : IsZipX s.heap z TI TO x b) (hx : x = .none ∨ ∃ T : Addr, x = rawInt T) (hTI : IsTupOf2 s.heap TI (.ref i1) (.ref i2)) (hTO : IsTupOf2 s.heap TO a1 a2) (st1 : St1 i s.heap) (st2 : St2 i s.heap) (hlt1 : i < n1) (hlt2 : i < n2)
    (hQ : ∀ x1 x2 h' tk x' b', P1 i x1 → P2 i x2 → IsZipX h' z TI TO x' b' → (x' = .none ∨ ∃ T : Addr, x' = rawInt T) → (∃ a1 a2, IsTupOf2 h' TO a1 a2) → St1 (i + 1) h' → St2 (i + 1) h' → IsTupOf2 h' s.heap.objs.size x1 x2 → h'.objs.size = s.heap.objs.size + 1 →
      (∀ c o, c ≠ z → c ≠ TO → c ≠ i1 → c ≠ i2 → s.heap.get? c = some o → h'.get? c = some o) → Q (.ref s.heap.objs.size) { s with heap := h', toks := tk }) :
    wpAny (model prog w) A (Builtin.«zip.__next__» ⟨[.ref z], []⟩) (fun fin s' => ∃ v, fin = .done (.ret v) ∧ Q v s') E s := by
  obtain ⟨hp, g, d, tk0, os⟩ := s
  show wpAny _ _ (field (.ref z) 2 >>= _) _ _ _
  refine wpAny_bind (wpAny_field hz rfl (x := .bool false) rfl ?_)
  show wpAny _ _ (field (.ref z) 3 >>= _) _ _ _
  refine wpAny_bind (wpAny_field hz rfl (x := .ref TI) rfl ?_)
  refine wpAny_bind (wpAny_seqItems hTI rfl ?_)
  show wpAny _ _ (Builtin.SmallTypes.ownedTupleIsFree (.ref z) >>= _) _ _ _
  refine wpAny_bind (zipX_free hz hx ?_ fun g0 hz0 hs0 => ?_)
  · simp only [if_true]
    refine wpAny_bind (wpAny_rule (wpAny_bind (wpAny_field hz rfl (x := .ref TO) rfl ?_)))
    refine wpAny_bind (wpAny_setField_rec hz (by simp) fun g0 hz0 hs0 => ?_)
    replace hz0 : IsZipX g0 z TI TO .ellipsis b := hz0
    replace hs0 : Heap.SameBut z hp g0 := hs0
    refine wpAny_bind ?_
    simp only [List.zipIdx_cons, List.zipIdx_nil, List.forIn_cons, List.forIn_nil]
    refine wpAny_bind (wpAny_bind (wpAny_onRaise ?_))
    show wpAny _ _ (Builtin.SmallTypes.nextOf (.ref i1) >>= _) _ _ ⟨g0, g, d, tk0, os⟩
    refine wpAny_bind (D1.item i _ _ _ hlt1 (D1.over st1 hs0 S.zf1) fun x1 p1 tk1 hx1 sn1 hp1 => wpAny_pure ?_)
    replace hp1 : Heap.SameBut i1 g0 p1 := hp1
    have hU1 : IsTupOf2 p1 TO a1 a2 := hp1.extBut _ _ S.Ti1 (hs0.extBut _ _ S.TOz hTO)
    refine wpAny_bind (wpAny_seqItems (s := ⟨p1, g, d, tk1, os⟩) hU1 rfl ?_)
    refine wpAny_bind (updateSeq_IsTupOf2 (s := ⟨p1, g, d, tk1, os⟩) hU1 fun g1 hT1 hs1 => ?_)
    replace hT1 : IsTupOf2 g1 TO x1 a2 := hT1
    replace hs1 : Heap.SameBut TO p1 g1 := hs1
    refine wpAny_bind (wpAny_letGo (wpAny_pure ?_))
    refine wpAny_bind (wpAny_bind (wpAny_onRaise ?_))
    show wpAny _ _ (Builtin.SmallTypes.nextOf (.ref i2) >>= _) _ _ ⟨g1, g, d, tk1, os⟩
    refine wpAny_bind (D2.item i _ _ _ hlt2 (D2.over (D2.over (D2.over st2 hs0 S.zf2) hp1 S.sep1_2) hs1 S.Tf2) fun x2 p2 tk2 hx2 sn2 hp2 => wpAny_pure ?_)
    replace hp2 : Heap.SameBut i2 g1 p2 := hp2
    have hU2 : IsTupOf2 p2 TO x1 a2 := hp2.extBut _ _ S.Ti2 hT1
    refine wpAny_bind (wpAny_seqItems (s := ⟨p2, g, d, tk2, os⟩) hU2 rfl ?_)
    refine wpAny_bind (updateSeq_IsTupOf2 (s := ⟨p2, g, d, tk2, os⟩) hU2 fun g2 hT2 hs2 => ?_)
    replace hT2 : IsTupOf2 g2 TO x1 x2 := hT2
    replace hs2 : Heap.SameBut TO p2 g2 := hs2
    refine wpAny_bind (wpAny_letGo (wpAny_pure (wpAny_pure ?_)))
    refine wpAny_bind (wpAny_seqItems (s := ⟨g2, g, d, tk2, os⟩) hT2 rfl (wpAny_bind (wpAny_newTuple ?_)))
    have hsz : g2.objs.size = hp.objs.size := by rw [hs2.1, hp2.1, hs1.1, hp1.1, hs0.1]
    have hzz : IsZipX g2 z TI TO .ellipsis b := (hs2.extBut _ _ S.TOz.symm (hp2.extBut _ _ S.zi2 (hs1.extBut _ _ S.TOz.symm (hp1.extBut _ _ S.zi1 hz0))))
    have hkk : ∀ c o, c ≠ z → c ≠ TO → c ≠ i1 → c ≠ i2 → hp.get? c = some o → g2.get? c = some o := fun c o cz cT c1 c2 e =>
      hs2.extBut _ _ cT (hp2.extBut _ _ c2 (hs1.extBut _ _ cT (hp1.extBut _ _ c1 (hs0.extBut _ _ cz e))))
    have hj1 : St1 (i + 1) g2 := D1.over (D1.over (D1.over sn1 hs1 S.Tf1) hp2 S.sep2_1) hs2 S.Tf1
    have hj2 : St2 (i + 1) g2 := D2.over sn2 hs2 S.Tf2
    have hzlt : z < g2.objs.size := Heap.lt_size hzz
    show wpAny _ _ (Builtin.SmallTypes.ownedTupleHandOut (.ref z) (.ref g2.objs.size) >>= _) _ _ ⟨g2.push { cls := .type "tuple", data := .seq #[x1, x2] }, g, d, tk2, os⟩
    refine wpAny_bind ?_
    unfold Builtin.SmallTypes.ownedTupleHandOut
    have hz6 : IsZipX (g2.push { cls := .type "tuple", data := .seq #[x1, x2] }) z TI TO .ellipsis b := Heap.get?_push_of_some _ hzz
    refine wpAny_bind (wpAny_setField_rec hz6 (by simp) fun h7 hz7 hs7 => ?_)
    replace hz7 : IsZipX h7 z TI TO (rawInt g2.objs.size) b := hz7
    refine wpAny_setField_rec hz7 (by simp) fun h8 hz8 hs8 => ?_
    replace hz8 : IsZipX h8 z TI TO (rawInt g2.objs.size) false := hz8
    replace hs7 : Heap.SameBut z (g2.push { cls := .type "tuple", data := .seq #[x1, x2] }) h7 := hs7
    replace hs8 : Heap.SameBut z h7 h8 := hs8
    have up : ∀ c o, c ≠ z → g2.get? c = some o → h8.get? c = some o := fun c o c1 e => hs8.extBut _ _ c1 (hs7.extBut _ _ c1 (Heap.get?_push_of_some _ e))
    have hT8 : IsTupOf2 h8 g2.objs.size x1 x2 := hs8.extBut _ _ (Nat.ne_of_gt hzlt) (hs7.extBut _ _ (Nat.ne_of_gt hzlt) (Heap.get?_push_size _ rfl))
    have hz9 : h8.objs.size = g2.objs.size + 1 := by rw [hs8.1, hs7.1, Heap.size_push]
    rw [hsz] at hz8 hT8 hz9
    refine wpAny_pure ⟨_, rfl, ?_⟩
    show Q (.ref g2.objs.size) ⟨h8, g, d, tk2, os⟩
    rw [hsz]
    exact hQ x1 x2 h8 tk2 _ _ hx1 hx2 hz8 (.inr ⟨_, rfl⟩) ⟨_, _, up _ _ S.TOz hT2⟩ (D1.frame _ _ _ hj1 fun b hb o e => up b o (fun q => S.zf1 (q ▸ hb)) e) (D2.frame _ _ _ hj2 fun b hb o e => up b o (fun q => S.zf2 (q ▸ hb)) e) hT8 hz9 fun c o cz cT c1 c2 e => up c o cz (hkk c o cz cT c1 c2 e)
  · replace hs0 : Heap.SameBut z hp g0 := hs0
    simp only [Bool.false_eq_true, if_false]
    refine wpAny_bind ?_
    rw [← Array.forIn_toList]
    simp only [List.forIn_cons, List.forIn_nil]
    refine wpAny_bind (wpAny_bind (wpAny_holding ?_))
    show wpAny _ _ (Builtin.SmallTypes.nextOf (.ref i1) >>= _) _ _ ⟨g0, g, d, tk0, os⟩
    refine wpAny_bind (D1.item i _ _ _ hlt1 (D1.over st1 hs0 S.zf1) fun x1 p1 tk1 hx1 sn1 hp1 => wpAny_pure ?_)
    replace hp1 : Heap.SameBut i1 g0 p1 := hp1
    refine wpAny_pure ?_
    refine wpAny_bind (wpAny_bind (wpAny_holding ?_))
    show wpAny _ _ (Builtin.SmallTypes.nextOf (.ref i2) >>= _) _ _ ⟨p1, g, d, tk1, os⟩
    refine wpAny_bind (D2.item i _ _ _ hlt2 (D2.over (D2.over st2 hs0 S.zf2) hp1 S.sep1_2) fun x2 p2 tk2 hx2 sn2 hp2 => wpAny_pure ?_)
    replace hp2 : Heap.SameBut i2 p1 p2 := hp2
    refine wpAny_pure (wpAny_pure ?_)
    show wpAny _ _ (newTuple [x1, x2] >>= _) _ _ ⟨p2, g, d, tk2, os⟩
    refine wpAny_bind (wpAny_newTuple ?_)
    have hsz : p2.objs.size = hp.objs.size := by rw [hp2.1, hp1.1, hs0.1]
    have hzz : IsZipX p2 z TI TO x true := hp2.extBut _ _ S.zi2 (hp1.extBut _ _ S.zi1 hz0)
    have hj1 : St1 (i + 1) p2 := D1.over sn1 hp2 S.sep2_1
    have hTO2 : IsTupOf2 p2 TO a1 a2 := hp2.extBut _ _ S.Ti2 (hp1.extBut _ _ S.Ti1 (hs0.extBut _ _ S.TOz hTO))
    refine wpAny_pure ⟨_, rfl, ?_⟩
    show Q (.ref p2.objs.size) _
    rw [hsz]
    refine hQ x1 x2 (p2.push { cls := .type "tuple", data := .seq #[x1, x2] }) tk2 _ _ hx1 hx2 (Heap.get?_push_of_some _ hzz) hx ⟨_, _, Heap.get?_push_of_some _ hTO2⟩ (D1.frame _ _ _ hj1 fun b hb o e => Heap.get?_push_of_some _ e) (D2.frame _ _ _ sn2 fun b hb o e => Heap.get?_push_of_some _ e) ?_ (by rw [Heap.size_push, hsz]) fun c o cz cT c1 c2 e => Heap.get?_push_of_some _ (hp2.extBut _ _ c2 (hp1.extBut _ _ c1 (hs0.extBut _ _ cz e)))
    rw [← hsz]
    exact Heap.get?_push_size _ rfl
/-- zip at its end: the first iterator has ended -/
theorem zipX_end {Q : Fin → Shared → Prop} (S : ZipSep2 z TI TO i1 i2 fp1 fp2) (D1 : Draws prog w A i1 fp1 n1 P1 St1)
    (hz : IsZipX s.heap z TI TO x b) (hx : x = .none ∨ ∃ T : Addr, x = rawInt T) (hTI : IsTupOf2 s.heap TI (.ref i1) (.ref i2)) (st1 : St1 n1 s.heap)
    (hE : ∀ h' e, (∀ c o, c ≠ z → c ≠ i1 → s.heap.get? c = some o → h'.get? c = some o) → (∃ o, h'.get? e = some o ∧ o.cls = .type "StopIteration") → E (.ref e) { s with heap := h' }) :
    wpAny (model prog w) A (Builtin.«zip.__next__» ⟨[.ref z], []⟩) Q E s := by
  obtain ⟨hp, g, d, tk0, os⟩ := s
  show wpAny _ _ (field (.ref z) 2 >>= _) _ _ _
  refine wpAny_bind (wpAny_field hz rfl (x := .bool false) rfl ?_)
  show wpAny _ _ (field (.ref z) 3 >>= _) _ _ _
  refine wpAny_bind (wpAny_field hz rfl (x := .ref TI) rfl ?_)
  refine wpAny_bind (wpAny_seqItems hTI rfl ?_)
  show wpAny _ _ (Builtin.SmallTypes.ownedTupleIsFree (.ref z) >>= _) _ _ _
  refine wpAny_bind (zipX_free hz hx ?_ fun g0 hz0 hs0 => ?_)
  · simp only [if_true]
    refine wpAny_bind (wpAny_rule (wpAny_bind (wpAny_field hz rfl (x := .ref TO) rfl ?_)))
    refine wpAny_bind (wpAny_setField_rec hz (by simp) fun g0 hz0 hs0 => ?_)
    replace hz0 : IsZipX g0 z TI TO .ellipsis b := hz0
    replace hs0 : Heap.SameBut z hp g0 := hs0
    refine wpAny_bind ?_
    simp only [List.zipIdx_cons, List.zipIdx_nil, List.forIn_cons, List.forIn_nil]
    refine wpAny_bind (wpAny_bind (wpAny_onRaise ?_))
    show wpAny _ _ (Builtin.SmallTypes.nextOf (.ref i1) >>= _) _ _ ⟨g0, g, d, tk0, os⟩
    refine wpAny_bind (D1.done ⟨g0, g, d, tk0, os⟩ _ _ (D1.over st1 hs0 S.zf1) fun q e hq he => ?_)
    replace hq : Heap.ExtBut i1 g0 q := hq
    obtain ⟨oe, hoe, hce⟩ := he
    replace hoe : q.get? e = some oe := hoe
    have hzq : IsZipX q z TI TO .ellipsis b := hq _ _ S.zi1 hz0
    have hez : e ≠ z := fun y => by subst y; rw [hzq] at hoe; cases hoe; simp at hce
    refine wpAny_setField_rec (s := ⟨q, g, d, tk0, os⟩) hzq (by simp) fun q' _ hq' => ?_
    replace hq' : Heap.SameBut z q q' := hq'
    exact hE q' e (fun c o cz c1 y => hq'.extBut _ _ cz (hq _ _ c1 (hs0.extBut _ _ cz y))) ⟨oe, hq'.extBut _ _ hez hoe, hce⟩
  · replace hs0 : Heap.SameBut z hp g0 := hs0
    simp only [Bool.false_eq_true, if_false]
    refine wpAny_bind ?_
    rw [← Array.forIn_toList]
    simp only [List.forIn_cons, List.forIn_nil]
    refine wpAny_bind (wpAny_bind (wpAny_holding ?_))
    show wpAny _ _ (Builtin.SmallTypes.nextOf (.ref i1) >>= _) _ _ ⟨g0, g, d, tk0, os⟩
    refine wpAny_bind (D1.done ⟨g0, g, d, tk0, os⟩ _ _ (D1.over st1 hs0 S.zf1) fun q e hq he => ?_)
    replace hq : Heap.ExtBut i1 g0 q := hq
    exact hE q e (fun c o cz c1 y => hq _ _ c1 (hs0.extBut _ _ cz y)) he
end
section
variable {prog : Program} {w : World} {A : Around} {E : Value → Shared → Prop} {s : Shared}
/-- a turn of enumerate, the inner iterator's turn being given -/
theorem enumN_item {e it : Addr} {i : Nat} {old : Value} {Q : Value → Shared → Prop} (he : IsEnum s.heap e it i old)
    (inner : wpAny (model prog w) A (Builtin.SmallTypes.nextOf (.ref it)) (fun x s1 => IsEnum s1.heap e it i old ∧
      ∀ h' tk, IsEnumOut h' e it ((i : Int) + 1) x s1.heap.objs.size → h'.get? s1.heap.objs.size = some { cls := .type "tuple", data := .seq #[.int i tk, x] } →
        (∀ b o, b ≠ e → s1.heap.get? b = some o → h'.get? b = some o) → Q (.ref s1.heap.objs.size) { s1 with heap := h', toks := s1.toks + 1 }) E s) :
    wpAny (model prog w) A (Builtin.«enumerate.__next__» ⟨[.ref e], []⟩) (fun fin s' => ∃ v, fin = .done (.ret v) ∧ Q v s') E s := by
  show wpAny _ _ (field (.ref e) 2 >>= _) _ _ _
  refine wpAny_bind (wpAny_field he rfl (x := .ref it) rfl ?_)
  refine wpAny_bind (wpAny_mono inner (fun x s1 hh => ?_) fun _ _ y => y)
  obtain ⟨he1, hQ⟩ := hh
  obtain ⟨h1, g, d, tk, os⟩ := s1
  show wpAny _ _ (field (.ref e) 3 >>= _) _ _ ⟨h1, g, d, tk, os⟩
  refine wpAny_bind (wpAny_field he1 rfl (x := rawInt i) rfl ?_)
  show wpAny _ _ (field (.ref e) 4 >>= _) _ _ ⟨h1, g, d, tk, os⟩
  refine wpAny_bind (wpAny_field he1 rfl (x := .none) rfl ?_)
  show wpAny _ _ (mkInt i >>= _) _ _ ⟨h1, g, d, tk, os⟩
  refine wpAny_bind (wpAny_mkInt ?_)
  show wpAny _ _ (setField (.ref e) 3 (rawInt ((i : Int) + 1)) >>= _) _ _ ⟨h1, g, d, tk + 1, os⟩
  refine wpAny_bind (wpAny_setField_rec he1 (by simp) fun h2 he2 hs2 => ?_)
  replace hs2 : Heap.SameBut e h1 h2 := hs2
  replace he2 : IsEnum h2 e it ((i : Int) + 1) old := he2
  show wpAny _ _ (setField (.ref e) 4 .none >>= _) _ _ ⟨h2, g, d, tk + 1, os⟩
  refine wpAny_bind (wpAny_setField_rec he2 (by simp) fun h3 he3 hs3 => ?_)
  replace hs3 : Heap.SameBut e h2 h3 := hs3
  replace he3 : IsEnum h3 e it ((i : Int) + 1) old := he3
  show wpAny _ _ (newTuple [.int i tk, x] >>= _) _ _ ⟨h3, g, d, tk + 1, os⟩
  refine wpAny_bind (wpAny_newTuple ?_)
  have hsz : h3.objs.size = h1.objs.size := by rw [hs3.1, hs2.1]
  have hel : e < h1.objs.size := Heap.lt_size he1
  have he4 : IsEnum (h3.push { cls := .type "tuple", data := .seq #[.int i tk, x] }) e it ((i : Int) + 1) old := Heap.get?_push_of_some _ he3
  have ht4 : (h3.push { cls := .type "tuple", data := .seq #[.int i tk, x] }).get? h3.objs.size = some { cls := .type "tuple", data := .seq #[.int i tk, x] } := Heap.get?_push_size _ rfl
  have hk4 : ∀ b o, b ≠ e → h1.get? b = some o → (h3.push { cls := .type "tuple", data := .seq #[.int i tk, x] }).get? b = some o := fun b o hbe hb =>
    Heap.get?_push_of_some _ (hs3.extBut b o hbe (hs2.extBut b o hbe hb))
  generalize h3.push { cls := .type "tuple", data := .seq #[.int i tk, x] } = h4 at he4 ht4 hk4
  show wpAny _ _ (Builtin.SmallTypes.ownedTupleIsFree (.ref e) >>= _) _ _ ⟨h4, g, d, tk + 1, os⟩
  rw [hsz] at ht4 ⊢
  refine wpAny_bind ?_
  unfold Builtin.SmallTypes.ownedTupleIsFree
  refine wpAny_bind (wpAny_field he4 rfl (x := .none) rfl (wpAny_pure ?_))
  simp only [if_true]
  refine wpAny_bind (wpAny_rule (wpAny_bind (wpAny_field he4 rfl (x := old) rfl ?_)))
  refine wpAny_bind (wpAny_setField_rec he4 (by simp) fun h5 he5 hs5 => ?_)
  replace hs5 : Heap.SameBut e h4 h5 := hs5
  replace he5 : IsEnum h5 e it ((i : Int) + 1) x := he5
  show wpAny _ _ (Builtin.SmallTypes.ownedTupleHandOut (.ref e) (.ref h1.objs.size) >>= _) _ _ ⟨h5, g, d, tk + 1, os⟩
  refine wpAny_bind ?_
  unfold Builtin.SmallTypes.ownedTupleHandOut
  refine wpAny_bind (wpAny_setField_rec he5 (by simp) fun h6 he6 hs6 => ?_)
  replace hs6 : Heap.SameBut e h5 h6 := hs6
  replace he6 : IsEnumOut h6 e it ((i : Int) + 1) x h1.objs.size := he6
  refine wpAny_setField_rec he6 (by simp) fun h7 he7 hs7 => ?_
  replace hs7 : Heap.SameBut e h6 h7 := hs7
  replace he7 : IsEnumOut h7 e it ((i : Int) + 1) x h1.objs.size := he7
  refine wpAny_bind (wpAny_letGo (wpAny_pure ⟨_, rfl, hQ h7 tk he7 ?_ ?_⟩))
  · exact hs7.extBut _ _ (Nat.ne_of_gt hel) (hs6.extBut _ _ (Nat.ne_of_gt hel) (hs5.extBut _ _ (Nat.ne_of_gt hel) ht4))
  · exact fun b o hbe hb => hs7.extBut b o hbe (hs6.extBut b o hbe (hs5.extBut b o hbe (hk4 b o hbe hb)))
theorem nextOf_zip {z TI TO : Addr} {x : Value} {b : Bool} {Q : Value → Shared → Prop} (hz : IsZipX s.heap z TI TO x b)
    (h : wpAny (model prog w) A.in1 (Builtin.«zip.__next__» ⟨[.ref z], []⟩) (fun fin s' => ∃ v, fin = .done (.ret v) ∧ Q v s') E s) : wpAny (model prog w) A (Builtin.SmallTypes.nextOf (.ref z)) Q E s := by
  have hT : s.TypeIs (.ref z) "zip" := ⟨_, hz, rfl⟩
  unfold Builtin.SmallTypes.nextOf
  refine wpAny_bind (wpAny_callSpecial?_slot (name := Str.ofString "__next__") hT F.slot_zip_next
    (wpAny_call_entry F.slot_zip_next hT F.entry_zip_next ?_ (F.args_zip_next_1 _)))
  refine wpAny_mono h (fun fin s' ⟨v, e, q⟩ => ?_) fun _ _ y => y
  subst e
  exact ⟨v, rfl, wpAny_pure q⟩
theorem next_enum {e it : Addr} {i : Int} {old : Value} {Q : Option Value → Shared → Prop} (he : IsEnum s.heap e it i old)
    (h : ∀ E' : Value → Shared → Prop, wpAny (model prog w) A.in1 (Builtin.«enumerate.__next__» ⟨[.ref e], []⟩) (fun fin s' => ∃ v, fin = .done (.ret v) ∧ Q (some v) s') E' s) : wpAny (model prog w) A (pyNext (.ref e)) Q E s := by
  have hT : s.TypeIs (.ref e) "enumerate" := ⟨_, he, rfl⟩
  unfold pyNext
  refine wpAny_bind (wpAny_attempt (wpAny_callSpecial?_slot (name := Str.ofString "__next__") hT F.slot_enumerate_next
    (wpAny_call_entry F.slot_enumerate_next hT F.entry_enumerate_next ?_ (F.args_enumerate_next_1 _))))
  refine wpAny_mono (h _) (fun fin s' ⟨v, e, q⟩ => ?_) fun _ _ y => y
  subst e
  exact ⟨v, rfl, wpAny_pure q⟩
theorem next_enum_zip_end {e z TI TO i1 i2 : Addr} {i : Int} {old x : Value} {b : Bool} {fp1 fp2 : List Addr} {n1 : Nat} {P1 : Nat → Value → Prop} {St1 : Nat → Heap → Prop} {Q : Option Value → Shared → Prop} (he : IsEnum s.heap e z i old)
    (S : ZipSep2 z TI TO i1 i2 fp1 fp2) (D1 : ∀ A' : Around, A'.handled = none → Draws prog w A' i1 fp1 n1 P1 St1) (hh : A.handled = none) (hz : IsZipX s.heap z TI TO x b) (hx : x = .none ∨ ∃ T : Addr, x = rawInt T) (hTI : IsTupOf2 s.heap TI (.ref i1) (.ref i2)) (st1 : St1 n1 s.heap)
    (hQ : ∀ h', (∀ c o, c ≠ z → c ≠ i1 → s.heap.get? c = some o → h'.get? c = some o) → Q none { s with heap := h' }) : wpAny (model prog w) A (pyNext (.ref e)) Q E s := by
  have hT : s.TypeIs (.ref e) "enumerate" := ⟨_, he, rfl⟩
  have hTz : s.TypeIs (.ref z) "zip" := ⟨_, hz, rfl⟩
  unfold pyNext
  refine wpAny_bind (wpAny_attempt (wpAny_callSpecial?_slot (name := Str.ofString "__next__") hT F.slot_enumerate_next
    (wpAny_call_entry F.slot_enumerate_next hT F.entry_enumerate_next ?_ (F.args_enumerate_next_1 _))))
  show wpAny _ _ (field (.ref e) 2 >>= _) _ _ _
  refine wpAny_bind (wpAny_field he rfl (x := .ref z) rfl ?_)
  unfold Builtin.SmallTypes.nextOf
  refine wpAny_bind (wpAny_bind (wpAny_callSpecial?_slot (name := Str.ofString "__next__") hTz F.slot_zip_next
    (wpAny_call_entry F.slot_zip_next hTz F.entry_zip_next ?_ (F.args_zip_next_1 _))))
  refine zipX_end S (D1 _ hh) hz hx hTI st1 fun h' x' he' hx' => ?_
  obtain ⟨o, ho, hc⟩ := hx'
  refine wpAny_bind (wpAny_isInstance (T := "StopIteration") (b := true) ⟨o, ho, hc⟩ isSubtype_stop ?_)
  exact wpAny_pure (hQ _ he')
end
/-- enumerate(zip(a, b)), a and b tuples: the items in new pairs, each in a new pair with its place -/
def IteZ (K : PySem.W.Frag) (a b : Addr) : It where
  go := fun i H => ∃ (xs ys : List V) (x y : V), SqT K H a xs ∧ SqT K H b ys ∧ xs[i]? = some x ∧ ys[i]? = some y
  yld := fun i H v H' => ∃ (T2 T3 : Addr) (x y : V), v = .ref T3 ∧ H T2 = none ∧ upd H T2 (.tup [x, y]) T3 = none ∧ H' = upd (upd H T2 (.tup [x, y])) T3 (.tup [.int (i : Nat), .ref T2]) ∧ (∀ xs, SqT K H a xs → xs[i]? = some x) ∧ ∀ ys, SqT K H b ys → ys[i]? = some y
  stop := fun i H => ∃ xs : List V, SqT K H a xs ∧ xs.length = i
theorem turnEnumZ {P : Program} {w : World} {K : PySem.W.Frag} {elts : List Expr} {kk : Nat} {tpos : Pos} {a b e z TI TO i1 i2 : Addr} (S : ZipSep2 z TI TO i1 i2 [i1, a] [i2, b]) (ha : a ≠ i1) (hb : b ≠ i2) (ez : e ≠ z) (eI : e ≠ TI) (eO : e ≠ TO) (e1 : e ≠ i1) (e2 : e ≠ i2) :
    Turn P w K (.Tuple elts kk tpos) (IteZ K a b) [e, z, TI, TO, i1, i2] e fun i h => (∃ old, IsEnum h e z ((i : Nat) : Int) old) ∧ (∃ x bb, IsZipX h z TI TO x bb ∧ (x = .none ∨ ∃ T : Addr, x = rawInt T)) ∧ IsTupOf2 h TI (.ref i1) (.ref i2) ∧ (∃ a1 a2, IsTupOf2 h TO a1 a2) ∧ h.IsTupleIter i1 a i ∧ h.IsTupleIter i2 b i where
  mem := List.mem_cons_self
  obj := by
    rintro i h ⟨⟨old, he⟩, ⟨x, bb, hz, _⟩, hTI, ⟨a1, a2, hTO⟩, ⟨o1, g1, _, d1⟩, ⟨o2, g2, _, d2⟩⟩ c hc
    have e' : c = e ∨ c = z ∨ c = TI ∨ c = TO ∨ c = i1 ∨ c = i2 := by simpa using hc
    rcases e' with q | q | q | q | q | q
    · rw [q]; exact ⟨_, he, fun v q => nomatch q⟩
    · rw [q]; exact ⟨_, hz, fun v q => nomatch q⟩
    · rw [q]; exact ⟨_, hTI, fun v q => nomatch q⟩
    · rw [q]; exact ⟨_, hTO, fun v q => nomatch q⟩
    · rw [q]; exact ⟨o1, g1, fun v q => by rw [d1] at q; cases q⟩
    · rw [q]; exact ⟨o2, g2, fun v q => by rw [d2] at q; cases q⟩
  keep := by
    rintro i h h' ⟨⟨old, he⟩, ⟨x, bb, hz, hx⟩, hTI, ⟨a1, a2, hTO⟩, h1, h2⟩ k
    exact ⟨⟨old, k e (by simp) _ he⟩, ⟨x, bb, k z (by simp) _ hz, hx⟩, k TI (by simp) _ hTI, ⟨a1, a2, k TO (by simp) _ hTO⟩, h1.at fun o q => k i1 (by simp) o q, h2.at fun o q => k i2 (by simp) o q⟩
  item := by
    intro X hP hw hK hc i pins s σ H E I hf ⟨⟨old, he⟩, ⟨x0, bb, hz, hx0⟩, hTI, ⟨a1, a2, hTO⟩, h1, h2⟩ ⟨xs, ys, x, y, hqx, hqy, hx, hy⟩
    subst hP hw hK
    obtain ⟨its, rv, p, _⟩ := I.tuple hqx
    obtain ⟨its2, rv2, p2, _⟩ := I.tuple hqy
    obtain ⟨u, hu, ru⟩ := rv.get hx
    obtain ⟨u2, hu2, ru2⟩ := rv2.get hy
    have lt1 : i < its.toArray.size := by rw [List.size_toArray]; exact (List.getElem?_eq_some_iff.mp hu).1
    have lt2 : i < its2.toArray.size := by rw [List.size_toArray]; exact (List.getElem?_eq_some_iff.mp hu2).1
    have hh : X.A.in1.in1.handled = none := I.ok.hd hc
    have hel := Heap.lt_size he
    refine next_enum he fun E' => enumN_item he (nextOf_zip hz (zipX_item S (Draws.tuple hh i1 a ha its.toArray) (Draws.tuple hh i2 b hb its2.toArray) hz hx0 hTI hTO ⟨h1, p⟩ ⟨h2, p2⟩ lt1 lt2 fun v1 v2 g1 tk x' b' hv1 hv2 hz' hx' hTO' s1' s2' hT hsz hk => ⟨?_, fun h' tk2 ho hT3 hk2 => ⟨_, rfl, wpAny_letOwnedTupleGo_enum ho fun h'' he'' sb => ?_⟩⟩))
    · exact hk _ _ ez eO e1 e2 he
    · have q1 : v1 = u := by
        have : its[i]? = some v1 := by simpa using hv1
        rw [hu] at this
        exact (Option.some.inj this).symm
      have q2 : v2 = u2 := by
        have : its2[i]? = some v2 := by simpa using hv2
        rw [hu2] at this
        exact (Option.some.inj this).symm
      subst q1 q2
      have hf1 : ∀ c ∈ [z, TI, TO, i1, i2], FpOk X pins H c := fun c hc => hf c (List.mem_cons_of_mem _ hc)
      have frT : H s.heap.objs.size = none := I.hok.fresh (Nat.le_refl _)
      have hlt : ∀ c ∈ [e, z, TI, TO, i1, i2], c < s.heap.objs.size := fun c hc => by
        have e' : c = e ∨ c = z ∨ c = TI ∨ c = TO ∨ c = i1 ∨ c = i2 := by simpa using hc
        rcases e' with q | q | q | q | q | q
        · rw [q]; exact hel
        · rw [q]; exact Heap.lt_size hz
        · rw [q]; exact Heap.lt_size hTI
        · rw [q]; exact Heap.lt_size hTO
        · rw [q]; obtain ⟨_, w1, _⟩ := h1; exact Heap.lt_size w1
        · rw [q]; obtain ⟨_, w1, _⟩ := h2; exact Heap.lt_size w1
      have I1 : Inv X pins σ (upd H s.heap.objs.size (.tup [x, y])) { s with heap := g1, toks := tk } :=
        I.turnedNew (t' := tk) (ch := [z, TI, TO, i1, i2]) (fun c o hb q => hk c o (fun q' => hb (by simp [q'])) (fun q' => hb (by simp [q'])) (fun q' => hb (by simp [q'])) (fun q' => hb (by simp [q'])) q) hf1 (Nat.le_refl _)
          ⟨by show 2 ≤ sizeLine; decide, [v1, v2], .cons ru (.cons ru2 .nil), ⟨_, hT, rfl, _, rfl⟩⟩
      have heg : e < g1.objs.size := by rw [hsz]; exact Nat.lt_succ_of_lt hel
      have fe : FpOk X pins (upd H s.heap.objs.size (.tup [x, y])) e := by
        obtain ⟨f0, f1⟩ := hf e List.mem_cons_self
        exact ⟨by rw [upd_ne (Nat.ne_of_lt hel)]; exact f0, f1⟩
      have hT3' : h''.get? g1.objs.size = some { cls := .type "tuple", data := .seq #[.int i tk2, .ref s.heap.objs.size] } := (sb.2 _ (Nat.ne_of_gt heg)).trans hT3
      have I2 : Inv X pins σ (upd (upd H s.heap.objs.size (.tup [x, y])) g1.objs.size (.tup [.int (i : Nat), .ref s.heap.objs.size])) { s with heap := h'', toks := tk + 1 } :=
        I1.turnedNew (t' := tk + 1) (ch := [e]) (fun c o hb q => (sb.2 c fun q' => hb (by simp [q'])).trans (hk2 c o (fun q' => hb (by simp [q'])) q)) (fun c hc => by cases List.mem_singleton.mp hc; exact fe) (Nat.le_refl _)
          ⟨by show 2 ≤ sizeLine; decide, [.int i tk2, .ref s.heap.objs.size], .cons ⟨_, rfl⟩ (.cons rfl .nil), ⟨_, hT3', rfl, _, rfl⟩⟩
      have up2 : ∀ c o, c ≠ e → g1.get? c = some o → h''.get? c = some o := fun c o ce q => (sb.2 c ce).trans (hk2 c o ce q)
      refine ⟨.ref g1.objs.size, _, I2, rfl, ⟨_, _, x, y, rfl, frT, I1.hok.fresh (Nat.le_refl _), rfl, fun l hl => by rw [I.tuple_inj hl hqx]; exact hx, fun l hl => by rw [I.tuple_inj hl hqy]; exact hy⟩, ⟨⟨.ref s.heap.objs.size, ?_⟩, ⟨x', b', up2 _ _ ez.symm hz', hx'⟩, ?_, ?_, s1'.1.at fun o q => up2 _ o e1.symm q, s2'.1.at fun o q => up2 _ o e2.symm q⟩, fun c hc => ?_⟩
      · have w1 : ((i + 1 : Nat) : Int) = (i : Int) + 1 := by omega
        rw [w1]; exact he''
      · exact up2 _ _ eI.symm (hk _ _ S.TIz S.TITO S.TIi1 S.TIi2 hTI)
      · obtain ⟨c1, c2, q⟩ := hTO'
        exact ⟨c1, c2, up2 _ _ eO.symm q⟩
      · have lc := hlt c hc
        have lg : c ≠ g1.objs.size := by rw [hsz]; exact Nat.ne_of_lt (Nat.lt_succ_of_lt lc)
        rw [upd_ne lg, upd_ne (Nat.ne_of_lt lc)]
        exact (hf c hc).1
  done := by
    intro X hP hw hK hc i pins s σ H E I hf ⟨⟨old, he⟩, ⟨x0, bb, hz, hx0⟩, hTI, ⟨a1, a2, hTO⟩, h1, h2⟩ ⟨xs, hqx, hx⟩
    subst hP hw hK
    obtain ⟨its, rv, p, _⟩ := I.tuple hqx
    have hl : its.toArray.size = i := by rw [List.size_toArray, ← rv.length]; exact hx
    refine next_enum_zip_end (n1 := its.toArray.size) he S (fun A' hh' => Draws.tuple hh' i1 a ha its.toArray) (I.ok.hd hc) hz hx0 hTI ⟨by rw [hl]; exact h1, p⟩ fun h' hk => ⟨rfl, I.turnedL (t' := s.toks) (ch := [e, z, TI, TO, i1, i2]) (fun c o hb q => hk c o (fun q' => hb (by simp [q'])) (fun q' => hb (by simp [q'])) q) hf⟩
  self := fun A i s Q E ⟨⟨_, he⟩, _⟩ h => wpAny_pyIter_enum he h
theorem meetsEnumZ {z TI TO : Addr} {f0 : Value} :
    Meets (Builtin.«enumerate.__new__» ⟨[.type "enumerate", .ref z], []⟩) fun _ R s => IsZip s.heap z TI TO f0 ∧
      R (.ok (.ret (.ref s.heap.objs.size))) { s with heap := s.heap.push { cls := .type "enumerate", data := .fields #[.none, .bool false, .ref z, rawInt 0, .none, .none] } } :=
  .of_wp fun prog w A R s h => by
    obtain ⟨hp, g, d, tk, os⟩ := s
    obtain ⟨hl, h⟩ := h
    have q1 : ∀ {A' : Around} {E Q : Value → Shared → Prop}, Q (.ref z) ⟨hp, g, d, tk, os⟩ → wpAny (model prog w) A' (pyIter (.ref z)) Q E ⟨hp, g, d, tk, os⟩ := fun q => wpAny_pyIter_zip hl q
    have hsub := sub_enumerate
    wp_walk using q1
    refine wpAny_stack_any fun st => wpAny_pure ?_
    split
    · rename_i c _ _ _ _ _
      cases (c == Value.type "enumerate") <;> (wp_walk using q1; exact ⟨_, rfl, h⟩)
    · wp_walk using q1
      exact ⟨_, rfl, h⟩
theorem callEnumZ {prog : Program} {w : World} {A : Around} {E : Value → Shared → Prop} {s : Shared} {z TI TO : Addr} {f0 : Value} {Q : Value → Shared → Prop} (hz : IsZip s.heap z TI TO f0)
    (h : ∀ h', IsEnum h' s.heap.objs.size z 0 .none → (∀ b o, s.heap.get? b = some o → h'.get? b = some o) → Q (.ref s.heap.objs.size) { s with heap := h' }) :
    wpAny (model prog w) A (call (.type "enumerate") [.ref z]) Q E s := by
  refine callType_new F.called_enumerate (by decide) (F.typeCall_enumerate_1 _) (F.newCall_enumerate_1 _) (fun obj => F.args_object_init_2 obj _) F.entry_enumerate_new meetsEnumZ ⟨hz, ?_⟩
  have he : IsEnum (s.heap.push { cls := .type "enumerate", data := .fields #[.none, .bool false, .ref z, rawInt 0, .none, .none] }) s.heap.objs.size z 0 .none := Heap.get?_push_size _ rfl
  exact ⟨⟨_, he, rfl⟩, h _ he fun b o x => Heap.get?_push_of_some _ x⟩
def iEnumZ (K : PySem.W.Frag) (ta : TA) : TI := fun σ H R => ta σ H fun vs H1 => ∃ a b xs ys, vs = [.ref a, .ref b] ∧ SqT K H1 a xs ∧ SqT K H1 b ys ∧ R (IteZ K a b) H1
theorem pi_enumZ {X : Cx} {e e2 : Expr} {ta : TA} {p pos p2 pos2 tpos : Pos} {elts : List Expr} {kk : Nat} (hg : Gl X "enumerate") (hm : X.mg "enumerate" = none) (hg2 : Gl X "zip") (hm2 : X.mg "zip" = none) (ha : PA X [e, e2] ta)
    (hs : starEach [e, e2] X.env = (false, eval e X.env) :: starEach [e2] X.env := by rfl) (hpl : (backTo pos2 (starEach [e2] X.env)).any (·.1) = false := by rfl) :
    PI X (.Tuple elts kk tpos) (.Call (.Name "enumerate" p) [.Call (.Name "zip" p2) [e, e2] [] pos2] [] pos) (iEnumZ X.K ta) := by
  refine ⟨fun pins s σ H R I h => ?_⟩
  refine Call_ (ld_blt I hg hm boot_enumerate (PyProof.Rows.callWith_type1 (PyProof.Rows.args_cons ?_ rfl) rfl rfl))
  refine Call_ (ld_blt I hg2 hm2 PyProof.Rows.boot_zip (PyProof.Rows.callWith_type1 (thn (ha.run pos2 pins s σ H _ I h) fun us s1 ⟨vs, H1, I1, r1, q1⟩ => ?_) hs hpl))
  obtain ⟨a, b, xs, ys, ex, hqx, hqy, q⟩ := q1
  subst ex
  cases r1 with
  | cons r rr =>
    cases rr with
    | cons r' rr =>
      cases rr
      cases r
      cases r'
      obtain ⟨its, rv, p1, _⟩ := I1.tuple hqx
      obtain ⟨its2, rv2, p3, _⟩ := I1.tuple hqy
      have la : a < s1.heap.objs.size := let ⟨_, w, _⟩ := p1; Heap.lt_size w
      have lb : b < s1.heap.objs.size := let ⟨_, w, _⟩ := p3; Heap.lt_size w
      refine RZ.call_zipT (show s1.heap.IsTuple a its.toArray from p1) (show s1.heap.IsTuple b its2.toArray from p3) fun h' hz hTI hTO h1 h2 hsz hk => PyProof.Rows.args_nil ?_
      refine callEnumZ (s := { s1 with heap := h' }) hz fun h'' he hk2 => wpAny_pyIter_enum he ?_
      have e5 : h'.objs.size = s1.heap.objs.size + 5 := hsz
      have I2 : Inv _ pins σ H1 { s1 with heap := h'' } := I1.kept (t' := s1.toks) fun c o q => hk2 c o (hk c o q)
      have fresh : ∀ c ∈ [h'.objs.size, s1.heap.objs.size + 4, s1.heap.objs.size + 2, s1.heap.objs.size + 3, s1.heap.objs.size, s1.heap.objs.size + 1], FpOk _ pins H1 c := fun c hc => by
        have e' : c = h'.objs.size ∨ c = s1.heap.objs.size + 4 ∨ c = s1.heap.objs.size + 2 ∨ c = s1.heap.objs.size + 3 ∨ c = s1.heap.objs.size ∨ c = s1.heap.objs.size + 1 := by simpa using hc
        have hle : s1.heap.objs.size ≤ c := by
          rcases e' with z | z | z | z | z | z
          · rw [z, e5]; exact Nat.le_add_right _ _
          · rw [z]; exact Nat.le_add_right _ _
          · rw [z]; exact Nat.le_add_right _ _
          · rw [z]; exact Nat.le_add_right _ _
          · rw [z]; exact Nat.le_refl _
          · rw [z]; exact Nat.le_add_right _ _
        exact I1.fpOk hle (I1.hok.fresh hle)
      have ne : ∀ k : Nat, k < 5 → h'.objs.size ≠ s1.heap.objs.size + k := fun k hk' q => by
        have : s1.heap.objs.size + 5 = s1.heap.objs.size + k := e5.symm.trans q
        omega
      refine ⟨h'.objs.size, [h'.objs.size, s1.heap.objs.size + 4, s1.heap.objs.size + 2, s1.heap.objs.size + 3, s1.heap.objs.size, s1.heap.objs.size + 1], _, _, H1, rfl, I2,
        turnEnumZ (zip_sep2 (N := s1.heap.objs.size) (fp1 := [a]) (fp2 := [b]) (fun c hc => by cases List.mem_singleton.mp hc; exact la) (fun c hc => by cases List.mem_singleton.mp hc; exact lb)) (Nat.ne_of_lt la) (Nat.ne_of_lt (Nat.lt_succ_of_lt lb)) (ne 4 (by decide)) (ne 2 (by decide)) (ne 3 (by decide)) (ne 0 (by decide)) (ne 1 (by decide)),
        ⟨⟨_, he⟩, ⟨_, _, hk2 _ _ hz, .inl rfl⟩, hk2 _ _ hTI, ⟨_, _, hk2 _ _ hTO⟩, h1.at fun o q => hk2 _ o q, h2.at fun o q => hk2 _ o q⟩, fresh, q⟩
theorem walk_enumZ {K : PySem.W.Frag} {a b : Addr} {xs ys : List V} (hl : xs.length = ys.length) : Walk (IteZ K a b) xs.length (fun H => SqT K H a xs ∧ SqT K H b ys)
    fun i H v H' => ∃ (T2 T3 : Addr) (x y : V), v = .ref T3 ∧ H T2 = none ∧ upd H T2 (.tup [x, y]) T3 = none ∧ H' = upd (upd H T2 (.tup [x, y])) T3 (.tup [.int (i : Nat), .ref T2]) ∧ xs[i]? = some x ∧ ys[i]? = some y where
  goes := fun i _ hi w => ⟨xs, ys, xs[i], ys[i]'(by omega), w.1, w.2, List.getElem?_eq_getElem hi, List.getElem?_eq_getElem (by omega)⟩
  stops := fun _ w => ⟨xs, w.1, rfl⟩
  yields := fun i H v H' _ w ⟨T2, T3, x, y, h1, h2, h3, h4, h5, h6⟩ => ⟨T2, T3, x, y, h1, h2, h3, h4, h5 xs w.1, h6 ys w.2⟩
section
variable {c : Ct} {Γ : List (Option Rs)} {tr : TA}
def ezI (p : (Int × Int) × Nat) : Im := .t [.d (.int ((p.2 : Nat) : Int)), .t [.d (.int p.1.1), .d (.int p.1.2)]]
/-- enumerate(zip(ns, ms)) -/
theorem i_enumZ {ns ms : List Int} (hl : ns.length = ms.length) (h : EvA c tr Γ true [.tuple (ns.map .int), .tuple (ms.map .int)]) : EvI c (iEnumZ c.K tr) Γ true ((ns.zip ms).zipIdx.map ezI) := fun H0 O H σ e R q =>
  h H0 O H σ e _ fun vs H1 r s => by
    obtain ⟨x, y, rfl, b1, b2⟩ := (BoAll.vm s).two
    obtain ⟨p, xs, rfl, sl, al⟩ := b1.tup'
    obtain ⟨p2, ys, rfl, sl2, al2⟩ := b2.tup'
    have := al.ints
    subst this
    have := al2.ints
    subst this
    refine ⟨p, p2, _, _, rfl, (sqT_same mns_same sl).sq, (sqT_same mns_same sl2).sq, q _ H1 r ⟨(e.on r).j, ?_⟩⟩
    have el : ((ns.zip ms).zipIdx.map ezI).length = (ns.map V.int).length := by simp; omega
    rw [el]
    refine (walk_enumZ (by simpa using hl)).mono (fun H h => ⟨(h.tup (e.on r).j sl).sq, (h.tup (e.on r).j sl2).sq⟩) fun i H v H' hi g w => ?_
    obtain ⟨T2, T3, x, y, rfl, hT2, hT3, rfl, hx, hy⟩ := w
    have hi' : i < ns.length := by simpa using hi
    have hi2 : i < ms.length := by omega
    have ex : x = .int ns[i] := by simpa [hi'] using hx.symm
    have ey : y = .int ms[i] := by simpa [hi2] using hy.symm
    subst ex ey
    have sm1 : Same H (upd H T2 (.tup [.int ns[i], .int ms[i]])) := fun b o z => by rw [upd_ne (ne_of_none z hT2)]; exact z
    have sm2 : Same (upd H T2 (.tup [.int ns[i], .int ms[i]])) (upd (upd H T2 (.tup [.int ns[i], .int ms[i]])) T3 (.tup [.int (i : Nat), .ref T2])) := fun b o z => by rw [upd_ne (ne_of_none z hT3)]; exact z
    refine ⟨fun b o z => sm2 _ _ (sm1 _ _ z), ezI ((ns[i], ms[i]), i), ?_, .tup (.inl (.inl upd_same)) (.cons (.leaf (.inl ⟨rfl, .int _⟩)) (.cons (.tup (.inl (.inl (sm2 _ _ upd_same))) (.cons (.leaf (.inl ⟨rfl, .int _⟩)) (.cons (.leaf (.inl ⟨rfl, .int _⟩)) .nil))) .nil))⟩
    have ez : (ns.zip ms)[i]? = some (ns[i], ms[i]) := by rw [List.getElem?_zip_eq_some]; exact ⟨List.getElem?_eq_getElem hi', List.getElem?_eq_getElem hi2⟩
    rw [List.getElem?_map, List.getElem?_zipIdx, ez]
    simp
end
section
variable {X : Cx} {K : PySem.W.Frag} (hK : X.K = K)
include hK
theorem k_enumZ {e e2 : Expr} {ta : TA} {p pos p2 pos2 tpos : Pos} {elts : List Expr} {kk : Nat} (hg : Gl X "enumerate") (hm : X.mg "enumerate" = none) (hg2 : Gl X "zip") (hm2 : X.mg "zip" = none) (ha : PA X [e, e2] ta)
    (hs : starEach [e, e2] X.env = (false, eval e X.env) :: starEach [e2] X.env := by rfl) (hpl : (backTo pos2 (starEach [e2] X.env)).any (·.1) = false := by rfl) :
    PI X (.Tuple elts kk tpos) (.Call (.Name "enumerate" p) [.Call (.Name "zip" p2) [e, e2] [] pos2] [] pos) (iEnumZ K ta) := hK ▸ pi_enumZ hg hm hg2 hm2 ha hs hpl
end
end Lm


/-! pairs of assignments, moves, renaming and rearranging -/
namespace Lm
open PySem PySem.Spec PyProof.Rows L2
def isAsgB (x : PyData) (v b : Int) : Bool := areInts x 0 (v - 1) && decide ((lenT x : Int) = b)
theorem Asg.isAsg {ns : List Int} {v b : Int} (h : Asg ns v) (hb : (ns.length : Int) = b) : isAsgB (.tuple (ns.map .int)) v b = true := by
  unfold isAsgB
  rw [areInts_of fun n hn => ⟨(h.rng n hn).1, by have := (h.rng n hn).2; omega⟩, lenT_ints, hb]
  simp
def sp_is_assignment (K : PySem.W.Frag) : Sp := spD K fun ds k d => ∃ x v b, ds = [x, .int v, .int b] ∧ SmallT x ∧ k = .v ∧ d = .bool (isAsgB x v b)
def sp_check_pair (K : PySem.W.Frag) : Sp := spD K fun ds k d => ∃ (ns ms : List Int), ds = [.tuple (ns.map .int), .tuple (ms.map .int)] ∧ Asg ns 5 ∧ Asg ms 5 ∧ ns.length = ms.length ∧ k = .v ∧ d = .none
abbrev mvT (p : (Int × Int) × Nat) : PyData := .tuple [.int (p.2 : Nat), .int p.1.1, .int p.1.2]
def movesD (ns ms : List Int) : List PyData := ((ns.zip ms).zipIdx.filter fun p => !decide (p.1.1 = p.1.2)).map mvT
def sp_moves (K : PySem.W.Frag) : Sp := spD K fun ds k d => ∃ (ns ms : List Int), ds = [.tuple (ns.map .int), .tuple (ms.map .int)] ∧ Asg ns 5 ∧ Asg ms 5 ∧ ns.length = ms.length ∧ k = .o ∧ d = .list (movesD ns ms)
def ne1 (a b : Int) : Int := if a = b then 0 else 1
def sp_churn (K : PySem.W.Frag) : Sp := spD K fun ds k d => ∃ (ns ms : List Int), ds = [.tuple (ns.map .int), .tuple (ms.map .int)] ∧ Asg ns 5 ∧ Asg ms 5 ∧ ns.length = ms.length ∧ k = .v ∧ d = .int (zs ne1 ns ms)
theorem moves_zs : ∀ (ns ms : List Int) (n : Nat), ns.length = ms.length → (((((ns.zip ms).zipIdx n).filter fun p => !decide (p.1.1 = p.1.2)).length : Nat) : Int) = zs ne1 ns ms
  | [], [], _, _ => rfl
  | a :: ns, b :: ms, n, h => by
    have ih := moves_zs ns ms (n + 1) (by simpa using h)
    rw [zs_cons, ← ih, List.zip_cons_cons, List.zipIdx_cons, List.filter_cons]
    by_cases q : a = b
    · simp [q, ne1]
    · simp [q, ne1]
      omega
  | [], _ :: _, _, h => by simp at h
  | _ :: _, [], _, h => by simp at h
theorem movesD_len {ns ms : List Int} (h : ns.length = ms.length) : ((movesD ns ms).length : Int) = zs ne1 ns ms := by
  unfold movesD
  rw [List.length_map]
  exact moves_zs ns ms 0 h
def backI (os : List Int) : List Int := (upI 0 os.length).map fun i => (os.idxOf i : Int)
variable {ns ms os : List Int} {v m b : Int}
theorem backI_len : (backI os).length = os.length := by simp [backI, upI]
theorem IsOrd.back (o : IsOrd os m) : IsOrd (backI os) m := by
  have hl := o.len
  refine ⟨by rw [backI_len]; exact hl, ?_, fun n hn => ?_⟩
  · unfold backI
    rw [List.nodup_iff_pairwise_ne, List.pairwise_map]
    refine List.Pairwise.imp_of_mem ?_ (List.nodup_iff_pairwise_ne.mp (nodup_upI os.length))
    intro a c ha hc hne e
    have a1 := mem_upI.mp ha
    have c1 := mem_upI.mp hc
    obtain ⟨_, ga, _⟩ := o.idx (i := a) a1.1 (by omega)
    obtain ⟨_, gc, _⟩ := o.idx (i := c) c1.1 (by omega)
    have e' : os.idxOf a = os.idxOf c := by omega
    rw [e', gc] at ga
    exact hne (Option.some.inj ga).symm
  · obtain ⟨i, hi, rfl⟩ := List.mem_map.mp hn
    have a1 := mem_upI.mp hi
    obtain ⟨hj, _, _⟩ := o.idx (i := i) a1.1 (by omega)
    omega
theorem countsI_len : (countsI ns v).length = v.toNat := by simp [countsI, upI]
theorem countsI_get {i : Nat} (h : (i : Int) < v) : (countsI ns v).getD i 0 = (ns.count (i : Int) : Int) := by
  unfold countsI
  rw [List.getD_eq_getElem?_getD]
  have : i < v.toNat := by omega
  simp [upI, this]
theorem Asg.alc (h : Asg ns v) (hv : 0 ≤ v) : Alc (countsI ns v) v ns.length := by
  refine ⟨by rw [countsI_len]; omega, ?_, fun n hn => ?_⟩
  · exact count_sum v.toNat ns fun n hn => by have := h.rng n hn; omega
  · obtain ⟨i, _, rfl⟩ := List.mem_map.mp hn
    omega
theorem e_neg {c : Ct} {Γ : List (Option Rs)} {te : TE} {k : Kd} {i : Int} (h : Ev c te Γ k (.int i)) : Ev c (tUn (rU fun i => .int (-i)) te) Γ .v (.int (-i)) := fun H0 O H σ e Q q =>
  h H0 O H σ e _ fun v H1 r s => ⟨i, (Res.bo e s).int', q _ H1 r (.int _)⟩
/-- a list of data that is filled place by place with ints -/
structure DueD (ns os : List Int) (due : List PyData) (v : Int) (n : Nat) : Prop where
  len : (due.length : Int) = v
  flat : ∀ d ∈ due, flatD d = true
  got : ∀ j, j < n → due[(os.getD j 0).toNat]? = some (.int (ns.getD j 0))
theorem DueD.fl {due : List PyData} {n : Nat} (d : DueD ns os due v n) : flatAll due = true := flatAll_mem d.flat
theorem DueD.step {due : List PyData} {n : Nat} (d : DueD ns os due v n) (ho : IsOrd os v) (hn : n < os.length) : DueD ns os (due.set (os.getD n 0).toNat (.int (ns.getD n 0))) v (n + 1) := by
  have hl := d.len
  have r1 := ho.rng _ (gd_mem hn)
  have h1 : (os.getD n 0).toNat < due.length := by omega
  refine ⟨by rw [List.length_set]; exact d.len, fun x hx => ?_, fun j hj => ?_⟩
  · rcases List.mem_or_eq_of_mem_set hx with q | q
    · exact d.flat x q
    · rw [q]; rfl
  by_cases q : j = n
  · subst q
    rw [List.getElem?_set_self h1]
  · have hj' : j < n := by omega
    have hjl : j < os.length := by omega
    have r2 := ho.rng _ (gd_mem hjl)
    have ne : (os.getD n 0).toNat ≠ (os.getD j 0).toNat := fun e => by
      have e2 : os.getD j 0 = os.getD n 0 := by omega
      rw [gd_lt hn, gd_lt hjl] at e2
      exact q (nodup_inj ho.nd hjl hn e2)
    rw [List.getElem?_set_ne ne]
    exact d.got j hj'
theorem DueD.done {due : List PyData} (d : DueD ns os due v os.length) (ho : IsOrd os v) : due = (placedI ns os).map .int := by
  have hl := d.len
  have hol := ho.len
  apply List.ext_getElem
  · simp [placedI, upI]; omega
  · intro i h1 h2
    obtain ⟨hj, h3, _⟩ := ho.idx (i := (i : Int)) (by omega) (by omega)
    have g := d.got _ hj
    have e1 : os.getD (os.idxOf (i : Int)) 0 = i := by rw [List.getD_eq_getElem?_getD, h3]; rfl
    rw [e1] at g
    have e2 : ((i : Int)).toNat = i := by omega
    rw [e2, List.getElem?_eq_getElem h1] at g
    rw [Option.some.inj g]
    unfold placedI
    simp [upI]
def tupI (ns : List Int) : Im := .d (.tuple (ns.map .int))
theorem at_lastI {α : Type} (l : List α) (x : α) : atI (l ++ [x]) (-1) = some x := by
  unfold atI ixN
  have h1 : ¬ (0 : Int) ≤ -1 := by omega
  have hl : ((l ++ [x]).length : Int) = l.length + 1 := by simp
  rw [if_neg h1, hl, if_pos (by omega)]
  have h2 : (-1 + ((l.length : Int) + 1)).toNat = l.length := by omega
  show (l ++ [x])[(-1 + ((l.length : Int) + 1)).toNat]? = some x
  rw [h2]
  simp
end Lm


/-! moves that are not needed -/
namespace Lm
open PySem PySem.Spec PyProof.Rows L2
/-! ### out and in -/
variable {ns ms : List Int} {v : Int}
/-! ### lists with drawn items, drawn places -/
section
variable {c : Ct} {Γ : List (Option Rs)} {ta tb : TE} {k ka kb : Kd} {x : PyData}
theorem n_ixL {Pa P : PyData → Prop} {Q : Int → Prop} (ha : EvN c ta Γ ka Pa) (hb : EvN c tb Γ kb (SomeI Q)) (hr : ∀ x i, Pa x → Q i → ∃ ds d, x = .list ds ∧ atI ds i = some d ∧ flatD d = true ∧ P d) : EvN c (tOp (rIx c.K) ta tb) Γ .v P := fun H0 O H σ e Q' q =>
  ha H0 O H σ e _ fun v x H1 px r1 s1 => hb H0 O H1 σ (e.on r1) _ fun u y H2 ⟨i, hi, qi⟩ r2 s2 => by
    obtain ⟨ds, d, rfl, he, hf, pd⟩ := hr x i px qi
    subst hi
    obtain ⟨p, xs, rfl, _, s, al⟩ := (Res.bo e (Res.on e r1 r2 s1)).lst'
    obtain ⟨x, hx, bx⟩ := atI_bo al he
    exact .inl ⟨p, xs, i, x, rfl, (Res.bo (e.on r1) s2).int', s, hx, q x d H2 pd (r1.tr r2) (Bo.flatM e (r1.tr r2) hf bx)⟩
end
end Lm


/-! sorted of a tuple of ints; zip of three with one name as target -/
namespace Lm
open PySem PySem.Spec PyProof.Rows L2
section
variable {prog : Program} {w : World} {A : Around} {E : Value → Shared → Prop} {s : Shared}
theorem collectT {l : Addr} {vs : List Value} {Q : List Value → Shared → Prop} (hl : s.heap.IsTuple l vs.toArray)
    (h : Q vs { s with heap := (s.heap.push (seqObj "list" #[] 0)).update s.heap.objs.size (Obj.mapSeq (· ++ vs.toArray)) }) (hsz : vs.length ≤ sizeLine) :
    wpAny (model prog w) A (collect (.ref l)) Q E s := by
  obtain ⟨o, ho, hc, n, hd⟩ := id hl
  unfold collect
  refine wpAny_bind (wpAny_runValue (codeAny_builtin entry_proto_collect' ?_))
  show wpAny _ _ (do again (.builtin "list.__iadd__" ⟨[← newList [], .ref l], []⟩)) _ _ s
  refine wpAny_bind (wpAny_newList (wpAny_pure ⟨Code.quiet_builtin _ (by decide +kernel), codeAny_builtin entry_list_iadd' ?_⟩))
  show wpAny _ _ (Builtin.List.listExtendWith (.ref s.heap.objs.size) (.ref l) (.ref s.heap.objs.size)) _ _ { s with heap := s.heap.push (seqObj "list" #[] 0) }
  unfold Builtin.List.listExtendWith
  have ho' : (s.heap.push (seqObj "list" #[] 0)).get? l = some o := Heap.get?_push_of_some _ ho
  have hn : (s.heap.push (seqObj "list" #[] 0)).get? s.heap.objs.size = some (seqObj "list" #[] 0) := Heap.get?_push_size _ rfl
  refine wpAny_bind (wpAny_typeOf (T := "tuple") ⟨o, ho', hc⟩ ?_)
  have ht : (Value.type "tuple" == Value.type "tuple") = true := by rfl
  rw [if_pos (by rw [ht]; simp)]
  refine wpAny_bind (listItems_at ho' hd (wpAny_bind (listItems_at (xs := #[]) (n := 0) hn rfl ?_)))
  rw [if_neg (by simp)]
  refine wpAny_bind (listUpdate_at (xs := #[]) (n := 0) hn rfl ?_ (Nat.zero_le _) (by show (#[] ++ vs.toArray).size ≤ sizeLine + 1; simp only [Array.size_append, List.size_toArray, List.length_nil]; omega))
  refine wpAny_pure ?_
  show wpAny (model prog w) A (do
      let o ← load s.heap.objs.size
      match o.data with
      | .seq xs _ => pure xs.toList
      | _ => unsupported "internal:collect") Q E { s with heap := (s.heap.push (seqObj "list" #[] 0)).update s.heap.objs.size (Obj.mapSeq (· ++ vs.toArray)) }
  refine wpAny_bind (wpAny_load (get?_update_seq hn _) ?_)
  show wpAny _ _ (pure ((#[] : Array Value) ++ vs.toArray).toList) Q E _
  rw [show ((#[] : Array Value) ++ vs.toArray).toList = vs by simp]
  exact wpAny_pure h
theorem sortedT {l : Addr} {vs : List Value} {ns : List Int} {Q : Value → Shared → Prop} (hl : s.heap.IsTuple l vs.toArray) (hI : IntsAre vs ns) (h64 : vs.length < 64)
    (h : ∀ (out : Array Value) (ns' : List Int), IntsAre out.toList ns' → ns'.Perm ns → ns'.Pairwise (· ≤ ·) → Q (.ref (s.heap.objs.size + 1)) { s with heap := sortedAll s.heap vs out }) :
    wpAny (model prog w) A (call (.builtin "sorted") [.ref l]) Q E s := by
  refine Calls.call_function_entry kind_sorted plain_sorted entry_sorted (args_sorted1 _) ?_
  unfold Builtin.«sorted»
  refine wpAny_bind (m := checkCount "sorted" 1 1 _) (wpAny_pure (wpAny_bind (collectT hl ?_ (by rw [sizeLine_eq]; omega))))
  refine wpAny_bind (wpAny_newList ?_)
  have hsz : ((s.heap.push (seqObj "list" #[] 0)).update s.heap.objs.size (Obj.mapSeq (· ++ vs.toArray))).objs.size = s.heap.objs.size + 1 := by
    rw [Heap.size_update, size_push']
  have hoL : (((s.heap.push (seqObj "list" #[] 0)).update s.heap.objs.size (Obj.mapSeq (· ++ vs.toArray))).push (seqObj "list" vs.toArray 0)).get? (s.heap.objs.size + 1) = some (seqObj "list" vs.toArray 0) := by
    rw [← hsz]; exact Heap.get?_push_size _ rfl
  show wpAny _ _ _ _ _ { s with heap := ((s.heap.push (seqObj "list" #[] 0)).update s.heap.objs.size (Obj.mapSeq (· ++ vs.toArray))).push (seqObj "list" vs.toArray 0) }
  rw [hsz]
  refine wpAny_bind (wpAny_holding (wpAny_call_entry PyProof.Rows.slot_list_sort ⟨_, hoL, rfl⟩ PyProof.Rows.entry_list_sort (list_sort_tree hoL hI h64 fun out ns' a1 a2 a3 => ⟨_, rfl, ?_⟩) (PyProof.Rows.args_list_sort _)))
  exact wpAny_pure ⟨_, rfl, h out ns' a1 a2 a3⟩
end
def rSortedT (K : PySem.W.Frag) : List V → Hp → VK → Prop := fun vs H Q => ∃ (a : Addr) (ns : List Int), vs = [V.ref a] ∧ SqT K H a (ns.map V.int) ∧ ns.length < 64 ∧
  ∀ (ns' : List Int) (p : Addr), ns'.Perm ns → ns'.Pairwise (· ≤ ·) → H p = none → Q (.ref p) (upd H p (.lst (ns'.map V.int)))
section
variable {X : Cx}
theorem cr_sortedT : CallR X (.builtin "sorted") (rSortedT X.K) := by
  intro pins s σ H vs us Q I r h
  obtain ⟨a, ns, rfl, hs, h64, q⟩ := h
  obtain ⟨its, rv, hl, _⟩ := I.tuple hs
  rw [Vals.ref1 r]
  have hi := ints_of_vals rv
  refine sortedT (show s.heap.IsTuple a its.toArray from hl) hi (by rw [hi.length]; exact h64) fun out ns' h1 h2 h3 => ?_
  obtain ⟨ep, he'⟩ := PyProof.Rows.sortedAll_at s.heap its out
  have hlen : (ns'.map V.int).length ≤ sizeLine := by rw [List.length_map, h2.length_eq]; exact small64 h64
  exact ⟨.ref _, upd H (s.heap.objs.size + 1) (.lst (ns'.map V.int)), I.laid (t' := s.toks) (fun _ _ => PyProof.Rows.sortedAll_old) (Nat.le_succ _) ⟨hlen, out.toList, ep, vals_of_ints h1, he'⟩, rfl, q ns' _ h2 h3 (I.hok.fresh (Nat.le_succ _))⟩
def rSortedA (K : PySem.W.Frag) : List V → Hp → VK → Prop := fun vs H Q => rSorted K vs H Q ∨ rSortedT K vs H Q
theorem k_sorted {K : PySem.W.Frag} (hK : X.K = K) : CallR X (.builtin "sorted") (rSortedA K) := hK ▸ cr_sorted.or cr_sortedT
end
section
variable {c : Ct} {Γ : List (Option Rs)} {te : TE} {k : Kd}
/-- sorted(t): a new list -/
theorem n_sortedT {ns : List Int} (h : Ev c te Γ k (.tuple (ns.map .int))) (hl : ns.length < 64) : EvN c (tCB (rSortedA c.K) (tCons te tNil)) Γ .o (fun d => ∃ ns' : List Int, d = .list (ns'.map .int) ∧ ns'.Perm ns ∧ ns'.Pairwise (· ≤ ·)) := fun H0 O H σ e Q q =>
  h H0 O H σ e _ fun v H1 r s => by
    obtain ⟨p, xs, rfl, sl, al⟩ := (Res.bo e s).tup'
    have := al.ints
    subst this
    refine .inr ⟨p, ns, rfl, sl.sq, hl, fun ns' p' h1 h2 hp => ?_⟩
    have sm : Same H1 (upd H1 p' (.lst (ns'.map V.int))) := fun b u z => by rw [upd_ne (ne_of_none z hp)]; exact z
    exact q _ _ _ ⟨ns', rfl, h1, h2⟩ (r.tr (Rr.same sm)) ⟨[p'], .lst upd_same (FoAll.leaves (flatAll_ints _) (BoAll.ofInts _)), by simp, fun a ha => by
      cases List.mem_singleton.mp ha
      exact r.back e.jH hp⟩
end
/-! ### zip of three -/
section
variable {prog : Program} {w : World} {A : Around} {E : Value → Shared → Prop} {s : Shared} {z TI TO i1 i2 i3 : Addr} {fp1 fp2 fp3 : List Addr} {n1 n2 n3 i : Nat} {P1 P2 P3 : Nat → Value → Prop} {St1 St2 St3 : Nat → Heap → Prop} {a1 a2 a3 : Value} {b : Bool} {x : Value}
theorem zipX3_item {Q : Value → Shared → Prop} (S : ZipSep3 z TI TO i1 i2 i3 fp1 fp2 fp3) (D1 : Draws prog w A i1 fp1 n1 P1 St1) (D2 : Draws prog w A i2 fp2 n2 P2 St2) (D3 : Draws prog w A i3 fp3 n3 P3 St3)
    (hz : IsZipX s.heap z TI TO x b) (hx : x = .none ∨ ∃ T : Addr, x = rawInt T) (hTI : IsTupOf3 s.heap TI (.ref i1) (.ref i2) (.ref i3)) (hTO : IsTupOf3 s.heap TO a1 a2 a3) (st1 : St1 i s.heap) (st2 : St2 i s.heap) (st3 : St3 i s.heap) (hlt1 : i < n1) (hlt2 : i < n2) (hlt3 : i < n3)
    (hQ : ∀ x1 x2 x3 h' tk x' b', P1 i x1 → P2 i x2 → P3 i x3 → IsZipX h' z TI TO x' b' → (x' = .none ∨ ∃ T : Addr, x' = rawInt T) → (∃ a1 a2 a3, IsTupOf3 h' TO a1 a2 a3) → St1 (i + 1) h' → St2 (i + 1) h' → St3 (i + 1) h' → IsTupOf3 h' s.heap.objs.size x1 x2 x3 → h'.objs.size = s.heap.objs.size + 1 →
      (∀ c o, c ≠ z → c ≠ TO → c ≠ i1 → c ≠ i2 → c ≠ i3 → s.heap.get? c = some o → h'.get? c = some o) → Q (.ref s.heap.objs.size) { s with heap := h', toks := tk }) :
    wpAny (model prog w) A (Builtin.«zip.__next__» ⟨[.ref z], []⟩) (fun fin s' => ∃ v, fin = .done (.ret v) ∧ Q v s') E s := by
  obtain ⟨hp, g, d, tk0, os⟩ := s
  show wpAny _ _ (field (.ref z) 2 >>= _) _ _ _
  refine wpAny_bind (wpAny_field hz rfl (x := .bool false) rfl ?_)
  show wpAny _ _ (field (.ref z) 3 >>= _) _ _ _
  refine wpAny_bind (wpAny_field hz rfl (x := .ref TI) rfl (wpAny_bind (wpAny_seqItems hTI rfl ?_)))
  show wpAny _ _ (Builtin.SmallTypes.ownedTupleIsFree (.ref z) >>= _) _ _ _
  refine wpAny_bind (zipX_free hz hx ?_ fun g0 hz0 hs0 => ?_)
  · simp only [if_true]
    refine wpAny_bind (wpAny_rule (wpAny_bind (wpAny_field hz rfl (x := .ref TO) rfl ?_)))
    refine wpAny_bind (wpAny_setField_rec hz (by simp) fun g0 hz0 hs0 => ?_)
    replace hz0 : IsZipX g0 z TI TO .ellipsis b := hz0
    replace hs0 : Heap.SameBut z hp g0 := hs0
    refine wpAny_bind ?_
    simp only [List.zipIdx_cons, List.zipIdx_nil, List.forIn_cons, List.forIn_nil]
    refine wpAny_bind (wpAny_bind (wpAny_onRaise ?_))
    show wpAny _ _ (Builtin.SmallTypes.nextOf (.ref i1) >>= _) _ _ ⟨g0, g, d, tk0, os⟩
    refine wpAny_bind (D1.item i _ _ _ hlt1 (D1.over st1 hs0 S.zf1) fun x1 p1 tk1 hx1 sn1 hp1 => wpAny_pure ?_)
    replace hp1 : Heap.SameBut i1 g0 p1 := hp1
    have hU1 : IsTupOf3 p1 TO a1 a2 a3 := hp1.extBut _ _ S.Ti1 (hs0.extBut _ _ S.TOz hTO)
    refine wpAny_bind (wpAny_seqItems (s := ⟨p1, g, d, tk1, os⟩) hU1 rfl (wpAny_bind (updateSeq_IsTupOf3 (s := ⟨p1, g, d, tk1, os⟩) hU1 fun g1 hT1 hs1 => ?_)))
    replace hT1 : IsTupOf3 g1 TO x1 a2 a3 := hT1
    replace hs1 : Heap.SameBut TO p1 g1 := hs1
    refine wpAny_bind (wpAny_letGo (wpAny_pure ?_))
    refine wpAny_bind (wpAny_bind (wpAny_onRaise ?_))
    show wpAny _ _ (Builtin.SmallTypes.nextOf (.ref i2) >>= _) _ _ ⟨g1, g, d, tk1, os⟩
    refine wpAny_bind (D2.item i _ _ _ hlt2 (D2.over (D2.over (D2.over st2 hs0 S.zf2) hp1 S.sep1_2) hs1 S.Tf2) fun x2 p2 tk2 hx2 sn2 hp2 => wpAny_pure ?_)
    replace hp2 : Heap.SameBut i2 g1 p2 := hp2
    have hU2 : IsTupOf3 p2 TO x1 a2 a3 := hp2.extBut _ _ S.Ti2 hT1
    refine wpAny_bind (wpAny_seqItems (s := ⟨p2, g, d, tk2, os⟩) hU2 rfl (wpAny_bind (updateSeq_IsTupOf3 (s := ⟨p2, g, d, tk2, os⟩) hU2 fun g2 hT2 hs2 => ?_)))
    replace hT2 : IsTupOf3 g2 TO x1 x2 a3 := hT2
    replace hs2 : Heap.SameBut TO p2 g2 := hs2
    refine wpAny_bind (wpAny_letGo (wpAny_pure ?_))
    refine wpAny_bind (wpAny_bind (wpAny_onRaise ?_))
    show wpAny _ _ (Builtin.SmallTypes.nextOf (.ref i3) >>= _) _ _ ⟨g2, g, d, tk2, os⟩
    refine wpAny_bind (D3.item i _ _ _ hlt3 (D3.over (D3.over (D3.over (D3.over (D3.over st3 hs0 S.zf3) hp1 S.sep1_3) hs1 S.Tf3) hp2 S.sep2_3) hs2 S.Tf3) fun x3 p3 tk3 hx3 sn3 hp3 => wpAny_pure ?_)
    replace hp3 : Heap.SameBut i3 g2 p3 := hp3
    have hU3 : IsTupOf3 p3 TO x1 x2 a3 := hp3.extBut _ _ S.Ti3 hT2
    refine wpAny_bind (wpAny_seqItems (s := ⟨p3, g, d, tk3, os⟩) hU3 rfl (wpAny_bind (updateSeq_IsTupOf3 (s := ⟨p3, g, d, tk3, os⟩) hU3 fun g3 hT3 hs3 => ?_)))
    replace hT3 : IsTupOf3 g3 TO x1 x2 x3 := hT3
    replace hs3 : Heap.SameBut TO p3 g3 := hs3
    refine wpAny_bind (wpAny_letGo (wpAny_pure (wpAny_pure ?_)))
    refine wpAny_bind (wpAny_seqItems (s := ⟨g3, g, d, tk3, os⟩) hT3 rfl (wpAny_bind (wpAny_newTuple ?_)))
    have hsz : g3.objs.size = hp.objs.size := by rw [hs3.1, hp3.1, hs2.1, hp2.1, hs1.1, hp1.1, hs0.1]
    have hzz : IsZipX g3 z TI TO .ellipsis b := hs3.extBut _ _ S.TOz.symm (hp3.extBut _ _ S.zi3 (hs2.extBut _ _ S.TOz.symm (hp2.extBut _ _ S.zi2 (hs1.extBut _ _ S.TOz.symm (hp1.extBut _ _ S.zi1 hz0)))))
    have hkk : ∀ c o, c ≠ z → c ≠ TO → c ≠ i1 → c ≠ i2 → c ≠ i3 → hp.get? c = some o → g3.get? c = some o := fun c o cz cT c1 c2 c3 e => hs3.extBut _ _ cT (hp3.extBut _ _ c3 (hs2.extBut _ _ cT (hp2.extBut _ _ c2 (hs1.extBut _ _ cT (hp1.extBut _ _ c1 (hs0.extBut _ _ cz e))))))
    have hj1 : St1 (i + 1) g3 := (D1.over (D1.over (D1.over (D1.over (D1.over sn1 hs1 S.Tf1) hp2 S.sep2_1) hs2 S.Tf1) hp3 S.sep3_1) hs3 S.Tf1)
    have hj2 : St2 (i + 1) g3 := (D2.over (D2.over (D2.over sn2 hs2 S.Tf2) hp3 S.sep3_2) hs3 S.Tf2)
    have hj3 : St3 (i + 1) g3 := (D3.over sn3 hs3 S.Tf3)
    have hzlt : z < g3.objs.size := Heap.lt_size hzz
    show wpAny _ _ (Builtin.SmallTypes.ownedTupleHandOut (.ref z) (.ref g3.objs.size) >>= _) _ _ ⟨g3.push { cls := .type "tuple", data := .seq #[x1, x2, x3] }, g, d, tk3, os⟩
    refine wpAny_bind ?_
    unfold Builtin.SmallTypes.ownedTupleHandOut
    have hz6 : IsZipX (g3.push { cls := .type "tuple", data := .seq #[x1, x2, x3] }) z TI TO .ellipsis b := Heap.get?_push_of_some _ hzz
    refine wpAny_bind (wpAny_setField_rec hz6 (by simp) fun h7 hz7 hs7 => ?_)
    replace hz7 : IsZipX h7 z TI TO (rawInt g3.objs.size) b := hz7
    refine wpAny_setField_rec hz7 (by simp) fun h8 hz8 hs8 => ?_
    replace hz8 : IsZipX h8 z TI TO (rawInt g3.objs.size) false := hz8
    replace hs7 : Heap.SameBut z (g3.push { cls := .type "tuple", data := .seq #[x1, x2, x3] }) h7 := hs7
    replace hs8 : Heap.SameBut z h7 h8 := hs8
    have up : ∀ c o, c ≠ z → g3.get? c = some o → h8.get? c = some o := fun c o c1 e => hs8.extBut _ _ c1 (hs7.extBut _ _ c1 (Heap.get?_push_of_some _ e))
    have hT8 : IsTupOf3 h8 g3.objs.size x1 x2 x3 := hs8.extBut _ _ (Nat.ne_of_gt hzlt) (hs7.extBut _ _ (Nat.ne_of_gt hzlt) (Heap.get?_push_size _ rfl))
    have hz9 : h8.objs.size = g3.objs.size + 1 := by rw [hs8.1, hs7.1, Heap.size_push]
    rw [hsz] at hz8 hT8 hz9
    refine wpAny_pure ⟨_, rfl, ?_⟩
    show Q (.ref g3.objs.size) ⟨h8, g, d, tk3, os⟩
    rw [hsz]
    exact hQ x1 x2 x3 h8 tk3 _ _ hx1 hx2 hx3 hz8 (.inr ⟨_, rfl⟩) ⟨_, _, _, up _ _ S.TOz hT3⟩ (D1.frame _ _ _ hj1 fun b hb o e => up b o (fun q => S.zf1 (q ▸ hb)) e) (D2.frame _ _ _ hj2 fun b hb o e => up b o (fun q => S.zf2 (q ▸ hb)) e) (D3.frame _ _ _ hj3 fun b hb o e => up b o (fun q => S.zf3 (q ▸ hb)) e) hT8 hz9 fun c o cz cT c1 c2 c3 e => up c o cz (hkk c o cz cT c1 c2 c3 e)
  · replace hs0 : Heap.SameBut z hp g0 := hs0
    simp only [Bool.false_eq_true, if_false]
    refine wpAny_bind ?_
    rw [← Array.forIn_toList]
    simp only [List.forIn_cons, List.forIn_nil]
    refine wpAny_bind (wpAny_bind (wpAny_holding ?_))
    show wpAny _ _ (Builtin.SmallTypes.nextOf (.ref i1) >>= _) _ _ ⟨g0, g, d, tk0, os⟩
    refine wpAny_bind (D1.item i _ _ _ hlt1 (D1.over st1 hs0 S.zf1) fun x1 p1 tk1 hx1 sn1 hp1 => wpAny_pure ?_)
    replace hp1 : Heap.SameBut i1 g0 p1 := hp1
    refine wpAny_pure ?_
    refine wpAny_bind (wpAny_bind (wpAny_holding ?_))
    show wpAny _ _ (Builtin.SmallTypes.nextOf (.ref i2) >>= _) _ _ ⟨p1, g, d, tk1, os⟩
    refine wpAny_bind (D2.item i _ _ _ hlt2 (D2.over (D2.over st2 hs0 S.zf2) hp1 S.sep1_2) fun x2 p2 tk2 hx2 sn2 hp2 => wpAny_pure ?_)
    replace hp2 : Heap.SameBut i2 p1 p2 := hp2
    refine wpAny_pure ?_
    refine wpAny_bind (wpAny_bind (wpAny_holding ?_))
    show wpAny _ _ (Builtin.SmallTypes.nextOf (.ref i3) >>= _) _ _ ⟨p2, g, d, tk2, os⟩
    refine wpAny_bind (D3.item i _ _ _ hlt3 (D3.over (D3.over (D3.over st3 hs0 S.zf3) hp1 S.sep1_3) hp2 S.sep2_3) fun x3 p3 tk3 hx3 sn3 hp3 => wpAny_pure ?_)
    replace hp3 : Heap.SameBut i3 p2 p3 := hp3
    refine wpAny_pure (wpAny_pure ?_)
    show wpAny _ _ (newTuple [x1, x2, x3] >>= _) _ _ ⟨p3, g, d, tk3, os⟩
    refine wpAny_bind (wpAny_newTuple ?_)
    have hsz : p3.objs.size = hp.objs.size := by rw [hp3.1, hp2.1, hp1.1, hs0.1]
    have hzz : IsZipX p3 z TI TO x true := hp3.extBut _ _ S.zi3 (hp2.extBut _ _ S.zi2 (hp1.extBut _ _ S.zi1 hz0))
    have hj1 : St1 (i + 1) p3 := D1.over (D1.over sn1 hp2 S.sep2_1) hp3 S.sep3_1
    have hj2 : St2 (i + 1) p3 := D2.over sn2 hp3 S.sep3_2
    have hTO2 : IsTupOf3 p3 TO a1 a2 a3 := hp3.extBut _ _ S.Ti3 (hp2.extBut _ _ S.Ti2 (hp1.extBut _ _ S.Ti1 (hs0.extBut _ _ S.TOz hTO)))
    refine wpAny_pure ⟨_, rfl, ?_⟩
    show Q (.ref p3.objs.size) _
    rw [hsz]
    refine hQ x1 x2 x3 (p3.push { cls := .type "tuple", data := .seq #[x1, x2, x3] }) tk3 _ _ hx1 hx2 hx3 (Heap.get?_push_of_some _ hzz) hx ⟨_, _, _, Heap.get?_push_of_some _ hTO2⟩ (D1.frame _ _ _ hj1 fun b hb o e => Heap.get?_push_of_some _ e) (D2.frame _ _ _ hj2 fun b hb o e => Heap.get?_push_of_some _ e) (D3.frame _ _ _ sn3 fun b hb o e => Heap.get?_push_of_some _ e) ?_ (by rw [Heap.size_push, hsz]) fun c o cz cT c1 c2 c3 e => Heap.get?_push_of_some _ (hp3.extBut _ _ c3 (hp2.extBut _ _ c2 (hp1.extBut _ _ c1 (hs0.extBut _ _ cz e))))
    rw [← hsz]
    exact Heap.get?_push_size _ rfl
theorem zipX3_end {Q : Fin → Shared → Prop} (S : ZipSep3 z TI TO i1 i2 i3 fp1 fp2 fp3) (D1 : Draws prog w A i1 fp1 n1 P1 St1)
    (hz : IsZipX s.heap z TI TO x b) (hx : x = .none ∨ ∃ T : Addr, x = rawInt T) (hTI : IsTupOf3 s.heap TI (.ref i1) (.ref i2) (.ref i3)) (st1 : St1 n1 s.heap)
    (hE : ∀ h' e, (∀ c o, c ≠ z → c ≠ i1 → s.heap.get? c = some o → h'.get? c = some o) → (∃ o, h'.get? e = some o ∧ o.cls = .type "StopIteration") → E (.ref e) { s with heap := h' }) :
    wpAny (model prog w) A (Builtin.«zip.__next__» ⟨[.ref z], []⟩) Q E s := by
  obtain ⟨hp, g, d, tk0, os⟩ := s
  show wpAny _ _ (field (.ref z) 2 >>= _) _ _ _
  refine wpAny_bind (wpAny_field hz rfl (x := .bool false) rfl ?_)
  show wpAny _ _ (field (.ref z) 3 >>= _) _ _ _
  refine wpAny_bind (wpAny_field hz rfl (x := .ref TI) rfl ?_)
  refine wpAny_bind (wpAny_seqItems hTI rfl ?_)
  show wpAny _ _ (Builtin.SmallTypes.ownedTupleIsFree (.ref z) >>= _) _ _ _
  refine wpAny_bind (zipX_free hz hx ?_ fun g0 hz0 hs0 => ?_)
  · simp only [if_true]
    refine wpAny_bind (wpAny_rule (wpAny_bind (wpAny_field hz rfl (x := .ref TO) rfl ?_)))
    refine wpAny_bind (wpAny_setField_rec hz (by simp) fun g0 hz0 hs0 => ?_)
    replace hz0 : IsZipX g0 z TI TO .ellipsis b := hz0
    replace hs0 : Heap.SameBut z hp g0 := hs0
    refine wpAny_bind ?_
    simp only [List.zipIdx_cons, List.zipIdx_nil, List.forIn_cons, List.forIn_nil]
    refine wpAny_bind (wpAny_bind (wpAny_onRaise ?_))
    show wpAny _ _ (Builtin.SmallTypes.nextOf (.ref i1) >>= _) _ _ ⟨g0, g, d, tk0, os⟩
    refine wpAny_bind (D1.done ⟨g0, g, d, tk0, os⟩ _ _ (D1.over st1 hs0 S.zf1) fun q e hq he => ?_)
    replace hq : Heap.ExtBut i1 g0 q := hq
    obtain ⟨oe, hoe, hce⟩ := he
    replace hoe : q.get? e = some oe := hoe
    have hzq : IsZipX q z TI TO .ellipsis b := hq _ _ S.zi1 hz0
    have hez : e ≠ z := fun y => by subst y; rw [hzq] at hoe; cases hoe; simp at hce
    refine wpAny_setField_rec (s := ⟨q, g, d, tk0, os⟩) hzq (by simp) fun q' _ hq' => ?_
    replace hq' : Heap.SameBut z q q' := hq'
    exact hE q' e (fun c o cz c1 y => hq'.extBut _ _ cz (hq _ _ c1 (hs0.extBut _ _ cz y))) ⟨oe, hq'.extBut _ _ hez hoe, hce⟩
  · replace hs0 : Heap.SameBut z hp g0 := hs0
    simp only [Bool.false_eq_true, if_false]
    refine wpAny_bind ?_
    rw [← Array.forIn_toList]
    simp only [List.forIn_cons, List.forIn_nil]
    refine wpAny_bind (wpAny_bind (wpAny_holding ?_))
    show wpAny _ _ (Builtin.SmallTypes.nextOf (.ref i1) >>= _) _ _ ⟨g0, g, d, tk0, os⟩
    refine wpAny_bind (D1.done ⟨g0, g, d, tk0, os⟩ _ _ (D1.over st1 hs0 S.zf1) fun q e hq he => ?_)
    replace hq : Heap.ExtBut i1 g0 q := hq
    exact hE q e (fun c o cz c1 y => hq _ _ c1 (hs0.extBut _ _ cz y)) he
end
section
variable {prog : Program} {w : World} {A : Around} {E : Value → Shared → Prop} {s : Shared}
theorem next_zip {z TI TO : Addr} {x : Value} {b : Bool} {Q : Option Value → Shared → Prop} (hz : IsZipX s.heap z TI TO x b)
    (h : ∀ E' : Value → Shared → Prop, wpAny (model prog w) A.in1 (Builtin.«zip.__next__» ⟨[.ref z], []⟩) (fun fin s' => ∃ v, fin = .done (.ret v) ∧ Q (some v) s') E' s) : wpAny (model prog w) A (pyNext (.ref z)) Q E s := by
  have hT : s.TypeIs (.ref z) "zip" := ⟨_, hz, rfl⟩
  unfold pyNext
  refine wpAny_bind (wpAny_attempt (wpAny_callSpecial?_slot (name := Str.ofString "__next__") hT F.slot_zip_next
    (wpAny_call_entry F.slot_zip_next hT F.entry_zip_next ?_ (F.args_zip_next_1 _))))
  refine wpAny_mono (h _) (fun fin s' ⟨v, e, q⟩ => ?_) fun _ _ y => y
  subst e
  exact ⟨v, rfl, wpAny_pure q⟩
theorem next_zip3_end {z TI TO i1 i2 i3 : Addr} {x : Value} {b : Bool} {fp1 fp2 fp3 : List Addr} {n1 : Nat} {P1 : Nat → Value → Prop} {St1 : Nat → Heap → Prop} {Q : Option Value → Shared → Prop}
    (S : ZipSep3 z TI TO i1 i2 i3 fp1 fp2 fp3) (D1 : ∀ A' : Around, A'.handled = none → Draws prog w A' i1 fp1 n1 P1 St1) (hh : A.handled = none) (hz : IsZipX s.heap z TI TO x b) (hx : x = .none ∨ ∃ T : Addr, x = rawInt T) (hTI : IsTupOf3 s.heap TI (.ref i1) (.ref i2) (.ref i3)) (st1 : St1 n1 s.heap)
    (hQ : ∀ h', (∀ c o, c ≠ z → c ≠ i1 → s.heap.get? c = some o → h'.get? c = some o) → Q none { s with heap := h' }) : wpAny (model prog w) A (pyNext (.ref z)) Q E s := by
  have hT : s.TypeIs (.ref z) "zip" := ⟨_, hz, rfl⟩
  unfold pyNext
  refine wpAny_bind (wpAny_attempt (wpAny_callSpecial?_slot (name := Str.ofString "__next__") hT F.slot_zip_next
    (wpAny_call_entry F.slot_zip_next hT F.entry_zip_next ?_ (F.args_zip_next_1 _))))
  refine zipX3_end S (D1 _ hh) hz hx hTI st1 fun h' x' he' hx' => ?_
  obtain ⟨o, ho, hc⟩ := hx'
  refine wpAny_bind (wpAny_isInstance (T := "StopIteration") (b := true) ⟨o, ho, hc⟩ isSubtype_stop ?_)
  exact wpAny_pure (hQ _ he')
end
end Lm


/-! for t in zip(a, b, c), a, b, c tuples: the rule and what it reads as -/
namespace Lm
open PySem PySem.Spec PyProof.Rows L2
def IteZ3 (K : PySem.W.Frag) (a b c : Addr) : It where
  go := fun i H => ∃ (xs ys us : List V) (x y u : V), SqT K H a xs ∧ SqT K H b ys ∧ SqT K H c us ∧ xs[i]? = some x ∧ ys[i]? = some y ∧ us[i]? = some u
  yld := fun i H v H' => ∃ (T : Addr) (o : Obj) (x y u : V), v = .ref T ∧ o.dict = none ∧ H T = none ∧ H' = upd H T (.frz o (.tup [x, y, u])) ∧ (∀ xs, SqT K H a xs → xs[i]? = some x) ∧ (∀ ys, SqT K H b ys → ys[i]? = some y) ∧ ∀ us, SqT K H c us → us[i]? = some u
  stop := fun i H => ∃ xs : List V, SqT K H a xs ∧ xs.length = i
theorem turnZ3 {P : Program} {w : World} {K : PySem.W.Frag} {nm : Str} {tpos : Pos} {a b c z TI TO i1 i2 i3 : Addr} (S : ZipSep3 z TI TO i1 i2 i3 [i1, a] [i2, b] [i3, c]) (ha : a ≠ i1) (hb : b ≠ i2) (hc3 : c ≠ i3) :
    Turn P w K (.Name nm tpos) (IteZ3 K a b c) [z, TI, TO, i1, i2, i3] z fun i h => (∃ x bb, IsZipX h z TI TO x bb ∧ (x = .none ∨ ∃ T : Addr, x = rawInt T)) ∧ IsTupOf3 h TI (.ref i1) (.ref i2) (.ref i3) ∧ (∃ a1 a2 a3, IsTupOf3 h TO a1 a2 a3) ∧ h.IsTupleIter i1 a i ∧ h.IsTupleIter i2 b i ∧ h.IsTupleIter i3 c i where
  mem := List.mem_cons_self
  obj := by
    rintro i h ⟨⟨x, bb, hz, _⟩, hTI, ⟨a1, a2, a3, hTO⟩, ⟨o1, g1, _, d1⟩, ⟨o2, g2, _, d2⟩, ⟨o3, g3, _, d3⟩⟩ c hc
    have e' : c = z ∨ c = TI ∨ c = TO ∨ c = i1 ∨ c = i2 ∨ c = i3 := by simpa using hc
    rcases e' with q | q | q | q | q | q
    · rw [q]; exact ⟨_, hz, fun v q => nomatch q⟩
    · rw [q]; exact ⟨_, hTI, fun v q => nomatch q⟩
    · rw [q]; exact ⟨_, hTO, fun v q => nomatch q⟩
    · rw [q]; exact ⟨o1, g1, fun v q => by rw [d1] at q; cases q⟩
    · rw [q]; exact ⟨o2, g2, fun v q => by rw [d2] at q; cases q⟩
    · rw [q]; exact ⟨o3, g3, fun v q => by rw [d3] at q; cases q⟩
  keep := by
    rintro i h h' ⟨⟨x, bb, hz, hx⟩, hTI, ⟨a1, a2, a3, hTO⟩, h1, h2, h3⟩ k
    exact ⟨⟨x, bb, k z (by simp) _ hz, hx⟩, k TI (by simp) _ hTI, ⟨a1, a2, a3, k TO (by simp) _ hTO⟩, h1.at fun o q => k i1 (by simp) o q, h2.at fun o q => k i2 (by simp) o q, h3.at fun o q => k i3 (by simp) o q⟩
  item := by
    intro X hP hw hK hc i pins s σ H E I hf ⟨⟨x0, bb, hz, hx0⟩, hTI, ⟨a1, a2, a3, hTO⟩, h1, h2, h3⟩ ⟨xs, ys, us, x, y, u0, hqx, hqy, hqu, hx, hy, hu0⟩
    subst hP hw hK
    obtain ⟨its, rv, p, _⟩ := I.tuple hqx
    obtain ⟨its2, rv2, p2, _⟩ := I.tuple hqy
    obtain ⟨its3, rv3, p3, _⟩ := I.tuple hqu
    obtain ⟨u, hu, ru⟩ := rv.get hx
    obtain ⟨u2, hu2, ru2⟩ := rv2.get hy
    obtain ⟨u3, hu3, ru3⟩ := rv3.get hu0
    have lt1 : i < its.toArray.size := by rw [List.size_toArray]; exact (List.getElem?_eq_some_iff.mp hu).1
    have lt2 : i < its2.toArray.size := by rw [List.size_toArray]; exact (List.getElem?_eq_some_iff.mp hu2).1
    have lt3 : i < its3.toArray.size := by rw [List.size_toArray]; exact (List.getElem?_eq_some_iff.mp hu3).1
    have hh : X.A.in1.handled = none := I.ok.hd hc
    refine next_zip hz fun E' => zipX3_item S (Draws.tuple hh i1 a ha its.toArray) (Draws.tuple hh i2 b hb its2.toArray) (Draws.tuple hh i3 c hc3 its3.toArray) hz hx0 hTI hTO ⟨h1, p⟩ ⟨h2, p2⟩ ⟨h3, p3⟩ lt1 lt2 lt3 fun v1 v2 v3 g1 tk x' b' hv1 hv2 hv3 hz' hx' hTO' s1' s2' s3' hT hsz hk => ⟨_, rfl, ?_⟩
    have q1 : v1 = u := by
      have : its[i]? = some v1 := by simpa using hv1
      rw [hu] at this
      exact (Option.some.inj this).symm
    have q2 : v2 = u2 := by
      have : its2[i]? = some v2 := by simpa using hv2
      rw [hu2] at this
      exact (Option.some.inj this).symm
    have q3 : v3 = u3 := by
      have : its3[i]? = some v3 := by simpa using hv3
      rw [hu3] at this
      exact (Option.some.inj this).symm
    subst q1 q2 q3
    have hlt : ∀ c ∈ [z, TI, TO, i1, i2, i3], c < s.heap.objs.size := fun c hc => by
      have e' : c = z ∨ c = TI ∨ c = TO ∨ c = i1 ∨ c = i2 ∨ c = i3 := by simpa using hc
      rcases e' with q | q | q | q | q | q
      · rw [q]; exact Heap.lt_size hz
      · rw [q]; exact Heap.lt_size hTI
      · rw [q]; exact Heap.lt_size hTO
      · rw [q]; obtain ⟨_, w1, _⟩ := h1; exact Heap.lt_size w1
      · rw [q]; obtain ⟨_, w1, _⟩ := h2; exact Heap.lt_size w1
      · rw [q]; obtain ⟨_, w1, _⟩ := h3; exact Heap.lt_size w1
    have I1 : Inv X pins σ (upd H s.heap.objs.size (.frz { cls := .type "tuple", data := .seq #[v1, v2, v3] } (.tup [x, y, u0]))) { s with heap := g1, toks := tk } :=
      I.turnedNew (t' := tk) (ch := [z, TI, TO, i1, i2, i3]) (fun c o hb q => hk c o (fun q' => hb (by simp [q'])) (fun q' => hb (by simp [q'])) (fun q' => hb (by simp [q'])) (fun q' => hb (by simp [q'])) (fun q' => hb (by simp [q'])) q) hf (Nat.le_refl _)
        ⟨hT, by show 3 ≤ sizeLine; decide, [v1, v2, v3], .cons ru (.cons ru2 (.cons ru3 .nil)), ⟨_, hT, rfl, _, rfl⟩⟩
    refine wpAny_pure ⟨.ref s.heap.objs.size, _, I1, rfl, ⟨_, _, x, y, u0, rfl, rfl, I.hok.fresh (Nat.le_refl _), rfl, fun l hl => by rw [I.tuple_inj hl hqx]; exact hx, fun l hl => by rw [I.tuple_inj hl hqy]; exact hy, fun l hl => by rw [I.tuple_inj hl hqu]; exact hu0⟩, ⟨⟨x', b', hz', hx'⟩, hk _ _ S.TIz S.TITO S.TIi1 S.TIi2 S.TIi3 hTI, hTO', s1'.1, s2'.1, s3'.1⟩, fun c hc => ?_⟩
    rw [upd_ne (Nat.ne_of_lt (hlt c hc))]
    exact (hf c hc).1
  done := by
    intro X hP hw hK hc i pins s σ H E I hf ⟨⟨x0, bb, hz, hx0⟩, hTI, ⟨a1, a2, a3, hTO⟩, h1, h2, h3⟩ ⟨xs, hqx, hx⟩
    subst hP hw hK
    obtain ⟨its, rv, p, _⟩ := I.tuple hqx
    have hl : its.toArray.size = i := by rw [List.size_toArray, ← rv.length]; exact hx
    refine next_zip3_end (n1 := its.toArray.size) S (fun A' hh' => Draws.tuple hh' i1 a ha its.toArray) (I.ok.hd hc) hz hx0 hTI ⟨by rw [hl]; exact h1, p⟩ fun h' hk => ⟨rfl, I.turnedL (t' := s.toks) (ch := [z, TI, TO, i1, i2, i3]) (fun c o hb q => hk c o (fun q' => hb (by simp [q'])) (fun q' => hb (by simp [q'])) q) hf⟩
  self := fun A i s Q E ⟨⟨x, bb, hz, _⟩, _⟩ h => by
    have hT : s.TypeIs (.ref z) "zip" := ⟨_, hz, rfl⟩
    refine wpAny_pyIter_slot hT F.slot_zip_iter (wpAny_call_entry F.slot_zip_iter hT F.entry_zip_iter ?_ (F.args_zip_iter_1 _))
    show wpAny _ _ (ret (.ref z)) _ _ s
    exact wpAny_pure ⟨_, rfl, "zip", _, hT, F.slot_zip_next.lookup, h⟩
def iZip3 (K : PySem.W.Frag) (ta : TA) : TI := fun σ H R => ta σ H fun vs H1 => ∃ a b c xs ys us, vs = [.ref a, .ref b, .ref c] ∧ SqT K H1 a xs ∧ SqT K H1 b ys ∧ SqT K H1 c us ∧ R (IteZ3 K a b c) H1
theorem pi_zip3 {X : Cx} {e e2 e3 : Expr} {ta : TA} {p pos tpos : Pos} {nm : Str} (hg : Gl X "zip") (hm : X.mg "zip" = none) (ha : PA X [e, e2, e3] ta)
    (hs : starEach [e, e2, e3] X.env = (false, eval e X.env) :: starEach [e2, e3] X.env := by rfl) (hpl : (backTo pos (starEach [e2, e3] X.env)).any (·.1) = false := by rfl) :
    PI X (.Name nm tpos) (.Call (.Name "zip" p) [e, e2, e3] [] pos) (iZip3 X.K ta) := by
  refine ⟨fun pins s σ H R I h => ?_⟩
  refine Call_ (ld_blt I hg hm PyProof.Rows.boot_zip (PyProof.Rows.callWith_type1 (thn (ha.run pos pins s σ H _ I h) fun us s1 ⟨vs, H1, I1, r1, q1⟩ => ?_) hs hpl))
  obtain ⟨a, b, c, xs, ys, us, ex, hqx, hqy, hqu, q⟩ := q1
  subst ex
  cases r1 with
  | cons r rr =>
    cases rr with
    | cons r' rr =>
      cases rr with
      | cons r'' rr =>
        cases rr
        cases r
        cases r'
        cases r''
        obtain ⟨its, rv, p1, _⟩ := I1.tuple hqx
        obtain ⟨its2, rv2, p2, _⟩ := I1.tuple hqy
        obtain ⟨its3, rv3, p3, _⟩ := I1.tuple hqu
        have la : a < s1.heap.objs.size := let ⟨_, w, _⟩ := p1; Heap.lt_size w
        have lb : b < s1.heap.objs.size := let ⟨_, w, _⟩ := p2; Heap.lt_size w
        have lc : c < s1.heap.objs.size := let ⟨_, w, _⟩ := p3; Heap.lt_size w
        refine zip_begins3 (begins_tuple a its.toArray) (begins_tuple b its2.toArray) (begins_tuple c its3.toArray) p1 p2 p3 fun h' hz hTI hTO g1 g2 g3 hsz hk => wpAny_pyIter_zip hz ?_
        have I2 : Inv _ pins σ H1 { s1 with heap := h' } := I1.kept (t' := s1.toks) hk
        have fresh : ∀ d ∈ [s1.heap.objs.size + 5, s1.heap.objs.size + 3, s1.heap.objs.size + 4, s1.heap.objs.size, s1.heap.objs.size + 1, s1.heap.objs.size + 2], FpOk _ pins H1 d := fun d hd => by
          have e' : d = s1.heap.objs.size + 5 ∨ d = s1.heap.objs.size + 3 ∨ d = s1.heap.objs.size + 4 ∨ d = s1.heap.objs.size ∨ d = s1.heap.objs.size + 1 ∨ d = s1.heap.objs.size + 2 := by simpa using hd
          have hle : s1.heap.objs.size ≤ d := by
            rcases e' with z | z | z | z | z | z
            · rw [z]; exact Nat.le_add_right _ _
            · rw [z]; exact Nat.le_add_right _ _
            · rw [z]; exact Nat.le_add_right _ _
            · rw [z]; exact Nat.le_refl _
            · rw [z]; exact Nat.le_add_right _ _
            · rw [z]; exact Nat.le_add_right _ _
          exact I1.fpOk hle (I1.hok.fresh hle)
        exact ⟨s1.heap.objs.size + 5, [s1.heap.objs.size + 5, s1.heap.objs.size + 3, s1.heap.objs.size + 4, s1.heap.objs.size, s1.heap.objs.size + 1, s1.heap.objs.size + 2], _, _, H1, rfl, I2,
          turnZ3 (zip_sep3 (N := s1.heap.objs.size) (fp1 := [a]) (fp2 := [b]) (fp3 := [c]) (fun d hd => by cases List.mem_singleton.mp hd; exact la) (fun d hd => by cases List.mem_singleton.mp hd; exact lb) (fun d hd => by cases List.mem_singleton.mp hd; exact lc)) (Nat.ne_of_lt la) (Nat.ne_of_lt (Nat.lt_succ_of_lt lb)) (Nat.ne_of_lt (Nat.lt_succ_of_lt (Nat.lt_succ_of_lt lc))),
          ⟨⟨_, _, hz, .inl rfl⟩, hTI, ⟨_, _, _, hTO⟩, ⟨_, g1, rfl, rfl⟩, ⟨_, g2, rfl, rfl⟩, ⟨_, g3, rfl, rfl⟩⟩, fresh, q⟩
theorem walk_zip3 {K : PySem.W.Frag} {a b c : Addr} {xs ys us : List V} (hl : xs.length = ys.length) (hl2 : xs.length = us.length) : Walk (IteZ3 K a b c) xs.length (fun H => SqT K H a xs ∧ SqT K H b ys ∧ SqT K H c us)
    fun i H v H' => ∃ (T : Addr) (o : Obj) (x y u : V), v = .ref T ∧ o.dict = none ∧ H T = none ∧ H' = upd H T (.frz o (.tup [x, y, u])) ∧ xs[i]? = some x ∧ ys[i]? = some y ∧ us[i]? = some u where
  goes := fun i _ hi w => ⟨xs, ys, us, xs[i], ys[i]'(by omega), us[i]'(by omega), w.1, w.2.1, w.2.2, List.getElem?_eq_getElem hi, List.getElem?_eq_getElem (by omega), List.getElem?_eq_getElem (by omega)⟩
  stops := fun _ w => ⟨xs, w.1, rfl⟩
  yields := fun i H v H' _ w ⟨T, o, x, y, u, h1, h2, h3, h4, h5, h6, h7⟩ => ⟨T, o, x, y, u, h1, h2, h3, h4, h5 xs w.1, h6 ys w.2.1, h7 us w.2.2⟩
section
variable {c : Ct} {Γ : List (Option Rs)} {tr : TA}
/-- the three items at a place -/
def row3 (as bs cs : List Int) (i : Nat) : List Int := [as.getD i 0, bs.getD i 0, cs.getD i 0]
theorem i_zip3 {as bs cs : List Int} (hl : as.length = bs.length) (hl2 : as.length = cs.length) (h : EvA c tr Γ true [.tuple (as.map .int), .tuple (bs.map .int), .tuple (cs.map .int)]) : EvI c (iZip3 c.K tr) Γ true ((List.range as.length).map fun i => .d (.tuple ((row3 as bs cs i).map .int))) := fun H0 O H σ e R q =>
  h H0 O H σ e _ fun vs H1 r s => by
    have s' := BoAll.vm s
    cases s' with
    | cons b1 s' =>
      obtain ⟨y, z, rfl, b2, b3⟩ := s'.two
      obtain ⟨p, xs, rfl, sl, al⟩ := b1.tup'
      obtain ⟨p2, ys, rfl, sl2, al2⟩ := b2.tup'
      obtain ⟨p3, us, rfl, sl3, al3⟩ := b3.tup'
      have := al.ints
      subst this
      have := al2.ints
      subst this
      have := al3.ints
      subst this
      refine ⟨p, p2, p3, _, _, _, rfl, (sqT_same mns_same sl).sq, (sqT_same mns_same sl2).sq, (sqT_same mns_same sl3).sq, q _ H1 r ⟨(e.on r).j, ?_⟩⟩
      have el : ((List.range as.length).map fun i => Im.d (.tuple ((row3 as bs cs i).map .int))).length = (as.map V.int).length := by simp
      rw [el]
      refine (walk_zip3 (by simpa using hl) (by simpa using hl2)).mono (fun H h => ⟨(h.tup (e.on r).j sl).sq, (h.tup (e.on r).j sl2).sq, (h.tup (e.on r).j sl3).sq⟩) fun i H v H' hi g w => ?_
      obtain ⟨T, o, x, y, u, rfl, ho, hT, rfl, hx, hy, hu⟩ := w
      have hi' : i < as.length := by simpa using hi
      have hi2 : i < bs.length := by omega
      have hi3 : i < cs.length := by omega
      have ex : x = .int (as.getD i 0) := by rw [gd_lt hi']; simpa [hi'] using hx.symm
      have ey : y = .int (bs.getD i 0) := by rw [gd_lt hi2]; simpa [hi2] using hy.symm
      have eu : u = .int (cs.getD i 0) := by rw [gd_lt hi3]; simpa [hi3] using hu.symm
      subst ex ey eu
      have sm : Same H (upd H T (.frz o (.tup [.int (as.getD i 0), .int (bs.getD i 0), .int (cs.getD i 0)]))) := fun b o z => by rw [upd_ne (ne_of_none z hT)]; exact z
      refine ⟨sm, .d (.tuple ((row3 as bs cs i).map .int)), ?_, .leaf (.inl ⟨flatT _, .tup (.inl ⟨o, ho, upd_same⟩) (.cons (.int _) (.cons (.int _) (.cons (.int _) .nil)))⟩)⟩
      simp [hi']
end
section
variable {X : Cx} {K : PySem.W.Frag} (hK : X.K = K)
include hK
theorem k_zip3 {e e2 e3 : Expr} {ta : TA} {p pos tpos : Pos} {nm : Str} (hg : Gl X "zip") (hm : X.mg "zip" = none) (ha : PA X [e, e2, e3] ta)
    (hs : starEach [e, e2, e3] X.env = (false, eval e X.env) :: starEach [e2, e3] X.env := by rfl) (hpl : (backTo pos (starEach [e2, e3] X.env)).any (·.1) = false := by rfl) :
    PI X (.Name nm tpos) (.Call (.Name "zip" p) [e, e2, e3] [] pos) (iZip3 K ta) := hK ▸ pi_zip3 hg hm ha hs hpl
end
end Lm


/-! medians -/
namespace Lm
open PySem PySem.Spec PyProof.Rows L2
def mid3 (a b c : Int) : Int := if a ≤ b then (if b ≤ c then b else if a ≤ c then c else a) else (if a ≤ c then a else if b ≤ c then c else b)
theorem mid_sorted {a b c : Int} {ns : List Int} (h : ns.Perm [a, b, c]) (s : ns.Pairwise (· ≤ ·)) : ∃ x z, ns = [x, mid3 a b c, z] := by
  have hl := h.length_eq
  obtain ⟨x, y, z, rfl⟩ : ∃ x y z, ns = [x, y, z] := match ns, hl with | [x, y, z], _ => ⟨x, y, z, rfl⟩
  have e := perm_sum h
  have hx : x = a ∨ x = b ∨ x = c := by simpa using h.mem_iff.mp (show x ∈ [x, y, z] by simp)
  have hy : y = a ∨ y = b ∨ y = c := by simpa using h.mem_iff.mp (show y ∈ [x, y, z] by simp)
  have hz : z = a ∨ z = b ∨ z = c := by simpa using h.mem_iff.mp (show z ∈ [x, y, z] by simp)
  simp at s
  simp at e
  refine ⟨x, z, ?_⟩
  have : y = mid3 a b c := by
    unfold mid3
    rcases hx with rfl | rfl | rfl <;> rcases hy with rfl | rfl | rfl <;> rcases hz with rfl | rfl | rfl <;> (repeat' split) <;> omega
  rw [this]
def medI (as bs cs : List Int) : List Int := (List.range as.length).map fun i => mid3 (as.getD i 0) (bs.getD i 0) (cs.getD i 0)
def sp_medians (K : PySem.W.Frag) : Sp := spD K fun ds k d => ∃ (as bs cs : List Int) (v b : Int), ds = [.tuple (as.map .int), .tuple (bs.map .int), .tuple (cs.map .int)] ∧ Alc as v b ∧ Alc bs v b ∧ Alc cs v b ∧ 1 ≤ v ∧ v ≤ 5 ∧ b ≤ 20 ∧ k = .v ∧ d = .tuple ((medI as bs cs).map .int)
variable {as bs cs : List Int}
end Lm


/-! the least churn is what goes over -/
namespace Lm
open PySem PySem.Spec PyProof.Rows L2
variable {f g h ns ms : List Int} {v : Int}
/-- all assignments of n buckets to v variants -/
def allL (v : Int) : Nat → List (List Int)
  | 0 => [[]]
  | n + 1 => (allL v n).flatMap fun r => (upI 0 v.toNat).map fun x => r ++ [x]
theorem mem_allL (hv : 0 ≤ v) : ∀ (n : Nat) (r : List Int), r ∈ allL v n ↔ r.length = n ∧ ∀ x ∈ r, 0 ≤ x ∧ x < v
  | 0, r => by
    constructor
    · intro h
      have : r = [] := by simpa [allL] using h
      subst this
      exact ⟨rfl, fun _ h => nomatch h⟩
    · rintro ⟨h, _⟩
      rw [List.eq_nil_of_length_eq_zero h]
      simp [allL]
  | n + 1, r => by
    unfold allL
    rw [List.mem_flatMap]
    constructor
    · rintro ⟨q, hq, h⟩
      obtain ⟨x, hx, rfl⟩ := List.mem_map.mp h
      obtain ⟨h1, h2⟩ := (mem_allL hv n q).mp hq
      refine ⟨by simp [h1], fun y hy => ?_⟩
      rcases List.mem_append.mp hy with w | w
      · exact h2 y w
      · rw [List.mem_singleton.mp w]
        have := mem_upI.mp hx
        omega
    · rintro ⟨h1, h2⟩
      have hne : r ≠ [] := fun z => by rw [z] at h1; simp at h1
      refine ⟨r.dropLast, (mem_allL hv n _).mpr ⟨by rw [List.length_dropLast]; omega, fun x hx => h2 x (List.dropLast_subset r hx)⟩, List.mem_map.mpr ⟨r.getLast hne, mem_upI.mpr ?_, List.dropLast_concat_getLast hne⟩⟩
      have := h2 _ (List.getLast_mem hne)
      omega
end Lm


/-! a list handed from one name to another, list.extend, tuples put together, all assignments -/
namespace Lm
open PySem PySem.Spec PyProof.Rows L2
section
variable {c : Ct} {H H' H0 H1 H2 H3 : Hp} {O : List Addr} {σ : L2.St} {Γ Γ' Γ1 : List (Option Rs)}
variable {te ta tb : TE} {k ka kb : Kd} {d : PyData} {i j : Int} {ds es : List PyData} {u : TS} {P : Out → Prop} {n m : Nat}
theorem Env.move (e : Env c H0 O H σ Γ) (h : Γ[n]? = some (some (.o d))) (hm : m < Γ.length) : ∃ v, σ[n]? = some (some v) ∧ Env c H0 O H (σ.set m (some v)) ((Γ.set n none).set m (some (.o d))) := by
  obtain ⟨fp, hr, nd, sub⟩ := e.rep
  obtain ⟨x, f, pre, post, hx, ⟨v, rfl, fo⟩, hfp, up⟩ := hr.nth h
  subst hfp
  refine ⟨v, hx, e.r0, e.j, e.fr, e.dm, ?_⟩
  have r1 : Reps c O H (σ.set n (some v)) (Γ.set n none) (pre ++ ([] ++ post)) := up O H (some v) none [] (fun _ _ _ _ z => z) rfl
  have es : σ.set n (some v) = σ := by
    obtain ⟨hlt, e1⟩ := List.getElem?_eq_some_iff.mp hx
    rw [← e1]
    exact List.set_getElem_self hlt
  rw [es] at r1
  obtain ⟨y, f2, pre2, post2, hy, _, hfp2, up2⟩ := r1.nth (i := m) (s := (Γ.set n none)[m]'(by rw [List.length_set]; exact hm)) (List.getElem?_eq_getElem _)
  have r2 := up2 O H (some v) (some (.o d)) f (fun _ _ _ _ z => z) ⟨v, rfl, fo⟩
  rw [List.nil_append] at hfp2
  have p1 : (pre ++ (f ++ post)).Perm (f ++ (pre ++ post)) := by
    rw [← List.append_assoc, ← List.append_assoc]
    exact List.Perm.append_right _ List.perm_append_comm
  have nd1 := p1.nodup_iff.mp nd
  rw [hfp2] at nd1
  have p2 : (pre2 ++ (f ++ post2)).Perm (f ++ (pre2 ++ post2)) := by
    rw [← List.append_assoc, ← List.append_assoc]
    exact List.Perm.append_right _ List.perm_append_comm
  refine ⟨_, r2, p2.nodup_iff.mpr (nd1.sublist ?_), fun a ha => sub a (p1.mem_iff.mpr ?_)⟩
  · refine List.Sublist.append (List.Sublist.refl _) (List.Sublist.append (List.Sublist.refl _) ?_)
    exact List.sublist_append_right _ _
  · rw [hfp2]
    have := p2.mem_iff.mp ha
    simp at this ⊢
    rcases this with w | w | w <;> simp [w]
theorem s_mov (h : Γ[n]? = some (some (.o d))) (hm : m < Γ.length) (p : P (.nx ((Γ.set n none).set m (some (.o d))))) : Sd c (tAsg (tVar n) (gName m)) Γ P := fun H0 O H σ D e s => by
  obtain ⟨v, hv, e'⟩ := e.move h hm
  exact ⟨v, hv, s _ p O H _ e'⟩
/-- t + u -/
theorem e_catT (ha : Ev c ta Γ .v (.tuple ds)) (hb : Ev c tb Γ .v (.tuple es)) (hl : ds.length + es.length ≤ 1000000) : Ev c (tOp (rAddA c.K) ta tb) Γ .v (.tuple (ds ++ es)) := fun H0 O H σ e Q q =>
  ha H0 O H σ e _ fun v H1 r1 s1 => hb H0 O H1 σ (e.on r1) _ fun u H2 r2 s2 => by
    have bv : Bo c (mns H2 O) v (.tuple ds) := Res.on e r1 r2 s1
    have bu : Bo c (mns H2 O) u (.tuple es) := s2
    obtain ⟨p, xs, rfl, s, al⟩ := Bo.tup' bv
    obtain ⟨p2, ys, rfl, s', al'⟩ := Bo.tup' bu
    refine .inr (.inl ⟨p, p2, xs, ys, rfl, rfl, (sqT_same mns_same s).sq, (sqT_same mns_same s').sq, by rw [al.len, al'.len]; exact sizeOk hl, fun hx => ?_, fun hx hy => ?_, fun _ _ => newTk (c := c) fun q' H3 hp sm tp => ?_⟩)
    · subst hx
      cases al
      exact q _ H2 (r1.tr r2) bu
    · subst hy
      cases al'
      exact q _ H2 (r1.tr r2) (by show Bo c (mns H2 O) _ _; rw [List.append_nil]; exact bv)
    · have r3 : Rr c H2 H3 := Rr.same sm
      have e2 := (e.on r1).on r2
      exact q _ H3 ((r1.tr r2).tr r3) (.tup (tpN_mns e2 r3 tp) ((al.app al').mono e2.j (r3.mns e2.j e2.okO)))
/-- xs.extend(a new list of flat things) -/
theorem s_ext (hx : Γ[n]? = some (some (.o (.list ds)))) (h : Ev c te Γ .o (.list es)) (hf : flatAll es = true) (hl : ds.length + es.length ≤ 1000000) (p : P (.nx (Γ.set n (some (.o (.list (ds ++ es))))))) : Sd c (tDrop (tBM c.K "list" rExtend (tVar n) (tCons te tNil))) Γ P := fun H0 O H σ D e s => by
  obtain ⟨q, xs, f, hq, hp, fa, qf, qO, _⟩ := e.write (es := ds ++ es) hx
  refine ⟨.ref q, hq, .inl ⟨rfl, xs, .inl (.inl hp)⟩, h H0 O H σ e _ fun v H2 r rs => ?_⟩
  obtain ⟨fp, fo, nd, new⟩ := rs
  obtain ⟨b, zs, g, rfl, rfl, hb, fb⟩ := fo.list'
  obtain ⟨_, bb⟩ := fb.flat0 hf
  have e2 := e.on r
  obtain ⟨q', xs', f', hq', hp', fa', qf', qO', wr⟩ := e2.write (es := ds ++ es) hx
  have : q' = q := by rw [hq] at hq'; cases hq'; rfl
  subst this
  have lx : xs'.length = ds.length := (fa'.bo fun a ha => e.okO a (qO' a ha)).len
  refine ⟨q', b, xs', zs, rfl, rfl, hp', hb, by rw [lx, bb.len]; exact sizeOk hl, s _ p O _ σ (wr (xs' ++ zs) ?_)⟩
  have := fa'.app (FoAll.leaves hf bb)
  rw [List.append_nil] at this
  exact this.up (fun _ _ s => sqT_upd hp' s) fun a ha o z => by
    have : a ≠ q' := fun w => qf' (w ▸ ha)
    rw [upd_ne this]; exact z
theorem e_min2 (ha : Ev c ta Γ ka (.int i)) (hb : Ev c tb Γ kb (.int j)) : Ev c (tCB (fun xs H Q => ∃ i j, xs = [V.int i, V.int j] ∧ Q (.int (if j < i then j else i)) H) (tCons ta (tCons tb tNil))) Γ .v (.int (if j < i then j else i)) :=
  d_cb (a_cons ha (a_cons hb a_nil)) fun H O vs Q s q => by
    obtain ⟨y, z, rfl, b1, b2⟩ := s.two
    exact ⟨i, j, by rw [b1.int', b2.int'], q _ H Rr.rf (.int _)⟩
end
abbrev tupD (r : List Int) : PyData := .tuple (r.map .int)
theorem allL_len (v : Int) : ∀ n, (allL v n).length = v.toNat ^ n
  | 0 => rfl
  | n + 1 => by
    unfold allL
    rw [List.length_flatMap, Nat.pow_succ, ← allL_len v n]
    generalize allL v n = l
    induction l with
    | nil => simp
    | cons a l ih => simp [upI] at ih ⊢; rw [Nat.add_mul]; omega
end Lm


/-! own lists within an own list: rows[i][j] = .. -/
namespace Lm
open PySem PySem.Spec PyProof.Rows L2
variable {c : Ct} {H H' H0 H1 H2 H3 : Hp} {O : List Addr} {σ : L2.St} {Γ Γ' Γ1 : List (Option Rs)}
theorem FoAll.nth : ∀ {xs : List V} {ds : List PyData} {f : List Addr} {i : Nat} {d : PyData}, FoAll c H xs ds f → ds[i]? = some d →
    ∃ x g pre post, xs[i]? = some x ∧ Fo c H x d g ∧ f = pre ++ (g ++ post) ∧ ∀ (H' : Hp) (x' : V) (d' : PyData) (g' : List Addr), (∀ a xs, TpN c.K H a xs → TpN c.K H' a xs) → (∀ a ∈ pre ++ post, ∀ o, H a = some o → H' a = some o) → Fo c H' x' d' g' →
      FoAll c H' (xs.set i x') (ds.set i d') (pre ++ (g' ++ post))
  | _, _, _, _, _, .nil, h => by simp at h
  | _, _, _, 0, d, .cons (v := v) (f := f) (fs := fs) a b, h => by
    have e : _ = d := Option.some.inj h
    subst e
    exact ⟨v, f, [], fs, rfl, a, rfl, fun H' x' d' g' hT hk fo => FoAll.cons (f := g') (fs := fs) fo (b.up hT fun y hy => hk y (by simpa using hy))⟩
  | _, _, _, i + 1, d, .cons (v := v) (f := f) (fs := fs) a b, h => by
    obtain ⟨x, g, pre, post, h1, h2, h3, h4⟩ := FoAll.nth (i := i) b (by simpa using h)
    refine ⟨x, g, f ++ pre, post, by simpa using h1, h2, by rw [h3, List.append_assoc], fun H' x' d' g' hT hk fo => ?_⟩
    have r := h4 H' x' d' g' hT (fun y hy o z => hk y (by simp at hy ⊢; rcases hy with w | w <;> simp [w]) o z) fo
    rw [List.append_assoc]
    exact .cons (a.up hT fun y hy => hk y (by simp [hy])) r
end Lm


/-! states, their ways -/
namespace Lm
open PySem PySem.Spec PyProof.Rows L2
section
variable {X : Cx}
end
section
variable {c : Ct} {Γ : List (Option Rs)} {te ta tb : TE} {k ka kb : Kd} {u : TS} {P : Out → Prop} {n : Nat} {i j : Int}
/-- a def without the stream, its first argument drawn -/
theorem n_pure {pre : Pre} {E : XK} {Pa Pd : PyData → Prop} {y : PyData} (ha : EvN c ta Γ ka Pa) (hb : Ev c tb Γ kb y) (hp : ∀ x, Pa x → ∃ d, pre [x, y] k d ∧ Pd d) : EvN c (tCall (spD c.K pre) [] E (tCons ta (tCons tb tNil))) Γ k Pd := fun H0 O H σ e Q q =>
  ha H0 O H σ e _ fun v x H1 px r1 s1 => hb H0 O H1 σ (e.on r1) _ fun w H2 r2 s2 => by
    obtain ⟨d, hpre, pd⟩ := hp x px
    have r := r1.tr r2
    have al : BoAll c H2 [v, w] [x, y] := .cons (Res.bo e (Res.on e r1 r2 s1)) (.cons (Res.bo (e.on r1) s2) .nil)
    refine ⟨[x, y], k, d, al.pure, hpre, fun u H3 sm rt => q u d H3 pd (r.tr (Rr.same sm)) ?_⟩
    have r3 : Rr c H H3 := r.tr (Rr.same sm)
    cases k with
    | v => exact (Bo.flat (c := pc c.K) (c' := c) rfl rt.1 rt.2).flatM e r3 rt.1
    | o =>
      obtain ⟨fp, f, nd, new⟩ := rt
      exact ⟨fp, Fo.ct (c := pc c.K) (c' := c) rfl f, nd, fun a ha => r.back e.jH (new a ha)⟩
    | b => obtain ⟨⟨_, e⟩, _⟩ := rt; exact nomatch e
end
/-- a state whose ways can be counted -/
structure StOk (ns ls es : List Int) : Prop where
  len : ns.length = ls.length
  l1 : ns.length ≤ 1000
  l2 : es.length ≤ 1000
  le : ∀ p ∈ ns.zip ls, 0 ≤ p.2 ∧ p.2 ≤ p.1 ∧ p.1 ≤ 20
  nn : ∀ e ∈ es, 0 ≤ e
  sum : es.sum ≤ 20
end Lm


/-! slices of tuples; min and max of lists; sorted of lists; int of a truth; sums over three lists: what is in the middle -/
namespace Lm
open PySem PySem.Spec PyProof.Rows L2
section
variable {X : Cx} {K : PySem.W.Frag} (hK : X.K = K)
include hK
end
variable {c : Ct} {H H' H0 H1 H2 H3 : Hp} {O : List Addr} {Γ Γ' Γ1 : List (Option Rs)}
variable {te ta tb tx : TE} {tl th : TO} {k ka kb : Kd} {d x y z : PyData} {i j : Int} {a b : Bool} {ds es : List PyData}
def Eo (c : Ct) (t : TO) (Γ : List (Option Rs)) (o : Option Int) : Prop :=
  ∀ H0 O H σ, Env c H0 O H σ Γ → ∀ Q : Option Int → Hp → Prop, (∀ H2, Rr c H H2 → Q o H2) → t σ H Q
theorem o_none : Eo c tNoPart Γ none := fun H0 O H σ e Q q => q H Rr.rf
theorem o_some (h : Ev c te Γ k (.int i)) : Eo c (tPart te) Γ (some i) := fun H0 O H σ e Q q => h H0 O H σ e _ fun v H2 r s => ⟨i, (Res.bo e s).int', q H2 r⟩
def cutD {α : Type} (ds : List α) (lo hi : Option Int) : List α := (ds.drop (HT.sIx ds.length 0 lo)).take (HT.sIx ds.length ds.length hi - HT.sIx ds.length 0 lo)
theorem BoAll.cut {vs : List V} {lo hi : Option Int} (h : BoAll c H vs ds) : BoAll c H (cutV vs lo hi) (cutD ds lo hi) := by
  unfold cutV cutD
  rw [h.len]
  exact (h.drop _).take _
theorem e_sl {lo hi : Option Int} (h : Ev c te Γ .v (.tuple ds)) (h1 : Eo c tl Γ lo) (h2 : Eo c th Γ hi) : Ev c (tSl (rSlN c.K) te tl th) Γ .v (.tuple (cutD ds lo hi)) := fun H0 O H σ e Q q =>
  h H0 O H σ e _ fun v H1 r1 s1 => h1 H0 O H1 σ (e.on r1) _ fun H2 r2 => h2 H0 O H2 σ ((e.on r1).on r2) _ fun H3 r3 => by
    have r : Rr c H H3 := (r1.tr r2).tr r3
    obtain ⟨p, xs, rfl, s, al⟩ := Bo.tup' (Res.on e r1 (r2.tr r3) s1)
    refine ⟨p, xs, rfl, (sqT_same mns_same s).sq, fun w => ?_, fun _ => newTk (c := c) fun p' H4 hp sm tp => ?_⟩
    · refine q (.ref p) H3 r ?_
      have e1 : cutD ds lo hi = ds := by
        unfold cutD
        rw [← al.len, w.1, w.2, al.len]
        simp
      rw [e1]
      exact .tup s al
    · have r4 : Rr c H H4 := r.tr (Rr.same sm)
      exact q _ H4 r4 (.tup (tpN_mns e r4 tp) (al.cut.mono (e.on r).j ((Rr.same sm : Rr c H3 H4).mns (e.on r).j e.okO)))
theorem cutD_lo {α : Type} {ds : List α} {t : Nat} (h : t ≤ ds.length) : cutD ds (some (t : Int)) none = ds.drop t := by
  unfold cutD
  rw [HT.sIx_nat, HT.sIx_none, Nat.min_eq_left h]
  apply List.take_of_length_le
  simp
/-! min and max of a list -/
def mxL : List Int → Int
  | [] => 0
  | [n] => n
  | n :: m :: ns => if mxL (m :: ns) > n then mxL (m :: ns) else n
theorem mxL_mem : ∀ {ns : List Int}, 0 < ns.length → mxL ns ∈ ns
  | [n], _ => by simp [mxL]
  | n :: m :: ns, _ => by
    have := mxL_mem (ns := m :: ns) (by simp)
    unfold mxL
    split
    · exact List.mem_cons_of_mem _ this
    · simp
theorem mxL_le : ∀ {ns : List Int}, ∀ y ∈ ns, y ≤ mxL ns
  | [], _, h => nomatch h
  | [n], y, h => by rw [List.mem_singleton.mp h]; exact Int.le_refl _
  | n :: m :: ns, y, h => by
    unfold mxL
    rcases List.mem_cons.mp h with q | q
    · subst q; split <;> omega
    · have := mxL_le (ns := m :: ns) y q
      split <;> omega
theorem e_intB {b : Bool} (h : Ev c te Γ k (.bool b)) : Ev c (tCB (fun xs H Q => (∃ i, xs = [V.int i] ∧ Q (.int i) H) ∨ ∃ k, xs = [V.bl k] ∧ Q (.int (if k then 1 else 0)) H) (tCons te tNil)) Γ .v (.int (if b then 1 else 0)) :=
  d_cb (a_cons h a_nil) fun H O vs Q s q => by
    obtain ⟨x, rfl, bb⟩ := s.one
    exact .inr ⟨b, by rw [bb.bl'], q _ H Rr.rf (.int _)⟩
theorem sum_is (i : Int) : ∀ ns : List Int, (ns.map fun n => if (decide (n = i)) = true then (1 : Int) else 0).sum = (ns.count i : Nat)
  | [] => rfl
  | n :: ns => by
    rw [List.map_cons, List.sum_cons, sum_is i ns, List.count_cons]
    by_cases h : n = i
    · subst h; simp; omega
    · simp [h]
def sp__law_count (K : PySem.W.Frag) : Sp := spD K fun ds k d => ∃ (ns : List Int) (v : Int), ds = [.tuple (ns.map .int), .int v] ∧ ns.length ≤ 1000 ∧ 0 ≤ v ∧ v ≤ 1000 ∧ k = .v ∧ d = .tuple ((countsI ns v).map .int)
def sp__law_drawn (K : PySem.W.Frag) : Sp := spS K fun ds k P => ∃ v b : Int, ds = [.int v, .int b] ∧ 1 ≤ v ∧ v ≤ 1000 ∧ 0 ≤ b ∧ b ≤ 1000 ∧ k = .v ∧ P = fun d => ∃ ns : List Int, d = .tuple (ns.map .int) ∧ (ns.length : Int) = b ∧ ∀ n ∈ ns, 0 ≤ n ∧ n < v
def sp__law_three (K : PySem.W.Frag) : Sp := spS K fun ds k P => ∃ v b : Int, ds = [.int v, .int b] ∧ 1 ≤ v ∧ v ≤ 1000 ∧ 0 ≤ b ∧ b ≤ 20 ∧ k = .o ∧ P = fun d => ∃ f g h : List Int, d = .list [.tuple (f.map .int), .tuple (g.map .int), .tuple (h.map .int)] ∧ Alc f v b ∧ Alc g v b ∧ Alc h v b
/-- what is over -/
def suI (as bs cs : List Int) : Int := (medI as bs cs).sum - as.sum
def exI (as bs cs : List Int) : Int := if 0 > suI as bs cs then 0 else suI as bs cs
def sp_surplus (K : PySem.W.Frag) : Sp := spD K fun ds k d => ∃ (as bs cs : List Int) (v b : Int), ds = [.tuple (as.map .int), .tuple (bs.map .int), .tuple (cs.map .int)] ∧ Alc as v b ∧ Alc bs v b ∧ Alc cs v b ∧ 1 ≤ v ∧ v ≤ 5 ∧ b ≤ 20 ∧ k = .v ∧ d = .int (suI as bs cs)
def sp_excess (K : PySem.W.Frag) : Sp := spD K fun ds k d => ∃ (as bs cs : List Int) (v b : Int), ds = [.tuple (as.map .int), .tuple (bs.map .int), .tuple (cs.map .int)] ∧ Alc as v b ∧ Alc bs v b ∧ Alc cs v b ∧ 1 ≤ v ∧ v ≤ 5 ∧ b ≤ 20 ∧ k = .v ∧ d = .int (exI as bs cs)
theorem alc_counts {ns : List Int} {v : Int} (hr : ∀ n ∈ ns, 0 ≤ n ∧ n < v) (hv : 0 ≤ v) : Alc (countsI ns v) v ns.length := by
  refine ⟨by rw [countsI_len]; omega, ?_, fun n hn => ?_⟩
  · exact count_sum v.toNat ns fun n hn => by have := hr n hn; omega
  · obtain ⟨i, _, rfl⟩ := List.mem_map.mp hn
    omega
/-! sums over three lists -/
variable {F : Int → Int → Int → Int} {as bs cs as' bs' cs' : List Int}
variable {f g h : List Int} {v m : Int}
end Lm


/-! states, what can come next, and the ways on: the least changes -/
namespace Lm
open PySem PySem.Spec PyProof.Rows L2
abbrev gI (l : List Int) (i : Int) : Int := l.getD i.toNat 0
structure S3 where
  c : List Int
  l : List Int
  e : List Int
/-- a state that stands before the buckets f -/
structure St (v : Int) (S : S3) (f : List Int) : Prop where
  cl : (S.c.length : Int) = v
  ll : (S.l.length : Int) = v
  el : (S.e.length : Int) = v
  cs : ∀ i, 0 ≤ i ∧ i < v → gI S.c i = f.count i
  ls : ∀ i, 0 ≤ i ∧ i < v → 0 ≤ gI S.l i ∧ gI S.l i ≤ f.count i
  es : ∀ i, 0 ≤ i ∧ i < v → 0 ≤ gI S.e i ∧ (gI S.l i = 0 ∨ gI S.e i = 0)
  sum : S.l.sum = S.e.sum
  rng : ∀ n ∈ f, 0 ≤ n ∧ n < v
variable {v o n : Int} {S : S3} {f g : List Int}
theorem St.enn (h : St v S f) : ∀ n ∈ S.e, 0 ≤ n := fun n hn => by
  obtain ⟨k, hk, rfl⟩ := List.getElem_of_mem hn
  have := (h.es (k : Int) (by have := h.el; omega)).1
  unfold gI at this
  rw [Int.toNat_natCast, gd_lt hk] at this
  exact this
/-- a list comes before another, or is it -/
def lexLe : List Int → List Int → Prop
  | [], _ => True
  | _ :: _, [] => False
  | a :: as, b :: bs => a < b ∨ (a = b ∧ lexLe as bs)
/-! the state at the start -/
variable {as : List Int}
end Lm


/-! the choices of a bucket; the order of all assignments -/
namespace Lm
open PySem PySem.Spec PyProof.Rows L2
variable {v o n : Int} {S : S3} {f g f1 f2 g1 g2 as : List Int}
/-! the order of all assignments -/
def lexLt : List Int → List Int → Prop
  | a :: as, b :: bs => a < b ∨ (a = b ∧ lexLt as bs)
  | _, _ => False
theorem lexLt.le : ∀ {as bs : List Int}, lexLt as bs → lexLe as bs
  | [], _, _ => trivial
  | _ :: _, [], h => h.elim
  | a :: as, b :: bs, h => by
    unfold lexLt at h
    unfold lexLe
    rcases h with h | ⟨e, h⟩
    · exact .inl h
    · exact .inr ⟨e, h.le⟩
end Lm


/-! lists put together; promises about states, choices, and the least changes gone through -/
namespace Lm
open PySem PySem.Spec PyProof.Rows L2
section
variable {c : Ct} {H H' H0 H1 H2 H3 : Hp} {O : List Addr} {Γ Γ' Γ1 : List (Option Rs)}
variable {te ta tb tx : TE} {k ka kb : Kd} {d x y z : PyData} {i j : Int} {ds es : List PyData}
theorem flatAll_app (h : flatAll ds = true) (g : flatAll es = true) : flatAll (ds ++ es) = true := flatAll_mem fun d hd => by
  rcases List.mem_append.mp hd with w | w
  · exact flatAll_one h w
  · exact flatAll_one g w
end
theorem i_rows {c : Ct} {Γ : List (Option Rs)} {tl : TE} {k : Kd} {l : List (List Int)} (h : Ev c tl Γ k (.list (l.map tupD))) (hk : k ≠ .b) : EvI c (iSeq c.K tl) Γ true (l.map tupI) := by
  have := i_seqL h hk
  rwa [List.map_map] at this
variable {v o n : Int} {S : S3} {f g as : List Int}
def sp__law_all (K : PySem.W.Frag) : Sp := spD K fun ds k d => ∃ v b : Int, ds = [.int v, .int b] ∧ 1 ≤ v ∧ v ≤ 5 ∧ 0 ≤ b ∧ b ≤ 6 ∧ k = .o ∧ d = .list ((allL v b.toNat).map tupD)
theorem allL_small5 {n : Nat} (hv : v ≤ 5) (hn : n ≤ 6) : (allL v n).length ≤ 15625 := by
  rw [allL_len]
  exact Nat.le_trans (Nat.pow_le_pow_left (by omega : v.toNat ≤ 5) n) (Nat.pow_le_pow_right (by decide) hn)
end Lm


/-! list.index, list.count, in: over data; the first change and its promises -/
namespace L2
open PySem PySem.Spec PyProof.Rows
section
variable {X : Cx}
end
end L2
namespace Lm
open PySem PySem.Spec PyProof.Rows L2
section
variable {X : Cx} {K : PySem.W.Frag} (hK : X.K = K)
include hK
end
section
variable {c : Ct} {H H' H0 H1 H2 H3 : Hp} {O : List Addr} {Γ Γ' Γ1 : List (Option Rs)}
variable {te ta tb tx : TE} {tr : TA} {k ka kb : Kd} {d x y z : PyData} {i j : Int} {ds es : List PyData}
end
/-! promises -/
variable {v o n : Int} {S : S3} {f g as : List Int}
end Lm
namespace Lm
open PySem PySem.Spec PyProof.Rows L2
end Lm
namespace Lm
open PySem PySem.Spec PyProof.Rows L2
variable {c : Ct} {Γ : List (Option Rs)} {ta tb : TE} {ka kb : Kd}
end Lm


/-! found.append(left.pop(..)); orders as lists -/
namespace Lm
open PySem PySem.Spec PyProof.Rows L2
section
variable {c : Ct} {H H' H0 H1 H2 H3 : Hp} {O : List Addr} {Γ Γ' Γ1 : List (Option Rs)}
variable {te ta tb tx : TE} {tr : TA} {u : TS} {k ka kb : Kd} {d x y z : PyData} {i j : Int} {ds es : List PyData} {P : Out → Prop}
theorem bo_erase {xs : List V} {ds : List PyData} (h : BoAll c H xs ds) : ∀ k : Nat, BoAll c H (xs.eraseIdx k) (ds.eraseIdx k) := by
  induction xs generalizing ds with
  | nil => intro k; cases h; simp; exact .nil
  | cons v vs ih =>
    cases h with
    | cons b bs =>
      intro k
      cases k with
      | zero => exact bs
      | succ k => exact .cons b (ih bs k)
theorem flat_erase (h : flatAll ds = true) (k : Nat) : flatAll (ds.eraseIdx k) = true := flatAll_mem fun d hd => flatAll_one h (List.mem_of_mem_eraseIdx hd)
end
end Lm


/-! what lies between; all allocations; bridges -/
namespace Lm
open PySem PySem.Spec PyProof.Rows L2
variable {v b : Int} {f g h m x y : List Int}
/-! all allocations -/
/-- m lies between x and y -/
def btwB (m x y : List Int) : Bool := decide (trI x m + trI m y = trI x y)
def sp_lies_between (K : PySem.W.Frag) : Sp := spD K fun ds k d => ∃ (m x y : List Int) (v b : Int), ds = [.tuple (m.map .int), .tuple (x.map .int), .tuple (y.map .int)] ∧ Alc m v b ∧ Alc x v b ∧ Alc y v b ∧ 1 ≤ v ∧ v ≤ 5 ∧ b ≤ 20 ∧ k = .v ∧ d = .bool (btwB m x y)
def brD (f g h : List Int) : PyData := if suI f g h = 0 then .tuple ((medI f g h).map .int) else .none
def sp_bridge (K : PySem.W.Frag) : Sp := spD K fun ds k d => ∃ (as bs cs : List Int) (v b : Int), ds = [.tuple (as.map .int), .tuple (bs.map .int), .tuple (cs.map .int)] ∧ Alc as v b ∧ Alc bs v b ∧ Alc cs v b ∧ 1 ≤ v ∧ v ≤ 5 ∧ b ≤ 20 ∧ k = .v ∧ d = brD as bs cs
end Lm


/-! all ways on: by number, their numbers, the next one -/
namespace Lm
open PySem PySem.Spec PyProof.Rows L2
variable {v o n : Int} {S : S3} {f g : List Int}
/-! by number -/
/-! the number -/
/-! the next one -/
theorem sum_le_pt : ∀ {as bs : List Int}, as.length = bs.length → (∀ j, j < as.length → as.getD j 0 ≤ bs.getD j 0) → as.sum ≤ bs.sum
  | [], [], _, _ => Int.le_refl _
  | a :: as, b :: bs, hl, h => by
    have h0 := h 0 (by simp)
    have := sum_le_pt (as := as) (bs := bs) (by simpa using hl) fun j hj => h (j + 1) (by simpa using hj)
    rw [List.sum_cons, List.sum_cons]
    have h0' : a ≤ b := h0
    omega
  | [], _ :: _, h, _ => by simp at h
  | _ :: _, [], h, _ => by simp at h
theorem St.ok (h : St v S f) (h20 : f.length ≤ 20) (h5 : v ≤ 5) : StOk S.c S.l S.e := by
  have cl := h.cl
  have ll := h.ll
  have el := h.el
  have cg : ∀ j, j < S.c.length → S.c.getD j 0 = f.count (j : Int) := fun j hj => by
    have := h.cs (j : Int) (by omega)
    unfold gI at this
    rwa [Int.toNat_natCast] at this
  have cs : S.c.sum = f.length := by
    have e : S.c = (upI 0 v.toNat).map fun i => (f.count i : Int) := by
      apply List.ext_getElem
      · simp [upI]; omega
      · intro i h1 h2
        have := cg i h1
        rw [gd_lt h1] at this
        rw [this]
        simp [upI]
    rw [e]
    exact count_sum v.toNat f fun n hn => by have := h.rng n hn; omega
  refine ⟨by omega, by omega, by omega, fun p hp => ?_, h.enn, ?_⟩
  · obtain ⟨i, hi, rfl⟩ := List.getElem_of_mem hp
    have i1 : i < S.c.length := by simp at hi; omega
    have i2 : i < S.l.length := by omega
    rw [List.getElem_zip]
    have a1 := cg i i1
    have a2 := h.ls (i : Int) (by omega)
    unfold gI at a2
    rw [Int.toNat_natCast, gd_lt i2] at a2
    rw [gd_lt i1] at a1
    have a3 : f.count (i : Int) ≤ f.length := List.count_le_length
    show 0 ≤ S.l[i] ∧ S.l[i] ≤ S.c[i] ∧ S.c[i] ≤ 20
    omega
  · rw [← h.sum]
    have := sum_le_pt (as := S.l) (bs := S.c) (by omega) fun j hj => by
      have a2 := h.ls (j : Int) (by omega)
      unfold gI at a2
      rw [Int.toNat_natCast] at a2
      have := cg j (by omega)
      omega
    omega
end Lm


/-! list(zip(a, b)), a and b tuples -/
namespace PySem.F
end PySem.F
namespace Lm
open PySem PySem.Spec PyProof.Rows L2
section
variable {prog : Program} {w : World} {A : Around} {E : Value → Shared → Prop} {s : Shared}
end
section
variable {prog : Program} {w : World} {A : Around} {R : Result → Shared → Prop}
end
section
variable {prog : Program} {w : World} {A : Around} {E : Value → Shared → Prop} {s : Shared}
end
end Lm
namespace Lm
open PySem PySem.Spec PyProof.Rows L2
section
variable {X : Cx} {K : PySem.W.Frag} (hK : X.K = K)
include hK
end
section
variable {c : Ct} {H H' : Hp} {Γ : List (Option Rs)} {tr : TA} {ds es : List PyData} {kv : Bool}
end
end Lm


/-! slices of tuples or lists, a range kept in a name, enumerate of a new list -/
namespace Lm
open PySem PySem.Spec PyProof.Rows L2
section
variable {X : Cx} {tg : Expr}
end
section
variable {X : Cx} {K : PySem.W.Frag} (hK : X.K = K)
include hK
end
section
variable {c : Ct} {H H' H0 H1 H2 H3 : Hp} {O : List Addr} {Γ Γ' Γ1 : List (Option Rs)}
variable {te ta tb tx : TE} {tl th : TO} {k ka kb : Kd} {d x y z : PyData} {i j : Int} {a b : Bool} {ds es : List PyData} {u : TS} {P : Out → Prop} {n : Nat} {kv : Bool} {tr : TA}
theorem i_enumLO (h : Ev c te Γ k (.list ds)) (hk : k ≠ .b) : EvI c (iEnumA c.K (tCons te tNil)) Γ true (enumI ds) := fun H0 O H σ e R q =>
  h H0 O H σ e _ fun v H1 r s => by
    obtain ⟨p, xs, rfl, kp, sl, al⟩ := (Res.frozen e r s hk).lst'
    exact ⟨p, xs, rfl, .inl ⟨mns_same.seq sl, q _ H1 r (enum_core (e.on r).j (walk_enum.mono (fun H h => h.lst kp sl) fun _ _ _ _ _ _ y => y) al (.inl rfl))⟩⟩
end
end Lm


/-! series of allocations: their steps, losses, turns -/
namespace Lm
open PySem PySem.Spec PyProof.Rows L2
structure Ser (A : List (List Int)) (v b : Int) : Prop where
  l1 : 1 ≤ A.length
  l2 : A.length ≤ 10
  alc : ∀ a ∈ A, Alc a v b
  v1 : 1 ≤ v
  v5 : v ≤ 5
  b20 : b ≤ 20
variable {A : List (List Int)} {v b : Int}
theorem Ser.len (h : Ser A v b) : ∀ a ∈ A, a.length = v.toNat := fun a ha => by have := (h.alc a ha).len; omega
end Lm


/-! series: the promises -/
namespace Lm
open PySem PySem.Spec PyProof.Rows L2
section
variable {c : Ct} {H H' H0 H1 H2 H3 : Hp} {O : List Addr} {Γ Γ' Γ1 : List (Option Rs)}
variable {te ta tb tx : TE} {k ka kb : Kd} {d x y z : PyData} {ds es : List PyData} {u : TS} {P : Out → Prop} {n : Nat}
end
theorem fl_rows (A : List (List Int)) : flatAll (A.map tupD) = true := flatAll_mem fun d hd => by
  obtain ⟨r, _, rfl⟩ := List.mem_map.mp hd
  exact flatT r
end Lm
namespace Lm
open PySem PySem.Spec PyProof.Rows L2
theorem i_enumL' {c : Ct} {Γ : List (Option Rs)} {te : TE} {k : Kd} {ds : List PyData} {items : List Im} (h : Ev c te Γ k (.list ds)) (hk : k ≠ .b) (e : enumI ds = items) : EvI c (iEnumA c.K (tCons te tNil)) Γ true items := e ▸ i_enumLO h hk
end Lm
namespace Lm
open PySem PySem.Spec PyProof.Rows L2
end Lm
namespace Lm
open PySem PySem.Spec PyProof.Rows L2
end Lm
namespace Lm
open PySem PySem.Spec PyProof.Rows L2
end Lm


/-! lists that hold lists of one's own; any item of a list handed back; forms of any data -/
namespace Lm
open PySem PySem.Spec PyProof.Rows L2
section
variable {c : Ct} {H H' H0 H1 H2 H3 : Hp} {O : List Addr} {Γ Γ' Γ1 : List (Option Rs)}
variable {te ta tb tx : TE} {k ka kb kx : Kd} {d x y z : PyData} {ds es : List PyData} {u : TS} {P : Out → Prop} {n : Nat} {tr : TA} {i : Int}
end
/-- each value once -/
def dd : List Int → List Int
  | [] => []
  | n :: l => if n ∈ l then dd l else n :: dd l
end Lm
namespace Lm
open PySem PySem.Spec PyProof.Rows L2
section
variable {c : Ct} {Γ : List (Option Rs)} {t u w : TS} {P : Out → Prop}
end
end Lm
namespace Lm
open PySem PySem.Spec PyProof.Rows L2
theorem s_seqE {c : Ct} {Γ : List (Option Rs)} {t u : TS} {P : Out → Prop} (I : List (Option Rs) → Prop) (h : Sd c t Γ (fun o => ∃ Γ3, o = .nx Γ3 ∧ I Γ3)) (hd : ∀ Γ3, I Γ3 → Sd c u Γ3 P) : Sd c (tSeq t u) Γ P :=
  s_seq h (fun _ e => by obtain ⟨Γ3, e, i⟩ := e; cases e; exact hd _ i) (fun _ _ e => by obtain ⟨_, e, _⟩ := e; cases e) (fun _ e => by obtain ⟨_, e, _⟩ := e; cases e) (fun _ e => by obtain ⟨_, e, _⟩ := e; cases e)
end Lm


/-! defs that raise: promises with a second half -/
namespace Lm
open PySem PySem.Spec PyProof.Rows L2
section
variable {P : Program} {w : World} {K : PySem.W.Frag} {mg : Str → Option Value} {base : Heap} {k : Nat} {f : Addr} {fd : FuncData} {ps : List Str} {sp : Sp} {x : Str} {CX : CXT}
/-- what never raises does so in any context -/
theorem fn_up0 (F : FnOk P w K mg base CX0 k f fd ps sp) : FnOk P w K mg base CX k f fd ps sp :=
  ⟨F.len, fun A outer s H args us vs Q E hr he hb hv hs => codeAny_mono (F.run A outer s H args us vs Q E hr he hb hv hs) fun r s' h => by
    cases r with
    | ok fl => cases fl <;> exact h
    | error e => exact False.elim h⟩
theorem cal_up0 (F : Cal P w K mg base CX0 k x ps sp) : Cal P w K mg base CX k x ps sp := by
  obtain ⟨f, fd, F1, F2⟩ := F.ok
  exact ⟨f, fd, fn_up0 F1, F2⟩
end
/-- __init__ of an exception that keeps a text at x -/
def spIni (C : Addr) (x : Str) : Sp := fun vs H Q _ => ∃ (a : Addr) (nm : Str), vs = [.ref a, .str nm] ∧ nm.length ≤ 1000 ∧ H a = some (exo a C none) ∧ ∀ dx, H dx = none → dx ≠ a → Q .non (upd (upd H dx (exd dx [(x, .str nm)])) a (exo a C (some dx)))
/-- it holds, or the name is raised -/
def spReq (C : Addr) : Sp := fun vs H Q E => ∃ (b : Bool) (nm : Str), vs = [.bl b, .str nm] ∧ nm.length ≤ 1000 ∧ (b = true → Q .non H) ∧ (b = false → ∀ dx, H dx = none → E (.ref C) (some dx) (upd H dx (.xd [("name", .str nm)])))
theorem upd_end {H : Hp} {a dx : Addr} {o o2 o3 : HO} {u : HO} (ha : H a = none) (hd : dx ≠ a) : upd (del (upd (upd (upd H a o) dx o2) a o3) a) dx u = upd H dx u := by
  funext b
  by_cases h1 : b = dx
  · subst h1; rw [upd_same, upd_same]
  · rw [upd_ne h1, upd_ne h1]
    by_cases h2 : b = a
    · subst h2; rw [del_same, ha]
    · rw [del_ne h2, upd_ne h2, upd_ne h1, upd_ne h2]
/-- raise C(e) where e is a text -/
theorem mkO_req {C : Addr} {ta : TE} {σ : L2.St} {H : Hp} {Q : XK} {nm : Str} (hz : nm.length ≤ 1000) (h : ∀ Q' : VK, Q' (.str nm) H → ta σ H Q') (q : ∀ dx, H dx = none → Q (.ref C) (some dx) (upd H dx (.xd [("name", .str nm)]))) :
    tMkO C (spIni C "name") [] (tCons ta tNil) σ H Q := by
  refine h _ ⟨by simp, fun a ha => ⟨a, nm, rfl, hz, upd_same, fun dx hdx hne => ⟨rfl, dx, [("name", .str nm)], upd_same, ?_, ?_, ?_⟩⟩⟩
  · rw [upd_ne hne, upd_same]
  · rw [upd_ne hne] at hdx; exact hdx
  · rw [upd_ne hne] at hdx
    rw [upd_end ha hne]
    exact q dx hdx
end Lm
namespace Lm
open PySem PySem.Spec PyProof.Rows L2
section
variable {P : Program} {w : World} {K : PySem.W.Frag} {mg : Str → Option Value} {base : Heap} {k : Nat} {f : Addr} {fd : FuncData} {ps : List Str} {sp : Sp}
/-- nothing gets out of it -/
theorem fn_down0 (h : ∀ vs H Q E, sp vs H Q E → sp vs H Q E0) (F : FnOk P w K mg base (L2.CX P w) k f fd ps sp) : FnOk P w K mg base CX0 k f fd ps sp :=
  ⟨F.len, fun A outer s H args us vs Q E hr he hb hv hs => codeAny_mono (F.run A outer s H args us vs Q E0 hr he hb hv (h _ _ _ _ hs)) fun r s' h => by
    cases r with
    | ok fl => cases fl <;> exact h
    | error e =>
      obtain ⟨_, _, _, _, _, _, _, _, _, _, _, _, z⟩ := h
      exact z.elim⟩
end
end Lm
namespace Lm
open PySem PySem.Spec PyProof.Rows L2
section
variable {c : Ct} {H0 : Hp} {Γ : List (Option Rs)} {te : TE} {u : TS} {k : Kd} {d : PyData} {n : Nat}
/-- a body that ends in a raise: whatever stands behind -/
def SdX (c : Ct) (H0 : Hp) (t : TS) (Γ : List (Option Rs)) : Prop := ∀ O H σ D, Env c H0 O H σ Γ → t D σ H
theorem x_drop (h : Ev c te Γ k d) (p : SdX c H0 u Γ) : SdX c H0 (tSeq (tDrop te) u) Γ := fun O H σ D e => h H0 O H σ e _ fun v H2 r q => p O H2 σ D (e.on r)
end
end Lm


/-! __init__ of an exception class two below ValueError: super().__init__(..) and what stands behind it -/
namespace PySem.W
open PySem PySem.Calls PyProof.Rows PyProof.V PySem.Spec
theorem call_mwr {prog : Program} {w : World} {A : Around} {E : Value → Shared → Prop} {h : Heap} {g : Array GenState} {d : Drawn} {t : Nat} {os : OsState} {nm q : Str} {C N u e t0 : Addr} {bs bm bmB : List Value} {hdct : Bool} {sn : List Str} {sub : List Value} {ab : Bool} {col : Option Bool} {dd dv : Option Addr}
    {k0 k1 k2 k3 k5 : Option Value} {c2 : Value} {B newId i : String} {rest : List Value} {Q : Value → Shared → Prop} (FB : ExcBaseFacts B newId i bmB) (hC : h.get? C = some (excClassObj nm q C N bs bm hdct sn sub ab col dd k0 k1 k2 k3 k5 newId))
    (he : h.get? e = some (excObj C t0 dv c2)) (hu : h.get? u = some (kxs_mw i e)) (hz : rest.length ≤ sizeLine)
    (fin : ∀ h', (∀ b o, b ≠ e → h.get? b = some o → h'.get? b = some o) → h'.get? e = some (excObj C h.objs.size dv c2) → Q .none ⟨h', g, d, t, os⟩) : wpAny (model prog w) A (call (.ref u) rest) Q E ⟨h, g, d, t, os⟩ := by
  refine wpAny_call (codeAny_of_tree ?_)
  show wpAny _ A.in1 (callAny (.ref u) ⟨rest, []⟩) _ _ _
  simp only [callAny]
  refine wpAny_bind (wpAny_load hu ?_)
  simp only [kxs_mw, show (Value.type "method-wrapper" == Value.type "method" || Value.type "method-wrapper" == Value.type "builtin_function_or_method" || Value.type "method-wrapper" == Value.type "method-wrapper") = true by decide, if_true]
  refine KFB.if_so (by decide) ?_
  refine wpAny_bind (check_bound_init FB.toExcCallFacts hC he rfl ?_)
  refine wpAny_bind (wpAny_pure (wpAny_pure ?_))
  refine ⟨plainId_quiet FB.init.plain _, codeAny_builtin FB.initEntry ?_⟩
  exact exc_init_tree (cls := .ref C) (t0 := t0) (dv := dv) (c2 := c2) (c3 := .none) (b4 := .bool false) he hz fun h' k e' _ => fin h' k e'
end PySem.W
namespace Lm
open PySem PySem.Spec PyProof.Rows L2
/-- the context of such a def's body: the class's cell is free in it -/
def cxF (CX : CXT) (P : Program) (w : World) (K : PySem.W.Frag) (mg : Str → Option Value) (base : Heap) (N : List Str) (qual : Str) (scope : Scope) (f : Addr) (cd : Value) (cc : Addr) (A : Around) (outer : List PySem.Env) (s : Shared) (H : Hp) (E : XK) : Cx where
  prog := P
  w := w
  K := K
  mg := mg
  base := base
  A := A.deeper (PySem.W.ksEnv qual scope s.heap.objs.size f cd cc)
  N := N
  s_0 := s
  H_0 := H
  env := PySem.W.ksEnv qual scope s.heap.objs.size f cd cc
  outer := outer
  stack := PySem.W.ksEnv qual scope s.heap.objs.size f cd cc :: outer
  ex := []
  calm := true
  fn := fun _ => false
  pn := []
  xe := fun e s' => wpAny (model P w) (A.deeper (PySem.W.ksEnv qual scope s.heap.objs.size f cd cc)) (leaving (PySem.W.ksEnv qual scope s.heap.objs.size f cd cc) e) (fun _ s'' => CX outer H s E e s'') (fun e' s'' => CX outer H s E e' s'') s'
/-- its scope -/
structure IniScope (N P : List Str) (sc : Scope) : Prop where
  kind : sc.kind = .function
  co : sc.isCoroutine = false
  gen : sc.isGenerator = false
  nd : N.Nodup
  pre : N.take P.length = P
  par : ∀ x ∈ P, sc.names.lookup x = some .local
  nocell : ∀ y ∈ sc.names, y.2 ≠ .cell
  free : ∀ y ∈ sc.names, y.2 = .free → y.1 = "__class__"
  sup : sc.names.lookup ("super" : Str) = some .globalImplicit
  cls : sc.names.lookup ("__class__" : Str) = some .free
theorem lookup_mem : ∀ {l : List (Str × Value)} {x : Str} {v : Value}, (l.map (·.1)).Nodup → (x, v) ∈ l → l.lookup x = some v
  | [], _, _, _, h => nomatch h
  | (y, u) :: l, x, v, nd, h => by
    have nd' := List.nodup_cons.mp nd
    by_cases e : x = y
    · subst e
      rcases List.mem_cons.mp h with z | z
      · cases z; simp [List.lookup]
      · exact absurd (List.mem_map_of_mem (f := (·.1)) z) nd'.1
    · have e' : (x == y) = false := by simpa using e
      rcases List.mem_cons.mp h with z | z
      · cases z; exact absurd rfl e
      · simp only [List.lookup, e']
        exact lookup_mem nd'.2 z
theorem cell1 {x : Str} {c cc : Addr} (h : [(("__class__" : Str), cc)].lookup x = some c) : x = "__class__" ∧ c = cc := by
  by_cases e : x = "__class__"
  · subst e
    exact ⟨rfl, (Option.some.inj (by simpa [List.lookup] using h)).symm⟩
  · have e' : (x == ("__class__" : Str)) = false := by simpa using e
    simp [List.lookup, e'] at h
theorem inv_startF {CX : CXT} {P : Program} {w : World} {K : PySem.W.Frag} {mg : Str → Option Value} {base : Heap} {N ps : List Str} {qual : Str} {scope : Scope} {f cc : Addr} {cd : Value} {A : Around} {outer : List PySem.Env} {s : Shared} {h1 : Heap} {tk : Nat} {H : Hp} {E : XK} {us : List Value} {vs : List V} {cl : Value} {cld : Option Addr} {cv : Option Value} {csl : Array (Option Value)}
    (S : IniScope N ps scope) (hcell : K.lookup cc = some ⟨cl, cld, .cell cv, csl⟩) (hd : A.handled = none) (e0 : Env0 P w K mg base A outer s H) (hl : vs.length = ps.length) (r : Vals vs us)
    (hns : h1.Ns s.heap.objs.size (fun x => (ps.zip us).reverse.lookup x)) (hk : ∀ b o, s.heap.get? b = some o → h1.get? b = some o) :
    Inv (cxF CX P w K mg base N qual scope f cd cc A outer s H E) [] (L2.start N vs) H { s with heap := h1, toks := tk } := by
  have hpl : ps.length ≤ N.length := by have := congrArg List.length S.pre; rw [List.length_take] at this; omega
  have hb : base.get? cc = some ⟨cl, cld, .cell cv, csl⟩ := e0.mod.kin _ _ hcell
  have hs := e0.bs _ _ hb
  have noA : ∀ b : Addr, b ∉ (cxF CX P w K mg base N qual scope f cd cc A outer s H E).ex := fun b z => absurd (show b ∈ ([] : List Addr) from z) (by simp)
  refine ⟨⟨e0.mod, S.kind, rfl, rfl, Nat.le_refl _, fun y z c p q => ((cell1 p).1.trans (cell1 q).1.symm), fun y hy => ?_, fun y c z _ => (nomatch z), fun _ => hd, Around.frames_deeper e0.frames, .inr ⟨rfl, rfl⟩, fun b z => absurd z (noA b), e0.bs, e0.bsz, fun b _ _ => noA b, fun b z => absurd z (noA b), e0.funs, e0.frf⟩,
    rfl, e0.bare, Un.kept hk, ⟨_, hns, fun i y v p q z => ?_⟩, fun y c z => ?_, e0.hok.fresh (Nat.le_refl _), fun y c z => ?_, fun p hp => absurd (show p ∈ ([] : List (Addr × Obj)) from hp) (by simp), e0.hok.kept hk, ?_⟩
  · have hy : scope.names.lookup y = some .cell ∨ scope.names.lookup y = some .free := hy
    rcases hy with hy | hy
    · exact absurd rfl (S.nocell _ (PySem.mem_of_lookup hy))
    · have e := S.free _ (PySem.mem_of_lookup hy) rfl
      exact ⟨cc, by
        have e' : y = "__class__" := e
        subst e'
        show [(("__class__" : Str), cc)].lookup ("__class__" : Str) = some cc
        simp [List.lookup]⟩
  · have hi : i < vs.length := by
      unfold L2.start at q
      by_cases hi : i < vs.length
      · exact hi
      · rw [List.getElem?_append_right (by simpa using hi), List.getElem?_replicate] at q
        split at q <;> cases q
    have ha : vs[i]? = some v := by
      unfold L2.start at q
      rw [List.getElem?_append_left (by simpa using hi), List.getElem?_map] at q
      cases e : vs[i]? with
      | none => rw [e] at q; cases q
      | some a => rw [e] at q; cases q; rfl
    obtain ⟨u, hu, rv⟩ := r.get ha
    have hp : ps[i]? = some y := by
      rw [← S.pre, List.getElem?_take_of_lt (by omega)]; exact p
    have ndP : ps.Nodup := by rw [← S.pre]; exact S.nd.sublist (List.take_sublist _ _)
    have ml : (y, u) ∈ ps.zip us := by
      have : (ps.zip us)[i]? = some (y, u) := by rw [List.getElem?_zip_eq_some]; exact ⟨hp, hu⟩
      exact List.mem_of_getElem? this
    have lz : us.length = ps.length := by rw [← hl, Paired.length r]
    refine ⟨u, rv, .inl ⟨S.par y (List.mem_of_getElem? hp), lookup_mem ?_ (List.mem_reverse.mpr ml)⟩⟩
    rw [List.map_reverse, List.map_fst_zip (by omega)]
    exact (List.reverse_perm ps).nodup_iff.mpr ndP
  · obtain ⟨_, rfl⟩ := cell1 z
    exact ⟨cv, _, hk _ _ hs.1, rfl⟩
  · obtain ⟨_, rfl⟩ := cell1 z
    exact hs.2
  · unfold L2.start
    show _ = N.length
    rw [List.length_append, List.length_map, List.length_replicate]
    omega

theorem super_boot : bootBuiltins "super" = some (.type "super") := by first | rfl | decide +kernel
/-- THE RULE: super().__init__(e), then the rest of the body -/
theorem fn_super {CX : CXT} {P : Program} {w : World} {K : PySem.W.Frag} {mg : Str → Option Value} {base : Heap} {k : Nat} {f C cc cda : Addr} {name qual : Str} {params : Arguments} {scope : Scope} {dV kV doc pm ct oc : Value} {an od : Option Addr} {osl : Array (Option Value)} {N ps : List Str} {sp : Sp}
    {p0 p1 p2 p3 p4 : Pos} {e : Expr} {rest : List Stmt} {ar : Arg} {vs : Array Value} {file : Str} {tf : Tok} {ccl cl : Value} {cdd cld : Option Addr} {ccs csl : Array (Option Value)}
    (lk : K.lookup f = some ⟨oc, od, .func (PySem.W.ksFn name qual params (.Expr (.Call (.Attribute (.Call (.Name "super" p0) [] [] p1) "__init__" p2) [e] [] p3) p4 :: rest) scope dV kV doc pm an (.ref cda) ct cc), osl⟩)
    (hcd : PySem.W.codeIn K (.ref cda) qual = true) (S : IniScope N ps scope) (hp : (params.posonlyargs ++ params.args).head? = some ar) (h0 : ps[0]? = some ar.arg)
    (hcode : K.lookup cda = some ⟨ccl, cdd, .fields vs, ccs⟩) (hvs : vs[2]? = some (.str file tf)) (hfile : ((P.main.file : Str) == file) = true) (hcell : K.lookup cc = some ⟨cl, cld, .cell (some (.ref C)), csl⟩)
    (T : OexC K C) (hsuper : mg "super" = none) (hsub : PySem.W.subIn K (.ref C) (.type "ValueError") = some true) (hop : PySem.W.nsIn K cStatics "thirdparty.any" = some none)
    (hm : PySem.W.ks_superIn K C C "__init__" = some (some (.builtin "ValueError.__init__"))) (htop : (P.main.scope.names.lookup ("super" : Str)).isSome = false)
    (len : ∀ vs H Q E, sp vs H Q E → vs.length = ps.length)
    (hbody : ∀ (A : Around) (outer : List PySem.Env) (s : Shared) (H : Hp) (vs : List V) (Q : VK) (E : XK), Room k (A.deeper (PySem.W.ksEnv qual scope s.heap.objs.size f (.ref cda) cc)) → sp vs H Q E →
      ∃ (a : Addr) (ws : List V) (te : TE) (t : TS), vs = .ref a :: ws ∧ H a = some (exo a C none) ∧ PE (cxF CX P w K mg base N qual scope f (.ref cda) cc A outer s H E) e te ∧ PSs (cxF CX P w K mg base N qual scope f (.ref cda) cc A outer s H E) rest t ∧
        te (L2.start N vs) H fun _ H1 => H1 a = some (exo a C none) ∧ t { nx := fun _ H' => Q .non H', rt := Q } (L2.start N vs) H1)
    {pl : PySem.Env → Sem Bool}
    (hme : ∀ env : PySem.Env, eval (.Call (.Attribute (.Call (.Name "super" p0) [] [] p1) "__init__" p2) [e] [] p3) env = (do
      let ov ← attributeBase (.Call (.Name "super" p0) [] [] p1) "__init__" env (eval (.Call (.Name "super" p0) [] [] p1) env)
      standAt p2.atName
      let (f, first) ← holding [ov] (getMethod ov "__init__" (pl env))
      callWith p3 f first (backTo p3 (starEach [e] env)) []) := by intro env; rfl)
    (he : ∀ env : PySem.Env, starEach [e] env = [(false, eval e env)] := by intro env; rfl) :
    FnOk P w K mg base CX (k + 1) f (PySem.W.ksFn name qual params (.Expr (.Call (.Attribute (.Call (.Name "super" p0) [] [] p1) "__init__" p2) [e] [] p3) p4 :: rest) scope dV kV doc pm an (.ref cda) ct cc) ps sp := by
  refine ⟨len, fun A outer s H args us vs Q E hr e0 hb r hsp => ?_⟩
  have hl := len _ _ _ _ hsp
  have KX : K.In s.heap := e0.mod.kin.keeps fun b o e => (e0.bs b o e).1
  have lim : s.heap.NoLimit := e0.mod.nolimit.keeps fun b o e => (e0.bs b o e).1
  refine ks_codeAny_call_defAt (fd := PySem.W.ksFn name qual params (.Expr (.Call (.Attribute (.Call (.Name "super" p0) [] [] p1) "__init__" p2) [e] [] p3) p4 :: rest) scope dV kV doc pm an (.ref cda) ct cc) (binds := ps.zip us) hr.depth (KX _ _ lk) rfl lim (PySem.W.codeRec_of KX hcd) rfl hb S.nocell
    (fun y hy => S.par _ (List.of_mem_zip (a := y.1) (b := y.2) hy).1) (fun h1 hns hk => ?_) S.co S.gen S.kind
  obtain ⟨a, ws, te, t, ev, ha, hpe, hps, hq⟩ := hbody A outer s H vs Q E (hr.deeper _) hsp
  have I := inv_startF (CX := CX) (w := w) (mg := mg) (qual := qual) (f := f) (cd := .ref cda) (tk := s.toks + (ps.zip us).length) (E := E) S hcell hr.hd e0 hl r hns hk
  show PySem.wpAt (model P w) (A.deeper (PySem.W.ksEnv qual scope s.heap.objs.size f (.ref cda) cc)) (.func _ (PySem.W.ksEnv qual scope s.heap.objs.size f (.ref cda) cc)) (execs _ (PySem.W.ksEnv qual scope s.heap.objs.size f (.ref cda) cc)) _ _ _
  refine ks_wpAt_execs_cons (ks_wpAt_Expr_any (ks_wpAt_MethodCall ?_ (hme _)) I.quiet (by rfl))
  obtain ⟨t1, hoe⟩ := exo_at e0.hok ha
  obtain ⟨nm, qn, Nn, bs, bm, sn, sub, ab, col, dd, k0, k1, k2, k3, k5, hC, hbm⟩ := T.cls
  have hcl : PySem.W.clsIn K C = some { name := nm, bases := bs, mro := .ref C :: bm, ns := Nn, qualname := qn, hasDict := true, slotNames := sn, subclasses := sub, abstract := ab, collection := col, hasDel := false } := by unfold PySem.W.clsIn; rw [hC] <;> rfl
  have hmro : PySem.W.mroIn K C (.ref C) = some true := by
    unfold PySem.W.mroIn
    rw [hcl, Option.bind_some, if_neg (show ¬ (List.isEmpty (Value.ref C :: bm) = true) from Bool.false_ne_true)]
    simp
  have KI := I.kIn
  have hsf : N[0]? = some ar.arg := by
    have h1 : ps.length ≠ 0 := fun z => by rw [List.length_eq_zero_iff.mp z] at h0; cases h0
    rw [← S.pre, List.getElem?_take_of_lt (by omega)] at h0
    exact h0
  have hk0 := S.par _ (List.mem_of_getElem? h0)
  refine ks_wpAt_super_base (env := PySem.W.ksEnv qual scope s.heap.objs.size f (.ref cda) cc) S.sup S.cls (by decide) rfl (KI _ _ lk) rfl hp rfl (KI _ _ hcode) rfl hvs hfile htop ?_
  obtain ⟨mb, b1, b2⟩ := I.mod.blt
  refine PySem.W.ks_loadName_global S.kind S.sup (Calls.loadGlobal_builtin (env := PySem.W.ksEnv qual scope s.heap.objs.size f (.ref cda) cc) (I.mod.glob.keeps I.bk) hsuper (b1.keeps I.bk) ((b2 _ (by decide)).trans super_boot) ⟨rfl, ?_⟩)
  refine wpAny_loadName_free S.kind S.cls rfl ⟨_, KI _ _ hcell, rfl⟩ ?_
  obtain ⟨m, hn, hlk⟩ := I.loc
  have hself : m ar.arg = some (.ref a) := by
    obtain ⟨u, ru, l⟩ := hlk 0 ar.arg (.ref a) hsf (by rw [ev]; rfl) (.inl hk0)
    obtain rfl : u = Value.ref a := ru
    rcases l with l | ⟨l, _⟩
    · exact l.2
    · have l' : scope.names.lookup ar.arg = some .cell ∨ scope.names.lookup ar.arg = some .free := l
      rw [hk0] at l'
      rcases l' with z | z <;> cases z
  refine wpAny_loadName_local S.kind hk0 hn hself ?_
  refine ks_wpAny_isType_cls (KI _ _ hC) rfl ⟨rfl, ?_⟩
  refine ks_wpAny_call_super (KI _ _ hC) rfl (hk _ _ hoe) rfl (fun c z => by cases z) (PySem.W.looks_mroIn KI hmro) (fun h2 e2 kk2 => ?_)
  have I2 := I.kept (t' := s.toks + (ps.zip us).length) kk2
  have KI2 := I2.kIn
  have hxC : a ≠ C := fun z => by
    have := (I2.bs C _ (e0.mod.kin _ _ hC)).2
    rw [← z, ha] at this
    cases this
  have hI : PySem.W.InstAt h2 a _ C none := ⟨kk2 _ _ (hk _ _ hoe), rfl, rfl, trivial⟩
  unfold PySem.W.ks_superIn at hm
  rw [hcl] at hm
  refine PySem.W.kxs_getMethod PySem.W.kxs_ValueError e2 (PySem.W.looks_opaque KI2 hop) (l₀ := .ref C :: bm) (fun A Q E s k q => wpAny_bind ((PySem.W.looks_clsIn KI2 hcl) A _ E s k (wpAny_pure q))) rfl KI2 hm (hI.type.andThen (PySem.W.looks_subIn KI2 hsub)) hxC (by decide) ?_
  have hu : (h2.push (PySem.W.kxs_mw "ValueError.__init__" a)).get? h2.objs.size = some (PySem.W.kxs_mw "ValueError.__init__" a) := Heap.get?_push_at rfl rfl
  have I3 := I2.kept (h' := h2.push (PySem.W.kxs_mw "ValueError.__init__" a)) (t' := s.toks + (ps.zip us).length + 1) (fun b o z => Heap.get?_push_of_some _ z)
  have I4 := I3.pins_of (pins' := [(h2.objs.size, PySem.W.kxs_mw "ValueError.__init__" a)]) (fun p hp => by
    have ep : p = (h2.objs.size, PySem.W.kxs_mw "ValueError.__init__" a) := by simpa using hp
    subst ep
    refine ⟨hu, I2.hok.fresh (Nat.le_refl _), fun z => ?_, I2.nofs (Nat.le_refl _), fun v z => by cases z⟩
    have y := I2.lt
    rw [← z] at y
    exact Nat.lt_irrefl _ y)
  show PySem.wpAny _ _ (callWith p3 (.ref h2.objs.size) [] (backTo p3 (starEach [e] (PySem.W.ksEnv qual scope s.heap.objs.size f (.ref cda) cc))) []) _ _ _
  rw [he]
  refine PySem.W.kxs_callWith (i := "ValueError.__init__") (x := a) rfl (Calls.evalArgs_plain ?_)
  refine Calls.spliced_cons (thn (hpe.run _ _ _ _ _ I4 hq) fun u1 s1 ⟨x, H1, I5, r1, ea, q1⟩ => Calls.spliced_nil ⟨(I5.pin (h2.objs.size, PySem.W.kxs_mw "ValueError.__init__" a) (List.mem_append_right _ (by simp))).1, ?_⟩)
  obtain ⟨hp', g, d, tk, os⟩ := s1
  obtain ⟨t2, ho⟩ := exo_at I5.hok ea
  refine PySem.W.call_mwr F.excBase_ValueError (I5.kIn _ _ hC) ho (I5.pin (h2.objs.size, PySem.W.kxs_mw "ValueError.__init__" a) (List.mem_append_right _ (by simp))).1 (by show 1 ≤ sizeLine; rw [sizeLine_eq]; omega) (fun h' k' e' => ?_)
  have J := I5.write (t' := tk) (x := a) (e := a) (o := exo a C none) (by rw [ea]; exact True.intro) (.inl rfl) k' ⟨_, e'⟩ (exo_ok e')
  have eu : upd H1 a (exo a C none) = H1 := by
    funext b
    by_cases hb : b = a
    · rw [hb, upd_same, ea]
    · rw [upd_ne hb]
  rw [eu] at J
  have J0 := J.pins_of (pins' := []) (fun p hp => by simp at hp)
  refine wpAt_of_wpAny (wpAny_mono (hps.run [] _ _ _ _ J0 q1) (fun fl s' hs => ?_) fun e s' hs => hs)
  cases fl with
  | ret u =>
    obtain ⟨v, σ', H', J, rv, q⟩ := hs
    exact ⟨v, H', J.os, J.bare, J.base, J.hok, rv, q⟩
  | next =>
    obtain ⟨σ', H', J, q⟩ := hs
    exact ⟨V.non, H', J.os, J.bare, J.base, J.hok, rfl, q⟩
  | brk =>
    obtain ⟨_, _, _, q⟩ := hs
    exact False.elim q
  | cont =>
    obtain ⟨_, _, _, q⟩ := hs
    exact False.elim q

theorem exm_self {K : PySem.W.Frag} {C : Addr} {cd : ClassData} (xb : PySem.W.subIn K (.ref C) (.type "BaseException") = some true) (hc : PySem.W.clsIn K C = some cd) (xt : PySem.W.typeIn K (.ref C) = some (.type "type")) (hs : PySem.W.subIn K (.ref C) (.ref C) = some true) :
    PySem.W.exmOne K (.ref C) (.ref C) = some true := by
  unfold PySem.W.exmOne PySem.W.kitCls
  rw [if_pos (by rw [xb]; rfl)]
  show (if ((PySem.W.clsIn K C).isSome && PySem.W.typeIn K (.ref C) == some (.type "type")) = true then PySem.W.subIn K (.ref C) (.ref C) else none) = some true
  rw [hc, xt, hs]
  rfl
/-- what is known of an exception class that keeps a text -/
structure Exc1 (P : Program) (w : World) (K : PySem.W.Frag) (mg : Str → Option Value) (base : Heap) (cls fld : Str) (C : Addr) : Prop where
  O : OexC K C
  X : XfC K C
  hC : mg cls = some (.ref C)
  no : PySem.W.findIn K (.ref C) fld = some none
  exm : PySem.W.exmOne K (.ref C) (.ref C) = some true
  ini : ∃ fI fdI, PySem.W.findIn K (.ref C) "__init__" = some (some (.ref fI)) ∧ PySem.W.typeIn K (.ref fI) = some (.type "function") ∧ FnOk P w K mg base (L2.CX P w) 1 fI fdI ["self", fld] (spIni C fld) ∧ Binds K fdI ["self", fld] []
/-- the readings of such an __init__ -/
theorem run_ini {K : PySem.W.Frag} {C a : Addr} {pre fld nm : Str} {σ : L2.St} {H : Hp} {Q : VK} {D : Ends} (hp : pre.length ≤ 1000) (hz : nm.length ≤ 1000) (O : OexC K C) (hno : PySem.W.findIn K (.ref C) fld = some none) (s0 : σ[0]? = some (some (.ref a))) (s1 : σ[1]? = some (some (.str nm)))
    (ha : H a = some (exo a C none)) (hq : ∀ dx, H dx = none → dx ≠ a → D.nx σ (upd (upd H dx (exd dx [(fld, .str nm)])) a (exo a C (some dx)))) :
    tJs [tC (.str pre), tFmt (tVar 1)] Str.empty σ H fun out H1 => H1 a = some (exo a C none) ∧ tOst K fld (tVar 0) (tVar 1) D σ H1 := by
  have e0 : Str.empty.length = 0 := by decide
  refine ⟨pre, rfl, ?_, .str nm, s1, .inl ⟨nm, rfl, ?_, nm, rfl, ?_, ha, .str nm, s1, .ref a, s0, a, C, rfl, O, hno, .inl ⟨ha, hq⟩⟩⟩
  · rw [PySem.Str.length_append, sizeLine_eq]; omega
  · rw [sizeLine_eq]; omega
  · rw [PySem.Str.length_append, PySem.Str.length_append, sizeLine_eq]; omega
end Lm


/-! tuple * int, any int from 0 on -/
namespace L2
open PySem PySem.Spec PyProof.Rows
theorem tuple_mul1 (l : Addr) (items : Array Value) (n : Nat) (dd : Option Addr) (sl : Array (Option Value)) (u : Tok) :
    Meets (Builtin.«tuple.__mul__» ⟨[.ref l, .int 1 u], []⟩) (fun _ R s => s.heap.get? l = some { cls := .type "tuple", dict := dd, data := .seq items n, slots := sl } ∧ R (.ok (.ret (Value.ref l))) s) :=
  .of_wp fun prog w A R s h => by
    obtain ⟨hp, g, d, tk, os⟩ := s
    obtain ⟨hl, h⟩ := h
    have f1 := AutoSeq1.idx_int
    have c1 : (items.isEmpty || (1 : Int) == 1) = true := by simp
    wp_walk using wpAny_loadPart' hl
    repeat (first
      | (refine wpAny_ite_true (decide_eq_true (by rw [c1])) ?_; wp_walk using wpAny_loadPart' hl)
      | (rw [if_pos c1]; wp_walk using wpAny_loadPart' hl)
      | (refine wpAny_ite_false (decide_eq_false (by decide)) ?_; wp_walk using wpAny_loadPart' hl))
    all_goals exact ⟨_, rfl, h⟩
theorem tuple_mul0 (l : Addr) (items : Array Value) (n : Nat) (dd : Option Addr) (sl : Array (Option Value)) (u : Tok) (c1 : items.isEmpty = false) :
    Meets (Builtin.«tuple.__mul__» ⟨[.ref l, .int 0 u], []⟩) (fun _ R s => s.heap.get? l = some { cls := .type "tuple", dict := dd, data := .seq items n, slots := sl } ∧
      R (.ok (.ret (Value.ref s.heap.objs.size))) { s with heap := s.heap.push { cls := Value.type "tuple", data := Data.seq #[] }, toks := s.toks }) :=
  .of_wp fun prog w A R s h => by
    obtain ⟨hp, g, d, tk, os⟩ := s
    obtain ⟨hl, h⟩ := h
    have f1 := AutoSeq1.idx_int
    have c2 : (items.isEmpty || (0 : Int) == 1) = false := by rw [c1]; rfl
    wp_walk using wpAny_loadPart' hl
    repeat (first
      | (refine wpAny_ite_false (decide_eq_false (by rw [c2]; exact Bool.false_ne_true)) ?_; wp_walk using wpAny_loadPart' hl)
      | (rw [if_neg (by rw [c2]; exact Bool.false_ne_true)]; wp_walk using wpAny_loadPart' hl))
    all_goals exact ⟨_, rfl, h⟩
end L2
namespace Lm
open PySem PySem.Spec PyProof.Rows L2
def rRepU (K : PySem.W.Frag) : R2 := fun x y H Q => ∃ l k xs, x = .ref l ∧ y = .int k ∧ SqT K H l xs ∧ xs ≠ [] ∧ 0 ≤ k ∧ k ≤ 1000 ∧ xs.length ≤ 1000 ∧ (k = 1 → Q (.ref l) H) ∧ (k ≠ 1 → NewT H (List.replicate k.toNat xs).flatten Q)
section
variable {X : Cx}
theorem op_repU : OpR X (binaryOp .Mult) (rRepU X.K) := by
  intro pins s σ H x y v u Q I rx ry ⟨l, k, xs, ex, ey, hT, hne, h1, h2, hz, q1, q⟩
  subst ex ey
  cases rx
  obtain ⟨t, rfl⟩ := ry
  obtain ⟨us, r, ⟨⟨cls, dd, data, sl⟩, ho, hc, n, hd⟩, _⟩ := I.tuple hT
  simp only at hc hd
  subst hc hd
  have hle : us.length = xs.length := Eq.symm r.length
  have hi : us.toArray.isEmpty = false := by
    cases us with
    | nil => exact (hne (List.eq_nil_of_length_eq_zero hle.symm)).elim
    | cons _ _ => rfl
  by_cases k1 : k = 1
  · subst k1
    refine wpAny_binaryOp_repeat_ref (T := "tuple") (U := "int") (by decide) ⟨_, ho, rfl⟩ (fun s2 => typeIs_int s2 1 t) noFill_tuple_mul F.fills_int_mul F.slot_int_rmul repeat_tuple F.slot_int_index.lookup (call_meets F.slot_int_rmul (typeIs_int s 1 t) F.entry_int_rmul (F.args_int_rmul_2 _ _) (int_rmul_tuple 1 t l us.toArray n dd sl)
        ⟨ho, rfl, ⟨_, ho, rfl⟩, call_meets F.slot_tuple_mul ⟨_, ho, rfl⟩ F.entry_tuple_mul (F.args_tuple_mul_2 _ _) (tuple_mul1 l us.toArray n dd sl t) ⟨ho, ?_⟩⟩)
    exact ⟨.ref l, H, I, rfl, q1 rfl⟩
  have fin := newT (us := (List.replicate k.toNat us).flatten) I (r.rep k.toNat) (by
    rw [PyProof.Rows.lm_len_rep_flat, sizeLine_eq]
    have := Nat.mul_le_mul (show k.toNat ≤ 1000 by omega) hz
    omega) (q k1)
  by_cases k0 : k = 0
  · subst k0
    exact wpAny_binaryOp_repeat_ref (T := "tuple") (U := "int") (by decide) ⟨_, ho, rfl⟩ (fun s2 => typeIs_int s2 0 t) noFill_tuple_mul F.fills_int_mul F.slot_int_rmul repeat_tuple F.slot_int_index.lookup (call_meets F.slot_int_rmul (typeIs_int s 0 t) F.entry_int_rmul (F.args_int_rmul_2 _ _) (int_rmul_tuple 0 t l us.toArray n dd sl)
        ⟨ho, rfl, ⟨_, ho, rfl⟩, call_meets F.slot_tuple_mul ⟨_, ho, rfl⟩ F.entry_tuple_mul (F.args_tuple_mul_2 _ _) (tuple_mul0 l us.toArray n dd sl t hi) ⟨ho, fin⟩⟩)
  have sz : us.toArray.size = xs.length := by simp [hle]
  have a1 : ((xs.length : Nat) : Int) * k ≤ 1000 * k := Int.mul_le_mul_of_nonneg_right (by omega) (by omega)
  have fl : (List.foldl (fun x1 x2 => x1 ++ x2) #[] (List.replicate k.toNat us.toArray)) = (List.replicate k.toNat us).flatten.toArray := size_rep us k.toNat
  refine wpAny_binaryOp_repeat_ref (T := "tuple") (U := "int") (by decide) ⟨_, ho, rfl⟩ (fun s2 => typeIs_int s2 k t) noFill_tuple_mul F.fills_int_mul F.slot_int_rmul repeat_tuple F.slot_int_index.lookup (call_meets F.slot_int_rmul (typeIs_int s k t) F.entry_int_rmul (F.args_int_rmul_2 _ _) (int_rmul_tuple k t l us.toArray n dd sl)
        ⟨ho, rfl, ⟨_, ho, rfl⟩, call_meets F.slot_tuple_mul ⟨_, ho, rfl⟩ F.entry_tuple_mul (F.args_tuple_mul_2 _ _) (tuple_mulW l us.toArray n dd sl k t ?_ ?_ ?_ ?_ ?_ ?_) ⟨ho, ?_⟩⟩)
  · rw [decide_eq_false (by omega), decide_eq_false (by omega)]; rfl
  · rw [hi, Bool.false_or]; simpa using k1
  · rw [hi, Bool.or_false]; simp; omega
  · rw [sz]; omega
  · rw [sz]; unfold Builtin.Tuple.tupleTooMany; rw [sizeLine_eq]; simp; omega
  · rw [fl, List.size_toArray, PyProof.Rows.lm_len_rep_flat, sizeLine_eq, hle]
    have := Nat.mul_le_mul (show k.toNat ≤ 1000 by omega) hz
    omega
  · rw [fl]; exact fin
end
end Lm
namespace Lm
open PySem PySem.Spec PyProof.Rows L2
section
variable {X : Cx} {K : PySem.W.Frag} (hK : X.K = K)
include hK
theorem k_repU : OpR X (binaryOp .Mult) (rRepU K) := hK ▸ op_repU
end
section
variable {c : Ct} {Γ : List (Option Rs)} {ta tb : TE} {ka kb : Kd} {ds : List PyData} {i : Int}
/-- tuple * int -/
theorem e_repT (h : Ev c ta Γ .v (.tuple ds)) (hne : ds ≠ []) (hb : Ev c tb Γ kb (.int i)) (h1 : 0 ≤ i) (h2 : i ≤ 1000) (hl : ds.length ≤ 1000) : Ev c (tOp (rRepU c.K) ta tb) Γ .v (.tuple (List.replicate i.toNat ds).flatten) := fun H0 O H σ e Q q =>
  h H0 O H σ e _ fun v H1 r1 s1 => hb H0 O H1 σ (e.on r1) _ fun u H2 r2 s2 => by
    have b2 : Bo c (mns H2 O) v (.tuple ds) := Res.on (k := .v) e r1 r2 s1
    obtain ⟨a, xs, rfl, tp, al⟩ := b2.tup'
    have tq : SqT c.K H2 a xs := (sqT_same mns_same tp).sq
    have lx : xs.length = ds.length := al.len
    refine ⟨a, i, xs, rfl, (Res.bo (e.on r1) s2).int', tq, fun z => hne (List.eq_nil_of_length_eq_zero (by rw [← lx, z]; rfl)), h1, h2, by omega, fun z => ?_, fun _ => newTk (c := c) fun p H3 hp sm tp => ?_⟩
    · refine q _ H2 (r1.tr r2) ?_
      subst z
      have e1 : (List.replicate (1 : Int).toNat ds).flatten = ds := by simp
      rw [e1]
      exact b2
    · have r3 : Rr c H2 H3 := Rr.same sm
      have e2 := (e.on r1).on r2
      have rep : ∀ n : Nat, BoAll c (mns H2 O) (List.replicate n xs).flatten (List.replicate n ds).flatten := fun n => by
        induction n with
        | zero => exact .nil
        | succ n ih => rw [List.replicate_succ, List.replicate_succ, List.flatten_cons, List.flatten_cons]; exact al.app ih
      exact q _ H3 ((r1.tr r2).tr r3) (.tup (tpN_mns e2 r3 tp) ((rep _).mono e2.j (r3.mns e2.j e2.okO)))
end
end Lm


/-! readings that the intervals want -/
namespace Lm
open PySem PySem.Spec PyProof.Rows L2
theorem cutD_last {α : Type} {ds : List α} : cutD ds none (some (-1)) = ds.dropLast := by
  show (ds.drop 0).take ((if (-1 : Int) < 0 then ((-1 : Int) + (ds.length : Int)).toNat else min (-1 : Int).toNat ds.length) - 0) = ds.dropLast
  rw [if_pos (by decide), List.drop_zero, List.dropLast_eq_take]
  congr 1
  omega
theorem Asg.up {ns : List Int} {v w : Int} (h : Asg ns v) (hw : v ≤ w) : Asg ns w := ⟨h.len, fun n hn => ⟨(h.rng n hn).1, by have := (h.rng n hn).2; omega⟩⟩
section
variable {c : Ct} {H H' H0 H1 H2 H3 : Hp} {O : List Addr} {Γ Γ' Γ1 : List (Option Rs)}
variable {te ta tb tx ty : TE} {k ka kb kc : Kd} {d x y z : PyData}
end
end Lm


/-! all assignments of an allocation, in order; the one whose places ascend -/
namespace Lm
open PySem PySem.Spec PyProof.Rows L2
theorem nodup_sub {α : Type} [DecidableEq α] : ∀ {l m : List α}, l.Nodup → (∀ x ∈ l, x ∈ m) → l.length ≤ m.length
  | [], _, _, _ => Nat.zero_le _
  | a :: l, m, nd, h => by
    have nd' := List.nodup_cons.mp nd
    have ha := h a (by simp)
    have ih := nodup_sub (m := m.erase a) nd'.2 fun x hx => (List.mem_erase_of_ne (fun z => nd'.1 (by rw [← z]; exact hx))).mpr (h x (by simp [hx]))
    rw [List.length_erase_of_mem ha] at ih
    have := List.length_pos_of_mem ha
    simp only [List.length_cons]; omega
theorem perm_of_count {r m : List Int} (hc : ∀ x, r.count x ≤ m.count x) (hl : m.length ≤ r.length) : r.Perm m := by
  induction r generalizing m with
  | nil =>
    have : m = [] := List.eq_nil_of_length_eq_zero (by simpa using hl)
    rw [this]
  | cons a r ih =>
    have ha : a ∈ m := by
      have := hc a
      rw [List.count_cons_self] at this
      exact List.count_pos_iff.mp (by omega)
    refine (List.Perm.cons a (ih (m := m.erase a) (fun x => ?_) ?_)).trans (List.perm_cons_erase ha).symm
    · have h1 := hc x
      rw [List.count_erase]
      by_cases e : a = x
      · subst e
        rw [List.count_cons_self] at h1
        simp; omega
      · rw [List.count_cons_of_ne e] at h1
        rw [if_neg (by simpa using e)]; omega
    · rw [List.length_erase_of_mem ha]
      simp only [List.length_cons] at hl; omega
section
variable {c : Ct} {Γ : List (Option Rs)} {te : TE} {k : Kd}
end
end Lm


/-! t[::-1] of a tuple -/
namespace HT
open PySem PySem.W PySem.Calls PyProof.Rows
end HT
namespace Lm
open PySem PySem.Spec PyProof.Rows L2
section
variable {prog : Program} {w : World} {A : Around} {E : Value → Shared → Prop} {s : Shared}
end
section
variable {c : Ct} {Γ : List (Option Rs)} {te : TE} {ds : List PyData}
end
end Lm


/-! zip of two new lists, list + list of new ones; the intervals' ends -/
namespace Lm
open PySem PySem.Spec PyProof.Rows L2
section
variable {c : Ct} {H H' H0 H1 H2 H3 : Hp} {O : List Addr} {Γ Γ' Γ1 : List (Option Rs)}
variable {te ta tb tx ty : TE} {k ka kb kc : Kd} {d x y z : PyData} {ds es : List PyData}
/-- a new list + a new list -/
theorem e_catL (ha : Ev c ta Γ .o (.list ds)) (hds : flatAll ds = true) (hb : Ev c tb Γ .o (.list es)) (hes : flatAll es = true) (hl : ds.length + es.length ≤ 1000000) : Ev c (tOp (rAddA c.K) ta tb) Γ .o (.list (ds ++ es)) := fun H0 O H σ e Q q =>
  ha H0 O H σ e _ fun v H1 r1 s1 => hb H0 O H1 σ (e.on r1) _ fun u H2 r2 s2 => by
    obtain ⟨f1, o1, n1, w1⟩ : Res c O H H2 v (.list ds) .o := Res.on e r1 r2 s1
    obtain ⟨f2, o2, n2, w2⟩ : Res c O H1 H2 u (.list es) .o := s2
    obtain ⟨p, xs, g, rfl, rfl, hp, fa⟩ := o1.list'
    obtain ⟨b, zs, g', rfl, rfl, hb', fb⟩ := o2.list'
    obtain ⟨_, al⟩ := fa.flat0 hds
    obtain ⟨_, bl⟩ := fb.flat0 hes
    refine .inr (.inr ⟨p, b, xs, zs, rfl, rfl, hp, hb', by rw [al.len, bl.len]; exact sizeOk hl, fun p' hp' => ?_⟩)
    have sm : Same H2 (upd H2 p' (.lst (xs ++ zs))) := fun b o z => by rw [upd_ne (ne_of_none z hp')]; exact z
    have r : Rr c H H2 := r1.tr r2
    exact q _ _ (r.tr (Rr.same sm)) ⟨[p'], .lst upd_same (FoAll.leaves (flatAll_app hds hes) ((al.app bl).same sm)), by simp, fun a ha => by
      cases List.mem_singleton.mp ha
      exact r.back e.jH hp'⟩
end
end Lm


/-! the first history: each step's first change is the least one -/
namespace Lm
open PySem PySem.Spec PyProof.Rows L2
variable {v b : Int} {A T : List (List Int)} {as f r : List Int} {n : Nat}
section
variable {c : Ct} {H H' H0 H1 H2 H3 : Hp} {O : List Addr} {Γ Γ' Γ1 : List (Option Rs)} {te : TE} {k : Kd} {i : Int}
end
/-! of lists -/
theorem Asg.wide {f : List Int} (h : Asg f v) (h5 : v ≤ 5) : Asg f 5 := ⟨h.len, fun x hx => ⟨(h.rng x hx).1, by have := (h.rng x hx).2; omega⟩⟩
end Lm


/-! itertools.combinations(range(n), k), walked -/
namespace CmbK
open PySem PySem.Spec PyProof.Rows L2
end CmbK


/-! itertools.combinations(range(n), k): made, its turns -/
namespace CmbK
open PySem PySem.Spec PyProof.Rows L2
end CmbK


/-! itertools.combinations: its turns -/
namespace CmbK
open PySem PySem.Spec PyProof.Rows L2
section
variable {prog : Program} {w : World} {A : Around} {E : Value → Shared → Prop} {s : Shared} {it T : Addr} {bf : Value} {ks : List Nat} {xs : Array Value}
end
end CmbK


/-! the places that combinations hands out -/
namespace Lm
open PySem PySem.Spec PyProof.Rows L2 CmbK
def cmbL : List Nat → Nat → List (List Nat)
  | _, 0 => [[]]
  | [], _ + 1 => []
  | a :: l, k + 1 => (cmbL l k).map (a :: ·) ++ cmbL l (k + 1)
def cmbs (n k : Nat) : List (List Nat) := cmbL (List.range n) k
end Lm


/-! families of shares: the promises -/
namespace Lm
open PySem PySem.Spec PyProof.Rows L2
/-- a share of each variant but the control -/
structure Shr (r : List Int) (v : Int) : Prop where
  len : (r.length : Int) = v - 1
  nn : ∀ x ∈ r, 0 ≤ x
  sum : r.sum ≤ 10
theorem Shr.le {r : List Int} {v : Int} (h : Shr r v) : ∀ x ∈ r, x ≤ 10 := fun x hx => by
  have := le_sum h.nn x hx
  have := h.sum
  omega
end Lm


/-! == of plain data, forms of data, a drawn test behind a plain one -/
namespace Lm
open PySem PySem.Spec PyProof.Rows L2
/-- data of a depth of at most n, all of it to be compared -/
def Sh (n : Nat) (d : PyData) : Prop := d.canLay0 = true ∧ d.depth ≤ n
theorem Sh.ok {n : Nat} {d : PyData} (h : Sh n d) (hn : n ≤ 64) : SeqAt.shaped d = true := by
  unfold SeqAt.shaped
  rw [h.1, decide_eq_true (by have := h.2; omega)]
  rfl
theorem Sh.up {n m : Nat} {d : PyData} (h : Sh n d) (hn : n ≤ m) : Sh m d := ⟨h.1, Nat.le_trans h.2 hn⟩
section
variable {c : Ct} {Γ : List (Option Rs)} {ta tb : TE} {tt tu : TT} {ka kb : Kd} {d e : PyData} {a : Bool}
end
end Lm


/-! in and not in over tuples or lists of data -/
namespace Lm
open PySem PySem.Spec PyProof.Rows L2
section
variable {X : Cx}
variable {K : PySem.W.Frag} (hK : X.K = K)
include hK
end
section
variable {c : Ct} {Γ : List (Option Rs)} {ta tb : TE} {ka kb : Kd} {d : PyData} {ds : List PyData} {r : List Int} {P : List (List Int)} {neg : Bool}
end
section
variable {c : Ct} {Γ : List (Option Rs)} {tr : TA} {kv : Bool} {n m lo : Nat} {a : Im}
theorem i_rngN (h : EvA c tr Γ kv [.int (n : Int)]) (hn : n ≤ 1000000) : EvI c (iRng1 tr) Γ true ((List.range n).map fun (i : Nat) => Im.d (.int (i : Int))) := by
  have := i_rng1 h (by omega) (by omega)
  rw [Int.toNat_natCast] at this
  unfold upI at this
  rw [List.map_map] at this
  refine (congrArg (EvI c (iRng1 tr) Γ true) (List.map_congr_left fun i _ => ?_)).mp this
  show Im.d (.int (0 + (i : Int))) = _
  rw [Int.zero_add]
theorem rngN_at (h : ((List.range n).map fun (i : Nat) => Im.d (.int (i : Int)))[m]? = some a) : m < n ∧ a = .d (.int (m : Int)) := by
  rw [List.getElem?_map] at h
  cases q : (List.range n)[m]? with
  | none => rw [q] at h; cases h
  | some k =>
    rw [q] at h
    have hm := (List.getElem?_eq_some_iff.mp q).1
    rw [List.length_range] at hm
    rw [List.getElem?_range hm] at q
    cases Option.some.inj q
    exact ⟨hm, (Option.some.inj h).symm⟩
end
/-! ### plans -/
def joinB (P : List (List Int)) (i j : Int) : Bool := decide ([if j < i then j else i, if j > i then j else i] ∈ P)
def cycB (P : List (List Int)) (r : List Int) : Bool := (List.range r.length).all fun k => joinB P (r.getD (if k = 0 then r.length - 1 else k - 1) 0) (r.getD k 0)
/-! bad triples -/
def castL (ks : List Nat) : List Int := ks.map fun (i : Nat) => (i : Int)
def badB (P A : List (List Int)) (r : List Int) : Bool := cycB P r && decide (0 < exI (A.getD (r.getD 0 0).toNat []) (A.getD (r.getD 1 0).toNat []) (A.getD (r.getD 2 0).toNat []))
def trpL (n : Nat) : List (List Int) := (cmbs n 3).map castL
def badL (P A : List (List Int)) : List (List Int) := (trpL A.length).filter (badB P A)
end Lm


/-! rules: the mathematics -/
namespace Lm
open PySem PySem.Spec PyProof.Rows L2
abbrev Pr := List Int × List Int
/-- an allocation and an assignment of it -/
structure OkP (p : Pr) (v b : Int) : Prop where
  alc : Alc p.1 v b
  len : (p.2.length : Int) = b
  rng : ∀ x ∈ p.2, 0 ≤ x ∧ x < v
  cnt : countsI p.2 v = p.1
theorem OkP.asg {p : Pr} {v b : Int} (h : OkP p v b) (hb : b ≤ 20) : Asg p.2 v := ⟨by have := h.len; omega, h.rng⟩
/-! the first of three places -/
/-! lists give the variants their buckets -/
theorem getD_setI {r : List Int} {i j : Nat} {x : Int} (hi : i < r.length) : (r.set i x).getD j 0 = if i = j then x else r.getD j 0 := by
  simp only [List.getD_eq_getElem?_getD, List.getElem?_set]
  split
  · rename_i h
    subst h
    simp [hi]
  · rfl
theorem gL_mem {Ls : List (List Int)} {i : Nat} (h : i < Ls.length) : Ls.getD i [] ∈ Ls := by
  rw [List.getD_eq_getElem?_getD, List.getElem?_eq_getElem h]
  exact List.getElem_mem h
end Lm


/-! drawn assignments of an allocation; drawn tests -/
namespace Lm
open PySem PySem.Spec PyProof.Rows L2
structure Drw (as : List Int) (lf acc : List Int) (n : Nat) : Prop where
  len : lf.length = as.length
  al : acc.length = n
  nn : ∀ x ∈ lf, 0 ≤ x
  rng : ∀ x ∈ acc, 0 ≤ x ∧ x < (as.length : Int)
  cnt : ∀ i < as.length, (acc.count (i : Int) : Int) + lf.getD i 0 = as.getD i 0
  sum : lf.sum + (n : Int) = as.sum
theorem sum_setX : ∀ {l : List Int} {i : Nat} {x : Int}, i < l.length → (l.set i x).sum = l.sum - l.getD i 0 + x
  | [], _, _, h => by simp at h
  | a :: l, 0, x, _ => by simp only [List.set_cons_zero, List.sum_cons, List.getD_cons_zero]; omega
  | a :: l, i + 1, x, h => by
    have := sum_setX (l := l) (i := i) (x := x) (by simpa using h)
    simp only [List.set_cons_succ, List.sum_cons, List.getD_cons_succ]
    omega
theorem Drw.step {as lf acc : List Int} {n i : Nat} (h : Drw as lf acc n) (hi : i < as.length) (hp : 0 < lf.getD i 0) : Drw as (lf.set i (lf.getD i 0 - 1)) (acc ++ [(i : Int)]) (n + 1) := by
  have hl := h.len
  refine ⟨by simpa using hl, by simp [h.al], fun x hx => ?_, fun x hx => ?_, fun j hj => ?_, ?_⟩
  · rcases List.mem_or_eq_of_mem_set hx with w | w
    · exact h.nn x w
    · omega
  · rcases List.mem_append.mp hx with w | w
    · exact h.rng x w
    · rw [List.mem_singleton.mp w]; omega
  · have hc := h.cnt j hj
    rw [getD_setI (by omega), List.count_append]
    by_cases e : i = j
    · subst e
      have c1 : List.count (i : Int) [(i : Int)] = 1 := by simp
      rw [if_pos rfl, c1]
      omega
    · have c1 : List.count (j : Int) [(i : Int)] = 0 := List.count_eq_zero_of_not_mem (by simp; omega)
      rw [if_neg e, c1]
      omega
  · rw [sum_setX (by omega)]
    have := h.sum
    omega
section
variable {c : Ct} {Γ : List (Option Rs)} {te ta tb : TE} {tt tu : TT} {k ka kb : Kd} {a : Bool} {P : Out → Prop} {n : Nat}
end
end Lm


/-! two places exchanged; drawn changes; which pairs a table keeps -/
namespace Lm
open PySem PySem.Spec PyProof.Rows L2
section
variable {c : Ct} {H H0 : Hp} {O : List Addr} {σ : L2.St} {Γ : List (Option Rs)} {te ta tb tx ty : TE} {k ka kb kc : Kd} {P : Out → Prop} {n m : Nat} {i j x y : Int} {ns : List Int} {u : TS}
end
/-- drawn steps from one assignment to one of another allocation -/
structure Chg (A B g : List Int) (v : Int) (n : Nat) (t : Int) : Prop where
  rng : ∀ x ∈ g, 0 ≤ x ∧ x < v
  len : (g.length : Int) = B.sum
  up : ∀ x : Nat, (x : Int) < v → A.getD x 0 ≤ B.getD x 0 → (g.count (x : Int) : Int) ≤ B.getD x 0
  dn : ∀ x : Nat, (x : Int) < v → B.getD x 0 < A.getD x 0 → (g.count (x : Int) : Int) = if x < n then B.getD x 0 else if x = n then A.getD x 0 - t else A.getD x 0
section
variable {A B g : List Int} {v b : Int} {n : Nat} {t : Int}
theorem Chg.step (h : Chg A B g v n t) (ht : 0 ≤ t ∧ t < A.getD n 0 - B.getD n 0) (hn : (n : Int) < v) {p x : Nat} (hp : p < g.length) (hg : g.getD p 0 = (n : Int)) (hx : (x : Int) < v) (hw : (g.count (x : Int) : Int) < B.getD x 0) : Chg A B (g.set p (x : Int)) v n (t + 1) := by
  have cn := h.dn n hn (by omega)
  rw [if_neg (by omega), if_pos rfl] at cn
  have nx : x ≠ n := fun e => by subst e; omega
  have e1 : g[p] = (n : Int) := by rw [← hg]; simp [List.getD_eq_getElem?_getD, hp]
  have pos : 1 ≤ g.count (n : Int) := List.count_pos_iff.mpr (e1 ▸ List.getElem_mem hp)
  have cnt : ∀ y : Nat, ((g.set p (x : Int)).count (y : Int) : Int) = (g.count (y : Int) : Int) - (if y = n then 1 else 0) + (if y = x then 1 else 0) := fun y => by
    rw [List.count_set hp, e1]
    by_cases h1 : y = n
    · subst h1
      have : ¬ (x : Int) = (y : Int) := by omega
      simp [this, show ¬ y = x by omega]
      omega
    · by_cases h2 : y = x
      · subst h2
        have : ¬ (n : Int) = (y : Int) := by omega
        simp [this, h1]
      · have a1 : ¬ (n : Int) = (y : Int) := by omega
        have a2 : ¬ (x : Int) = (y : Int) := by omega
        simp [a1, a2, h1, h2]
  refine ⟨fun z hz => ?_, by simpa using h.len, fun y hy hd => ?_, fun y hy hd => ?_⟩
  · rcases List.mem_or_eq_of_mem_set hz with w | w
    · exact h.rng z w
    · omega
  · have := h.up y hy hd
    rw [cnt y]
    by_cases h1 : y = n
    · subst h1; omega
    · by_cases h2 : y = x
      · subst h2; rw [if_neg h1, if_pos rfl]; omega
      · rw [if_neg h1, if_neg h2]; omega
  · have hc := h.dn y hy hd
    have y2 : y ≠ x := fun e => by
      subst e
      rw [hc] at hw
      by_cases q : y < n
      · rw [if_pos q] at hw; omega
      · rw [if_neg q, if_neg nx] at hw; omega
    rw [cnt y, hc, if_neg y2]
    by_cases h1 : y = n
    · subst h1
      rw [if_neg (by omega), if_pos rfl, if_pos rfl, if_neg (by omega), if_pos rfl]
      omega
    · rw [if_neg h1]
      simp only [if_neg h1]
      omega
end
/-! which pairs a table keeps -/
end Lm


/-! which buckets fit: the mathematics -/
namespace Lm
open PySem PySem.Spec PyProof.Rows L2
abbrev Pk := Nat → Bool
/-- all its own are among the chosen -/
def insP (p : Pk) (own : List Int) : Bool := own.all fun y => p y.toNat
def rmP (as : List Int) (p : Pk) : Int := ((List.range as.length).map fun x => if p x then as.getD x 0 else 0).sum
def cfP (C : List (List Int)) (p : Pk) : Int := ((C.filter (insP p)).length : Nat)
def Hall (as : List Int) (C : List (List Int)) : Prop := ∀ p : Pk, cfP C p ≤ rmP as p
def dcI (x : Int) (as : List Int) : List Int := as.set x.toNat (as.getD x.toNat 0 - 1)
theorem dcI_len {x : Int} {as : List Int} : (dcI x as).length = as.length := by simp [dcI]
def b1 (b : Bool) : Int := if b then 1 else 0
theorem cf_cons {own : List Int} {C : List (List Int)} {p : Pk} : cfP (own :: C) p = cfP C p + b1 (insP p own) := by
  unfold cfP b1
  rw [List.filter_cons]
  split <;> simp
theorem cf_nn {C : List (List Int)} {p : Pk} : 0 ≤ cfP C p := by unfold cfP; omega
theorem sum_upd {g h : Nat → Int} : ∀ {n x : Nat}, x < n → (∀ i < n, i ≠ x → h i = g i) → ((List.range n).map h).sum = ((List.range n).map g).sum - g x + h x
  | n + 1, x, hx, e => by
    rw [List.range_succ, List.map_append, List.map_append, List.sum_append, List.sum_append]
    simp only [List.map_cons, List.map_nil, List.sum_cons, List.sum_nil]
    by_cases q : x = n
    · subst q
      have : (List.range x).map h = (List.range x).map g := List.map_congr_left fun i hi => e i (by have := List.mem_range.mp hi; omega) (by have := List.mem_range.mp hi; omega)
      rw [this]
      omega
    · have := sum_upd (n := n) (x := x) (g := g) (h := h) (by omega) fun i hi hn => e i (by omega) hn
      rw [this, e n (by omega) (fun z => q z.symm)]
      omega
theorem rm_dec {x : Int} {as : List Int} (hx : 0 ≤ x ∧ x < as.length) (p : Pk) : rmP (dcI x as) p = rmP as p - b1 (p x.toNat) := by
  unfold rmP
  rw [dcI_len]
  have xl : x.toNat < as.length := by omega
  have s : ∀ i, (dcI x as).getD i 0 = if x.toNat = i then as.getD x.toNat 0 - 1 else as.getD i 0 := fun i => getD_setI xl
  rw [sum_upd (g := fun i => if p i then as.getD i 0 else 0) xl fun i hi hn => by
    have e : (dcI x as).getD i 0 = as.getD i 0 := by rw [s, if_neg (fun z => hn z.symm)]
    rw [e]]
  rw [s, if_pos rfl]
  unfold b1
  split <;> omega
theorem rm_or (as : List Int) (p q : Pk) : rmP as (fun x => p x || q x) + rmP as (fun x => p x && q x) = rmP as p + rmP as q := by
  have e : ∀ (a c : Bool) (n : Int), (if (a || c) = true then n else 0) + (if (a && c) = true then n else 0) = (if a = true then n else 0) + (if c = true then n else 0) := fun a c n => by cases a <;> cases c <;> simp
  unfold rmP
  generalize List.range as.length = l
  induction l with
  | nil => rfl
  | cons x l ih =>
    have h1 := e (p x) (q x) (as.getD x 0)
    simp only [List.map_cons, List.sum_cons]
    simp only at ih
    omega
theorem ins_or {p q : Pk} {own : List Int} : insP p own = true → insP (fun x => p x || q x) own = true := fun h => by
  unfold insP at *
  rw [List.all_eq_true] at *
  intro y hy
  show (p y.toNat || q y.toNat) = true
  rw [h y hy]; rfl
theorem ins_or' {p q : Pk} {own : List Int} : insP q own = true → insP (fun x => p x || q x) own = true := fun h => by
  unfold insP at *
  rw [List.all_eq_true] at *
  intro y hy
  show (p y.toNat || q y.toNat) = true
  rw [h y hy, Bool.or_true]
theorem ins_and {p q : Pk} {own : List Int} : insP (fun x => p x && q x) own = (insP p own && insP q own) := by
  unfold insP
  induction own with
  | nil => rfl
  | cons y l ih =>
    simp only [List.all_cons, ih]
    cases p y.toNat <;> cases q y.toNat <;> simp
theorem cf_or (C : List (List Int)) (p q : Pk) : cfP C p + cfP C q ≤ cfP C (fun x => p x || q x) + cfP C (fun x => p x && q x) := by
  induction C with
  | nil => simp [cfP]
  | cons own C ih =>
    rw [cf_cons, cf_cons, cf_cons, cf_cons, ins_and]
    have h1 := ins_or (p := p) (q := q) (own := own)
    have h2 := ins_or' (p := p) (q := q) (own := own)
    unfold b1
    cases a : insP p own <;> cases c : insP q own <;> cases d : insP (fun x => p x || q x) own <;> simp_all <;> omega
/-- with such a bucket there is more in the two together -/
theorem cf_or1 {own : List Int} {C : List (List Int)} {p q : Pk} (h1 : insP p own = false) (h2 : insP q own = false) (h3 : insP (fun x => p x || q x) own = true) :
    cfP (own :: C) p + cfP (own :: C) q + 1 ≤ cfP (own :: C) (fun x => p x || q x) + cfP (own :: C) (fun x => p x && q x) := by
  have := cf_or C p q
  rw [cf_cons, cf_cons, cf_cons, cf_cons, ins_and, h1, h2, h3]
  simp only [b1, Bool.false_and, if_true, if_false, Bool.false_eq_true]
  omega
theorem hall_back {as own : List Int} {C : List (List Int)} {x : Int} (hx : x ∈ own) (x0 : 0 ≤ x ∧ x < as.length) (h : Hall (dcI x as) C) : Hall as (own :: C) := fun p => by
  have := h p
  rw [rm_dec x0] at this
  rw [cf_cons]
  unfold b1 at *
  cases q : insP p own with
  | false => split at this <;> simp only [if_false, Bool.false_eq_true] <;> omega
  | true =>
    unfold insP at q
    rw [List.all_eq_true.mp q x hx] at this
    simp only [if_true] at *
    omega
theorem hall_step {as own : List Int} {C : List (List Int)} (hr : ∀ y ∈ own, 0 ≤ y ∧ y < as.length) (h : Hall as (own :: C)) : ∃ x ∈ own, Hall (dcI x as) C := by
  refine Classical.byContradiction fun hc => ?_
  have bad : ∀ x ∈ own, ∃ p : Pk, p x.toNat = true ∧ insP p own = false ∧ cfP (own :: C) p = rmP as p := fun x hx => by
    refine Classical.byContradiction fun hn => hc ⟨x, hx, fun p => ?_⟩
    have hp := h p
    rw [rm_dec (hr x hx)]
    have hp' := hp
    rw [cf_cons] at hp
    unfold b1 at *
    cases q : insP p own with
    | true =>
      rw [q] at hp
      unfold insP at q
      rw [List.all_eq_true.mp q x hx]
      simp only [if_true] at *
      omega
    | false =>
      rw [q] at hp
      cases z : p x.toNat with
      | false => simp only [if_false, Bool.false_eq_true] at *; omega
      | true =>
        have ne : cfP (own :: C) p ≠ rmP as p := fun e => hn ⟨p, z, q, e⟩
        have e2 : cfP (own :: C) p = cfP C p := by rw [cf_cons, q]; simp [b1]
        simp only [if_true]
        omega
  have key : ∀ xs : List Int, (∀ x ∈ xs, x ∈ own) → ∃ U : Pk, insP U own = false ∧ (∀ x ∈ xs, U x.toNat = true) ∧ cfP (own :: C) U = rmP as U := by
    intro xs
    induction xs with
    | nil =>
      intro _
      have h0 := h fun _ => false
      have r0 : rmP as (fun _ => false) = 0 := by
        unfold rmP
        simp only [Bool.false_eq_true, if_false]
        exact sum_zeroN _
      have c0 := cf_nn (C := own :: C) (p := fun _ => false)
      have c1 := cf_nn (C := C) (p := fun _ => false)
      have hc0 := cf_cons (own := own) (C := C) (p := fun _ => false)
      refine ⟨fun _ => false, ?_, by simp, by omega⟩
      cases q : insP (fun _ => false) own with
      | false => rfl
      | true => rw [q] at hc0; simp only [b1, if_true] at hc0; omega
    | cons x xs ih =>
      intro hs
      obtain ⟨U, u1, u2, u3⟩ := ih fun y hy => hs y (by simp [hy])
      obtain ⟨p, p1, p2, p3⟩ := bad x (hs x (by simp))
      have hW := h fun y => U y || p y
      have hA := h fun y => U y && p y
      have ro := rm_or as U p
      refine ⟨fun y => U y || p y, ?_, fun y hy => ?_, ?_⟩
      · cases q : insP (fun y => U y || p y) own with
        | false => rfl
        | true =>
          have := cf_or1 (C := C) u1 p2 q
          omega
      · rcases List.mem_cons.mp hy with w | w
        · rw [w]; simp [p1]
        · simp [u2 y w]
      · have := cf_or (own :: C) U p
        omega
  obtain ⟨U, u1, u2, _⟩ := key own fun x hx => hx
  have : insP U own = true := by
    unfold insP
    rw [List.all_eq_true]
    exact u2
  rw [this] at u1
  cases u1
where sum_zeroN : ∀ l : List Nat, (l.map fun _ => (0 : Int)).sum = 0
  | [] => rfl
  | a :: l => by rw [List.map_cons, List.sum_cons, sum_zeroN l]; rfl
/-- each bucket has one of its own, and all shares are used up -/
def Fits : List Int → List (List Int) → List Int → Prop
  | as, [], [] => ∀ x ∈ as, x = 0
  | as, own :: C, x :: f => x ∈ own ∧ Fits (dcI x as) C f
  | _, _, _ => False
theorem sum_dcI {x : Int} {as : List Int} (hx : 0 ≤ x ∧ x < as.length) : (dcI x as).sum = as.sum - 1 := by
  unfold dcI
  rw [sum_setX (by omega)]
  omega
theorem rm_one {as : List Int} {x : Nat} (hx : x < as.length) : rmP as (fun y => decide (y = x)) = as.getD x 0 := by
  unfold rmP
  rw [sum_upd (g := fun _ => 0) hx fun i _ hn => by simp [hn], hall_step.sum_zeroN]
  simp
theorem hall_nn {as : List Int} {C : List (List Int)} (h : Hall as C) : ∀ x ∈ as, 0 ≤ x := fun x hx => by
  obtain ⟨i, hi⟩ := List.getElem?_of_mem hx
  have il := (List.getElem?_eq_some_iff.mp hi).1
  have := h fun y => decide (y = i)
  rw [rm_one il] at this
  have c := cf_nn (C := C) (p := fun y => decide (y = i))
  have e : as.getD i 0 = x := by rw [List.getD_eq_getElem?_getD, hi]; rfl
  omega
def Rng (C : List (List Int)) (n : Nat) : Prop := ∀ own ∈ C, ∀ y ∈ own, 0 ≤ y ∧ y < (n : Int)
theorem fit_hall : ∀ {C : List (List Int)} {as f : List Int}, Rng C as.length → Fits as C f → Hall as C
  | [], as, [], _, h => fun p => by
    have z : ∀ x ∈ as, x = 0 := h
    have e : rmP as p = 0 := by
      unfold rmP
      rw [List.map_congr_left (g := fun _ => (0 : Int)) fun i hi => by
        have : as.getD i 0 = 0 := z _ (gd_mem (List.mem_range.mp hi))
        rw [this]; split <;> rfl]
      exact hall_step.sum_zeroN _
    rw [e]
    simp [cfP]
  | own :: C, as, x :: f, hr, h => by
    obtain ⟨hx, hf⟩ := h
    exact hall_back hx (hr own (by simp) x hx) (fit_hall (by rw [dcI_len]; exact fun o ho => hr o (by simp [ho])) hf)
  | [], _, _ :: _, _, h => absurd h id
  | _ :: _, _, [], _, h => absurd h id
open Classical in
noncomputable def grd : List Int → List (List Int) → List Int
  | _, [] => []
  | as, own :: C => (own.filter fun x => decide (Hall (dcI x as) C)).headD 0 :: grd (dcI ((own.filter fun x => decide (Hall (dcI x as) C)).headD 0) as) C
theorem headF_mem {l : List Int} {p : Int → Bool} (h : ∃ x ∈ l, p x = true) : (l.filter p).headD 0 ∈ l ∧ p ((l.filter p).headD 0) = true := by
  obtain ⟨x, hx, hp⟩ := h
  have m : x ∈ l.filter p := List.mem_filter.mpr ⟨hx, hp⟩
  cases q : l.filter p with
  | nil => rw [q] at m; cases m
  | cons y r =>
    have : y ∈ l.filter p := by rw [q]; simp
    exact List.mem_filter.mp this
open Classical in
theorem grd_fit : ∀ {C : List (List Int)} {as : List Int}, Rng C as.length → Hall as C → as.sum = C.length → Fits as C (grd as C)
  | [], as, _, h, hs => fun x hx => by
    have nn := hall_nn h
    have := nn x hx
    have := le_sum nn x hx
    simp at hs
    omega
  | own :: C, as, hr, h, hs => by
    have ro := hr own (by simp)
    obtain ⟨x, hx, hh⟩ := hall_step ro h
    obtain ⟨m1, m2⟩ := headF_mem (l := own) (p := fun x => decide (Hall (dcI x as) C)) ⟨x, hx, decide_eq_true hh⟩
    have m2 := of_decide_eq_true m2
    refine ⟨m1, grd_fit (by rw [dcI_len]; exact fun o ho => hr o (by simp [ho])) m2 ?_⟩
    rw [sum_dcI (ro _ m1), hs]
    simp
end Lm


/-! which buckets fit: by all sets of variants -/
namespace Lm
open PySem PySem.Spec PyProof.Rows L2
theorem cmb_sub : ∀ {l : List Nat} {k : Nat} {s : List Nat}, s ∈ cmbL l k → s.Sublist l
  | _, 0, s, h => by
    have : s = [] := by simpa [cmbL] using h
    rw [this]
    exact List.nil_sublist _
  | [], k + 1, s, h => by simp [cmbL] at h
  | a :: l, k + 1, s, h => by
    rcases List.mem_append.mp h with w | w
    · obtain ⟨t, ht, rfl⟩ := List.mem_map.mp w
      exact (cmb_sub ht).cons_cons a
    · exact (cmb_sub w).cons a
/-- all sets of variants, the smaller ones first -/
def vsN (v : Nat) : List (List Nat) := (List.range (v + 1)).flatMap fun k => cmbs v k
theorem vs_sub {v : Nat} {s : List Nat} (h : s ∈ vsN v) : s.Sublist (List.range v) := by
  obtain ⟨k, _, hs⟩ := List.mem_flatMap.mp h
  exact cmb_sub hs
def inS (s : List Nat) : Pk := fun x => decide (x ∈ s)
/-- what a set of variants has, and how many buckets need it -/
def roomI (as : List Int) (s : List Nat) : Int := (s.map fun x => as.getD x 0).sum
theorem sum_sub {g : Nat → Int} : ∀ {l s : List Nat}, s.Sublist l → l.Nodup → (s.map g).sum = (l.map fun x => if decide (x ∈ s) then g x else 0).sum
  | _, _, .slnil, _ => rfl
  | a :: l, s, .cons _ h, nd => by
    have na : a ∉ s := fun m => (List.nodup_cons.mp nd).1 (h.subset m)
    rw [List.map_cons, List.sum_cons, sum_sub h (List.nodup_cons.mp nd).2, decide_eq_false na]
    simp
  | a :: l, _ :: s, .cons_cons _ h, nd => by
    have nd' := List.nodup_cons.mp nd
    rw [List.map_cons, List.sum_cons, List.map_cons, List.sum_cons, sum_sub h nd'.2]
    have e : (l.map fun x => if decide (x ∈ s) then g x else 0) = l.map fun x => if decide (x ∈ a :: s) then g x else 0 := List.map_congr_left fun x hx => by
      have : x ≠ a := fun e => nd'.1 (e ▸ hx)
      simp [this]
    rw [e]
    simp
theorem room_rm {as : List Int} {s : List Nat} (h : s ∈ vsN as.length) : roomI as s = rmP as (inS s) := sum_sub (vs_sub h) List.nodup_range
theorem fits_iff : ∀ {C : List (List Int)} {as f : List Int}, Rng C as.length → (Fits as C f ↔ f.length = C.length ∧ (∀ i < f.length, f.getD i 0 ∈ C.getD i []) ∧ ∀ x < as.length, (f.count (x : Int) : Int) = as.getD x 0)
  | [], as, [], _ => by
    constructor
    · intro h
      exact ⟨rfl, by simp, fun x hx => by
        have h' : ∀ x ∈ as, x = 0 := h
        rw [h' _ (gd_mem hx)]; rfl⟩
    · rintro ⟨_, _, h⟩ x hx
      obtain ⟨i, hi⟩ := List.getElem?_of_mem hx
      have := h i (List.getElem?_eq_some_iff.mp hi).1
      rw [List.getD_eq_getElem?_getD, hi] at this
      simpa using this.symm
  | own :: C, as, x :: f, hr => by
    have rC : Rng C (dcI x as).length := by rw [dcI_len]; exact fun o ho => hr o (by simp [ho])
    have ih := fits_iff (as := dcI x as) (f := f) rC
    have cnt : ∀ (x0 : 0 ≤ x ∧ x < as.length) (y : Nat), y < as.length → (((x :: f).count (y : Int) : Int) = as.getD y 0 ↔ (f.count (y : Int) : Int) = (dcI x as).getD y 0) := fun x0 y hy => by
      have e : (dcI x as).getD y 0 = if x.toNat = y then as.getD x.toNat 0 - 1 else as.getD y 0 := getD_setI (by omega)
      rw [e, List.count_cons]
      by_cases w : x.toNat = y
      · subst w
        have : x = ((x.toNat : Nat) : Int) := by omega
        rw [if_pos rfl, if_pos (by rw [beq_iff_eq]; exact this)]
        omega
      · have : ¬ x = (y : Int) := by omega
        rw [if_neg w, if_neg (by simpa using this)]
        omega
    show x ∈ own ∧ Fits (dcI x as) C f ↔ _
    rw [ih, dcI_len]
    constructor
    · rintro ⟨hx, h1, h2, h3⟩
      have x0 := hr own (by simp) x hx
      refine ⟨by simp [h1], fun i hi => ?_, fun y hy => (cnt x0 y hy).mpr (h3 y hy)⟩
      cases i with
      | zero => exact hx
      | succ i => exact h2 i (by simpa using hi)
    · rintro ⟨h1, h2, h3⟩
      have hx : x ∈ own := h2 0 (by simp)
      have x0 := hr own (by simp) x hx
      exact ⟨hx, by simpa using h1, fun i hi => h2 (i + 1) (by simpa using hi), fun y hy => (cnt x0 y hy).mp (h3 y hy)⟩
  | [], _, _ :: _, _ => by simp [Fits]
  | _ :: _, _, [], _ => by simp [Fits]
end Lm


/-! which buckets fit: the promises -/
namespace Lm
open PySem PySem.Spec PyProof.Rows L2
structure Mns (C : List (List Int)) (n : Nat) : Prop where
  rng : Rng C n
  len : C.length ≤ 20
  own : ∀ own ∈ C, own.length ≤ 5
section
variable {c : Ct} {Γ : List (Option Rs)} {tl : TE} {k : Kd} {C : List (List Int)} {d : PyData}
end
end Lm


/-! shortages, and how rules go on -/
namespace Lm
open PySem PySem.Spec PyProof.Rows L2
/-- the first set of variants that is too small -/
def shS (as : List Int) (C : List (List Int)) : Option (List Nat) := (vsN as.length).find? fun s => decide (roomI as s < cfP C (inS s))
theorem sh_some {as : List Int} {C : List (List Int)} {s : List Nat} (h : shS as C = some s) : s ∈ vsN as.length ∧ roomI as s < cfP C (inS s) := by
  unfold shS at h
  have q := List.find?_some h
  exact ⟨List.mem_of_find?_eq_some h, by simpa using q⟩
section
variable {c : Ct} {Γ : List (Option Rs)} {tl tb : TE} {kb : Kd} {C : List (List Int)} {cd : PyData}
end
/-! rules -/
end Lm


/-! walks over zip of a list and a tuple; pairs that are drawn; forbidden pairs, pins, menus, bounds by levels -/
namespace Lm
open PySem PySem.Spec PyProof.Rows L2
section
variable {X : Cx} {K : PySem.W.Frag} (hK : X.K = K)
include hK
end
section
variable {c : Ct} {H H' H0 H1 H2 H3 : Hp} {O : List Addr} {Γ Γ' Γ1 : List (Option Rs)}
variable {te ta tb tx ty : TE} {k ka kb kc : Kd} {d x y z : PyData} {ds es : List PyData}
theorem n_tup2 {Pc : PyData → Prop} (ha : Ev c ta Γ .v x) (hc : EvN c tx Γ .v Pc) : EvN c (tTupN (tCons ta (tCons tx tNil))) Γ .v (fun d => ∃ z, d = .tuple [x, z] ∧ Pc z) := fun H0 O H σ e Q q =>
  ha H0 O H σ e _ fun v H1 r1 s1 => hc H0 O H1 σ (e.on r1) _ fun w z H3 pz r3 s3 => by
    have b1 : Bo c (mns H3 O) v x := Res.on (k := .v) e r1 r3 s1
    have b3 : Bo c (mns H3 O) w z := s3
    refine ⟨by show 2 ≤ sizeLine; decide, newTk (c := c) fun p H4 hp sm tp => ?_⟩
    have r4 : Rr c H3 H4 := Rr.same sm
    have e3 := (e.on r1).on r3
    exact q _ _ H4 ⟨z, rfl, pz⟩ ((r1.tr r3).tr r4) (.tup (tpN_mns e3 r4 tp) ((BoAll.cons b1 (.cons b3 .nil)).mono e3.j (r4.mns e3.j e3.okO)))
end
/-! ### mathematics -/
/-- pairs of buckets and variants, ascending -/
structure Prd (F : List (List Int)) (v b : Nat) : Prop where
  row : ∀ r ∈ F, ∃ x y : Nat, r = [(x : Int), (y : Int)] ∧ x < b ∧ y < v
  asc : F.Pairwise fun a b => TS.code 1000 a < TS.code 1000 b
  len : F.length ≤ 36
theorem Prd.filter {F : List (List Int)} {v b : Nat} (h : Prd F v b) (p : List Int → Bool) : Prd (F.filter p) v b :=
  ⟨fun r hr => h.row r (List.mem_filter.mp hr).1, h.asc.filter _, Nat.le_trans (List.length_filter_le _ _) h.len⟩
/-- pins: of different buckets -/
structure Pin (P : List (List Int)) (v b : Nat) : Prop extends Prd P v b where
  fst : P.Pairwise fun p q => p.getD 0 0 < q.getD 0 0
def psL (as : List Int) (v : Int) (b : Nat) (C : List (List Int)) : List (List Int) := (allL v b).filter fun f => decide (countsI f v = as) && ((List.range b).map fun k => decide (f.getD k 0 ∈ C.getD k [])).all id
theorem mem_psL {as f : List Int} {v : Int} {b : Nat} {C : List (List Int)} (hv : 0 ≤ v) : f ∈ psL as v b C ↔ f.length = b ∧ (∀ x ∈ f, 0 ≤ x ∧ x < v) ∧ countsI f v = as ∧ ∀ k < b, f.getD k 0 ∈ C.getD k [] := by
  unfold psL
  rw [List.mem_filter, mem_allL hv, Bool.and_eq_true, List.all_map, List.all_eq_true]
  simp only [decide_eq_true_eq, List.mem_range, Function.comp, id]
  constructor
  · rintro ⟨⟨h1, h2⟩, h3, h4⟩; exact ⟨h1, h2, h3, h4⟩
  · rintro ⟨h1, h2, h3, h4⟩; exact ⟨⟨h1, h2⟩, h3, h4⟩
def wrtI (h : Int) (ls : List Int) (y : Int) : Int := (if y = h then 1 else 0) - ls.getD y.toNat 0
def gw (own : List Int) (h : Int) (ls : List Int) : Int := mxL (own.map (wrtI h ls))
def gwS (C : List (List Int)) (f ls : List Int) : Int := ((C.zip f).map fun p => gw p.1 p.2 ls).sum
def mulI (a b : Int) : Int := a * b
theorem gw_ge {own ls : List Int} {h y : Int} (hy : y ∈ own) : wrtI h ls y ≤ gw own h ls := mxL_le _ (List.mem_map_of_mem hy)
/-- no row keeps more than the bound, less the levels it takes -/
theorem kept_le {ls : List Int} : ∀ {C : List (List Int)} {f r : List Int}, C.length = f.length → r.length = f.length → (∀ k < r.length, r.getD k 0 ∈ C.getD k []) →
    (f.length : Int) - zs ne1 f r ≤ gwS C f ls + (r.map fun y => ls.getD y.toNat 0).sum
  | [], [], [], _, _, _ => by simp [gwS, zs]
  | own :: C, h :: f, y :: r, h1, h2, hm => by
    have ih := kept_le (ls := ls) (C := C) (f := f) (r := r) (by simpa using h1) (by simpa using h2) fun k hk => by have := hm (k + 1) (by simpa using hk); simpa using this
    have m0 : y ∈ own := by have := hm 0 (by simp); simpa using this
    have g := gw_ge (ls := ls) (h := h) m0
    have e : gwS (own :: C) (h :: f) ls = gw own h ls + gwS C f ls := by simp [gwS]
    have en : ne1 h y = if h = y then 0 else 1 := rfl
    rw [zs_cons, e, en, List.map_cons, List.sum_cons, List.length_cons]
    unfold wrtI at g
    by_cases q : h = y
    · rw [if_pos q.symm] at g
      rw [if_pos q]
      omega
    · rw [if_neg (fun z => q z.symm)] at g
      rw [if_neg q]
      omega
  | [], _ :: _, _, h, _, _ => by simp at h
  | _ :: _, [], _, h, _, _ => by simp at h
  | _, [], _ :: _, _, h, _ => by simp at h
  | _, _ :: _, [], _, h, _ => by simp at h
theorem nil_sum {α : Type} : ∀ l : List α, (l.map fun _ => (0 : Int)).sum = 0
  | [] => rfl
  | _ :: l => by rw [List.map_cons, List.sum_cons, nil_sum l]; rfl
theorem pick_sum {g : Nat → Int} {x : Nat} : ∀ n : Nat, x < n → ((List.range n).map fun k => if k = x then g k else 0).sum = g x
  | 0, h => by omega
  | n + 1, h => by
    rw [List.range_succ, List.map_append, List.sum_append, List.map_singleton, List.sum_singleton]
    by_cases e : x = n
    · subst e
      have : ((List.range x).map fun k => if k = x then g k else 0) = (List.range x).map fun _ => (0 : Int) := List.map_congr_left fun k hk => if_neg (by have := List.mem_range.mp hk; omega)
      rw [this, if_pos rfl, nil_sum]
      omega
    · rw [pick_sum n (by omega), if_neg (fun z => e z.symm)]
      omega
/-- what the levels give in all -/
theorem lev_sum {ls : List Int} {v : Nat} (hl : ls.length = v) : ∀ {r : List Int}, (∀ x ∈ r, 0 ≤ x ∧ x < (v : Int)) → (r.map fun y => ls.getD y.toNat 0).sum = zs mulI (countsI r v) ls
  | [], _ => by
    unfold zs
    rw [countsI_len, Int.toNat_natCast]
    have : ((List.range v).map fun j => mulI ((countsI [] v).getD j 0) (ls.getD j 0)) = (List.range v).map fun _ => (0 : Int) := List.map_congr_left fun j hj => by
      rw [countsI_get (by have := List.mem_range.mp hj; omega)]
      simp [mulI]
    rw [this, nil_sum]
    rfl
  | y :: r, h => by
    have ih := lev_sum hl (r := r) fun x hx => h x (by simp [hx])
    obtain ⟨y0, y1⟩ := h y (by simp)
    obtain ⟨Y, rfl⟩ := Int.eq_ofNat_of_zero_le y0
    rw [List.map_cons, List.sum_cons, ih, Int.toNat_natCast]
    unfold zs
    rw [countsI_len, countsI_len, Int.toNat_natCast]
    have e : ∀ j ∈ List.range v, mulI ((countsI ((Y : Int) :: r) v).getD j 0) (ls.getD j 0) = (if j = Y then ls.getD j 0 else 0) + mulI ((countsI r v).getD j 0) (ls.getD j 0) := fun j hj => by
      have hj' : (j : Int) < v := by have := List.mem_range.mp hj; omega
      rw [countsI_get hj', countsI_get hj', List.count_cons]
      unfold mulI
      by_cases q : j = Y
      · subst q
        simp [Int.add_mul]
        omega
      · have : ¬ ((Y : Int) = (j : Int)) := by omega
        simp [q, this]
    rw [List.map_congr_left e]
    have add : ∀ (f g : Nat → Int) (l : List Nat), (l.map fun i => f i + g i).sum = (l.map f).sum + (l.map g).sum := fun f g l => by
      induction l with
      | nil => rfl
      | cons a l ih => rw [List.map_cons, List.sum_cons, List.map_cons, List.sum_cons, List.map_cons, List.sum_cons, ih]; omega
    rw [add, pick_sum (g := fun j => ls.getD j 0) v (by omega)]
/-- no possible assignment keeps more than the bound -/
theorem weak {as f r ls : List Int} {v b : Nat} {C : List (List Int)} (hC : C.length = b) (hf : f.length = b) (hl : ls.length = v) (hr : r ∈ psL as v b C) : [] ∉ C ∧ (b : Int) - zs ne1 f r ≤ zs mulI as ls + gwS C f ls := by
  obtain ⟨h1, h2, h3, h4⟩ := (mem_psL (by omega)).mp hr
  refine ⟨fun z => ?_, ?_⟩
  · obtain ⟨k, hk, e⟩ := List.getElem_of_mem z
    have := h4 k (by omega)
    rw [List.getD_eq_getElem?_getD, List.getD_eq_getElem?_getD, List.getElem?_eq_getElem hk, e] at this
    simp at this
  · have := kept_le (ls := ls) (C := C) (f := f) (r := r) (by omega) (by omega) fun k hk => h4 k (by omega)
    rw [lev_sum hl h2, h3] at this
    omega
end Lm


/-! forbidden pairs and pins that are drawn; promises -/
namespace Lm
open PySem PySem.Spec PyProof.Rows L2
structure PrdN (F : List (List Int)) (v n m : Nat) : Prop where
  row : ∀ r ∈ F, ∃ x y : Nat, r = [(x : Int), (y : Int)] ∧ y < v ∧ x * 1000 + y < n * 1000 + m
  asc : F.Pairwise fun a b => TS.code 1000 a < TS.code 1000 b
  len : F.length ≤ n * v + m
theorem PrdN.nil {v : Nat} : PrdN [] v 0 0 := ⟨by simp, List.Pairwise.nil, by simp⟩
structure PinN (P : List (List Int)) (v n : Nat) : Prop where
  row : ∀ r ∈ P, ∃ x y : Nat, r = [(x : Int), (y : Int)] ∧ x < n ∧ y < v
  fst : P.Pairwise fun p q => p.getD 0 0 < q.getD 0 0
  len : P.length ≤ n
theorem PinN.nil {v : Nat} : PinN [] v 0 := ⟨by simp, List.Pairwise.nil, by simp⟩
theorem Pin.nil {v b : Nat} : Pin [] v b := { row := by simp, fst := List.Pairwise.nil, len := by simp, asc := List.Pairwise.nil }
structure Exc (as f : List Int) (F P : List (List Int)) (v b : Nat) : Prop where
  v1 : 1 ≤ v
  v5 : v ≤ 5
  b6 : b ≤ 6
  asg : Asg f (v : Int)
  len : f.length = b
  alc : Alc as (v : Int) (b : Int)
  prd : Prd F v b
  pin : Pin P v b
end Lm


/-! lists that stay: displays of anything, put together, subscripts -/
namespace Lm
open PySem PySem.Spec PyProof.Rows L2
section
variable {X : Cx} {K : PySem.W.Frag} (hK : X.K = K)
include hK
end
section
variable {c : Ct} {Γ : List (Option Rs)} {te ta tb : TE} {tr : TA} {k ka kb : Kd} {d : PyData} {ds es : List PyData}
theorem Ev.frz (h : Ev c te Γ .o d) : Ev c te Γ .v d := fun H0 O H σ e Q q => h H0 O H σ e _ fun v H2 r s => q v H2 r (Res.frozen e r s ko_ne)
/-- a new list of things that stay -/
theorem newV {H0 H H2 : Hp} {O : List Addr} {σ : L2.St} {xs : List V} {p : Addr} (e : Env c H0 O H2 σ Γ) (al : BoAll c (mns H2 O) xs ds) (hp : H2 p = none) : Bo c (mns (upd H2 p (.lst xs)) O) (.ref p) (.list ds) := by
  have sm : Same H2 (upd H2 p (.lst xs)) := fun b o z => by rw [upd_ne (ne_of_none z hp)]; exact z
  have r4 : Rr c H2 (upd H2 p (.lst xs)) := Rr.same sm
  have no := new_notO e hp
  refine .lst (okA.fresh e.jH hp) (.inl ?_) (al.mono e.j (r4.mns e.j e.okO))
  left
  rw [mns_out no]
  exact upd_same
theorem e_lstV (h : EvA c tr Γ true ds) (hl : ds.length ≤ 1000000) : Ev c (tLst tr) Γ .v (.list ds) := fun H0 O H σ e Q q =>
  h H0 O H σ e _ fun vs H1 r s => by
    have s' := BoAll.vm s
    refine ⟨by rw [s'.len]; exact sizeOk hl, fun p hp => q _ _ (r.tr (Rr.same fun b u z => by rw [upd_ne (ne_of_none z hp)]; exact z)) (newV (H := H1) (e.on r) s' hp)⟩
theorem n_ixLV {P : PyData → Prop} {Q : Int → Prop} (ha : Ev c ta Γ .v (.list ds)) (hb : EvN c tb Γ kb (SomeI Q)) (hr : ∀ i, Q i → ∃ d, atI ds i = some d ∧ P d) : EvN c (tOp (rIx c.K) ta tb) Γ .v P := fun H0 O H σ e Q' q =>
  ha H0 O H σ e _ fun v H1 r1 s1 => hb H0 O H1 σ (e.on r1) _ fun u y H2 ⟨i, hi, qi⟩ r2 s2 => by
    obtain ⟨d, he, pd⟩ := hr i qi
    subst hi
    have bv : Bo c (mns H2 O) v (.list ds) := Res.on (k := .v) e r1 r2 s1
    obtain ⟨p, xs, rfl, _, s, al⟩ := bv.lst'
    obtain ⟨x, hx, bx⟩ := atI_bo al he
    exact .inl ⟨p, xs, i, x, rfl, (Res.bo (e.on r1) s2).int', mns_same.seq s, hx, q x d H2 pd (r1.tr r2) bx⟩
end
end Lm


/-! possible assignments: which come first, what is none -/
namespace Lm
open PySem PySem.Spec PyProof.Rows L2
theorem mem_ps {as f : List Int} {v b : Nat} {C : List (List Int)} (al : as.length = v) (hC : C.length = b) (hr : Rng C v) : f ∈ psL as v b C ↔ Fits as C f := by
  rw [mem_psL (by omega), fits_iff (by rw [al]; exact hr), hC]
  have cnt : (countsI f v = as ↔ ∀ x < as.length, (f.count (x : Int) : Int) = as.getD x 0) := by
    constructor
    · intro h x hx
      rw [← h, countsI_get (by omega)]
    · intro h
      apply List.ext_getElem
      · rw [countsI_len]; omega
      · intro i h1 h2
        have e1 : (countsI f v).getD i 0 = (f.count (i : Int) : Int) := countsI_get (by omega)
        rw [h i h2] at e1
        simpa [List.getD_eq_getElem?_getD, h1, h2] using e1
  constructor
  · rintro ⟨h1, h2, h3, h4⟩
    exact ⟨h1, fun i hi => h4 i (by omega), cnt.mp h3⟩
  · rintro ⟨h1, h2, h3⟩
    refine ⟨h1, fun x hx => ?_, cnt.mpr h3, fun k hk => h2 k (by omega)⟩
    obtain ⟨i, hi⟩ := List.getElem?_of_mem hx
    have il := (List.getElem?_eq_some_iff.mp hi).1
    have m := h2 i il
    have fx : f.getD i 0 = x := by rw [List.getD_eq_getElem?_getD, hi]; rfl
    rw [fx] at m
    exact hr _ (gL_mem (by omega)) x m
end Lm


/-! entries of families -/
namespace Lm
open PySem PySem.Spec PyProof.Rows L2
def entI (i : Nat) (n : Int) : List (List Int) := (List.range n.toNat).map fun (p : Nat) => [((i + 1 : Nat) : Int), (p : Int)]
def entL (ns : List Int) : List (List Int) := (List.range ns.length).flatMap fun i => entI i (ns.getD i 0)
/-- the entries -/
theorem mem_ent {ns e : List Int} : e ∈ entL ns ↔ ∃ x y : Nat, e = [((x + 1 : Nat) : Int), (y : Int)] ∧ x < ns.length ∧ (y : Int) < ns.getD x 0 := by
  unfold entL entI
  simp only [List.mem_flatMap, List.mem_map, List.mem_range]
  constructor
  · rintro ⟨x, hx, y, hy, rfl⟩
    exact ⟨x, y, rfl, hx, by omega⟩
  · rintro ⟨x, y, rfl, hx, hy⟩
    exact ⟨x, hx, y, by omega, rfl⟩
end Lm


/-! sorted(xs), xs a list of rows -/
namespace L2
open PySem PySem.Spec PyProof.Rows
end L2
namespace Lm
open PySem PySem.Spec PyProof.Rows L2
section
variable {X : Cx} {K : PySem.W.Frag} (hK : X.K = K)
include hK
end
section
variable {c : Ct} {Γ : List (Option Rs)} {te : TE} {k : Kd}
end
end Lm


/-! tuple * -1 -/
namespace L2
open PySem PySem.Spec PyProof.Rows
end L2
namespace Lm
open PySem PySem.Spec PyProof.Rows L2
section
variable {X : Cx} {K : PySem.W.Frag} (hK : X.K = K)
include hK
end
section
variable {c : Ct} {Γ : List (Option Rs)} {ta tb : TE} {ka kb : Kd} {ds : List PyData} {i : Int}
end
end Lm


namespace Lm
open PySem PySem.Spec PyProof.Rows L2

/-! ### pairs of entries that are used together -/
abbrev E2 := List Int × List Int
structure UsP (A : List (List Int)) (s : List Int) (k : Nat) (Ps : List E2) : Prop where
  nd : Ps.Nodup
  mem : ∀ e f, (e, f) ∈ Ps ↔ (∃ r ∈ A, e ∈ entL r ∧ f ∈ entL r ∧ e ≠ f) ∨ (e ∈ (entL s).take k ∧ f ∈ entL s ∧ e ≠ f)
theorem UsP.nil : UsP [] [] 0 [] := ⟨List.nodup_nil, fun e f => by simp⟩
def newP (s e : List Int) (Ps : List E2) : List E2 := ((entL s).filter fun g => !decide (e = g) && !decide ((e, g) ∈ Ps)).map fun g => (e, g)
theorem UsP.step {A : List (List Int)} {s e : List Int} {k : Nat} {Ps : List E2} (h : UsP A s k Ps) (nd : (entL s).Nodup) (hk : (entL s)[k]? = some e) : UsP A s (k + 1) (Ps ++ newP s e Ps) := by
  refine ⟨?_, fun a b => ?_⟩
  · rw [List.nodup_append]
    refine ⟨h.nd, ?_, fun x hx y hy z => ?_⟩
    · exact List.Pairwise.map _ (fun a b ne z => ne (Prod.mk.inj z).2) (nd.filter _)
    · obtain ⟨g, hg, rfl⟩ := List.mem_map.mp hy
      have := (List.mem_filter.mp hg).2
      rw [Bool.and_eq_true] at this
      subst z
      have w := this.2
      rw [decide_eq_true hx] at w
      cases w
  · rw [List.mem_append, h.mem, List.take_add_one, hk]
    constructor
    · rintro ((w | w) | w)
      · exact .inl w
      · exact .inr ⟨List.mem_append_left _ w.1, w.2⟩
      · obtain ⟨g, hg, z⟩ := List.mem_map.mp w
        obtain ⟨rfl, rfl⟩ := Prod.mk.inj z
        obtain ⟨m, q⟩ := List.mem_filter.mp hg
        rw [Bool.and_eq_true] at q
        refine .inr ⟨by simp, m, ?_⟩
        have := q.1
        simpa using this
    · rintro (w | ⟨w1, w2, w3⟩)
      · exact .inl (.inl w)
      · rcases List.mem_append.mp w1 with q | q
        · exact .inl (.inr ⟨q, w2, w3⟩)
        · have q : a = e := by simpa using q
          subst q
          by_cases m : (a, b) ∈ Ps
          · exact .inl ((h.mem a b).mp m)
          · refine .inr (List.mem_map.mpr ⟨b, List.mem_filter.mpr ⟨w2, ?_⟩, rfl⟩)
            simp [m, w3]
theorem UsP.len {A : List (List Int)} {s : List Int} {k : Nat} {Ps : List E2} (h : UsP A s k Ps) (hA : ∀ r ∈ s :: A, r.length ≤ 4 ∧ ∀ x ∈ r, x ≤ 10) : Ps.length ≤ 1600 := by
  have big : ∀ r ∈ s :: A, ∀ e ∈ entL r, e ∈ entL [10, 10, 10, 10] := fun r hr e he => by
    obtain ⟨x, y, rfl, hx, hy⟩ := mem_ent.mp he
    have hs' := hA r hr
    have := hs'.2 _ (gd_mem hx)
    refine mem_ent.mpr ⟨x, y, rfl, by show x < 4; omega, ?_⟩
    have x4 : x < 4 := by omega
    have : ([10, 10, 10, 10] : List Int).getD x 0 = 10 := by
      match x, x4 with
      | 0, _ => rfl
      | 1, _ => rfl
      | 2, _ => rfl
      | 3, _ => rfl
    omega
  have l40 : (entL [10, 10, 10, 10]).length = 40 := by decide
  refine Nat.le_trans (nodup_sub (m := (entL [10, 10, 10, 10]).flatMap fun e => (entL [10, 10, 10, 10]).map fun f => (e, f)) h.nd fun p hp => ?_) ?_
  · obtain ⟨e, f⟩ := p
    have m : ∃ r ∈ s :: A, e ∈ entL r ∧ f ∈ entL r := by
      rcases (h.mem e f).mp hp with ⟨r, hr, h1, h2, _⟩ | ⟨h1, h2, _⟩
      · exact ⟨r, List.mem_cons_of_mem _ hr, h1, h2⟩
      · exact ⟨s, List.mem_cons_self, List.mem_of_mem_take h1, h2⟩
    obtain ⟨r, hr, h1, h2⟩ := m
    exact List.mem_flatMap.mpr ⟨e, big r hr e h1, List.mem_map_of_mem (big r hr f h2)⟩
  · have : ∀ (l m : List (List Int)), (l.flatMap fun e => m.map fun f => (e, f)).length = l.length * m.length := by
      intro l m
      induction l with
      | nil => simp
      | cons a l ih => rw [List.flatMap_cons, List.length_append, ih, List.length_map, List.length_cons, Nat.succ_mul]; omega
    rw [this, l40]
    decide
end Lm


namespace Lm
open PySem PySem.Spec PyProof.Rows L2

/-! ### while -/
section
variable {c : Ct} {H0 H : Hp} {O : List Addr} {σ : L2.St} {Γ : List (Option Rs)} {P : Out → Prop} {tc : TT} {tb u : TS}
end

/-! ### levels: the mathematics -/
def bvI (own : List Int) (h : Int) (ls : List Int) : List Int := own.filter fun y => decide (wrtI h ls y = gw own h ls)
def bvL (C : List (List Int)) (f ls : List Int) : List (List Int) := (C.zip f).map fun p => bvI p.1 p.2 ls
def upS (c : Int) (p : Pk) (ls : List Int) : List Int := (List.range ls.length).map fun y => ls.getD y 0 + c * b1 (p y)
def bnd (as f : List Int) (C : List (List Int)) (ls : List Int) : Int := zs mulI as ls + gwS C f ls
theorem upS_get {c : Int} {p : Pk} {ls : List Int} {y : Nat} (h : y < ls.length) : (upS c p ls).getD y 0 = ls.getD y 0 + c * b1 (p y) := by
  unfold upS
  rw [List.getD_eq_getElem?_getD, List.getElem?_map, List.getElem?_range h]
  rfl
theorem sumM_add {α : Type} (g h : α → Int) : ∀ l : List α, (l.map fun x => g x + h x).sum = (l.map g).sum + (l.map h).sum
  | [] => rfl
  | a :: l => by simp only [List.map_cons, List.sum_cons, sumM_add g h l]; omega
theorem sumM_mul {α : Type} (c : Int) (h : α → Int) : ∀ l : List α, (l.map fun x => c * h x).sum = c * (l.map h).sum
  | [] => by simp
  | a :: l => by simp only [List.map_cons, List.sum_cons, sumM_mul c h l, Int.mul_add]
theorem zs_up {as ls : List Int} (c : Int) (p : Pk) (h : as.length = ls.length) : zs mulI as (upS c p ls) = zs mulI as ls + c * rmP as p := by
  unfold zs rmP
  rw [← sumM_mul, ← sumM_add]
  congr 1
  refine List.map_congr_left fun j hj => ?_
  have := List.mem_range.mp hj
  rw [upS_get (by omega)]
  unfold mulI b1
  rw [Int.mul_add]
  by_cases q : p j = true
  · rw [if_pos q, if_pos q, Int.mul_one, Int.mul_comm c]
  · rw [if_neg q, if_neg q]; simp
theorem wrt_up {h c : Int} {p : Pk} {ls : List Int} {y : Int} (y0 : 0 ≤ y) (yl : y < ls.length) : wrtI h (upS c p ls) y = wrtI h ls y - c * b1 (p y.toNat) := by
  unfold wrtI
  rw [upS_get (by omega)]
  omega
theorem gw_mem {own ls : List Int} {h : Int} (ne : own ≠ []) : ∃ y ∈ own, wrtI h ls y = gw own h ls := by
  obtain ⟨y, hy, e⟩ := List.mem_map.mp (mxL_mem (ns := own.map (wrtI h ls)) (by rw [List.length_map]; exact List.length_pos_iff.mpr ne))
  exact ⟨y, hy, e⟩
theorem mem_bvI {own ls : List Int} {h y : Int} : y ∈ bvI own h ls ↔ y ∈ own ∧ wrtI h ls y = gw own h ls := by
  unfold bvI
  rw [List.mem_filter, decide_eq_true_iff]
theorem ins_iff {p : Pk} {own : List Int} : insP p own = true ↔ ∀ y ∈ own, p y.toNat = true := by
  unfold insP
  rw [List.all_eq_true]
theorem b1_nn (b : Bool) : 0 ≤ b1 b ∧ b1 b ≤ 1 := by cases b <;> simp [b1]
theorem gw_step {own ls : List Int} {h : Int} {p : Pk} (ne : own ≠ []) (hr : ∀ y ∈ own, 0 ≤ y ∧ y < ls.length) : gw own h (upS 1 p ls) = gw own h ls - b1 (insP p (bvI own h ls)) := by
  have wr : ∀ y ∈ own, wrtI h (upS 1 p ls) y = wrtI h ls y - b1 (p y.toNat) := fun y hy => by
    rw [wrt_up (hr y hy).1 (hr y hy).2]; omega
  obtain ⟨y1, m1, e1⟩ := gw_mem (h := h) (ls := upS 1 p ls) ne
  by_cases hc : insP p (bvI own h ls) = true
  · rw [hc]
    have hp := ins_iff.mp hc
    obtain ⟨y0, m0, e0⟩ := gw_mem (h := h) (ls := ls) ne
    have g0 := gw_ge (ls := upS 1 p ls) (h := h) m0
    rw [wr y0 m0, hp y0 (mem_bvI.mpr ⟨m0, e0⟩), e0] at g0
    have g1 := gw_ge (ls := ls) (h := h) m1
    rw [wr y1 m1] at e1
    show gw own h (upS 1 p ls) = gw own h ls - 1
    have b11 : b1 true = 1 := rfl
    by_cases q : wrtI h ls y1 = gw own h ls
    · rw [hp y1 (mem_bvI.mpr ⟨m1, q⟩)] at e1
      omega
    · have := b1_nn (p y1.toNat)
      omega
  · have hc' : insP p (bvI own h ls) = false := by simpa using hc
    rw [hc']
    have : ∃ y ∈ bvI own h ls, p y.toNat = false := by
      unfold insP at hc'
      rw [List.all_eq_false] at hc'
      obtain ⟨y, hy, q⟩ := hc'
      exact ⟨y, hy, by simpa using q⟩
    obtain ⟨y0, hy0, q0⟩ := this
    obtain ⟨m0, e0⟩ := mem_bvI.mp hy0
    have g0 := gw_ge (ls := upS 1 p ls) (h := h) m0
    rw [wr y0 m0, q0, e0] at g0
    have g1 := gw_ge (ls := ls) (h := h) m1
    rw [wr y1 m1] at e1
    have := b1_nn (p y1.toNat)
    have b10 : b1 false = 0 := rfl
    omega
theorem bv_cons {own : List Int} {C : List (List Int)} {h : Int} {f ls : List Int} : bvL (own :: C) (h :: f) ls = bvI own h ls :: bvL C f ls := rfl
theorem gwS_cons {own : List Int} {C : List (List Int)} {h : Int} {f ls : List Int} : gwS (own :: C) (h :: f) ls = gw own h ls + gwS C f ls := by simp [gwS]
theorem gwS_step {p : Pk} {ls : List Int} : ∀ {C : List (List Int)} {f : List Int}, C.length = f.length → [] ∉ C → Rng C ls.length → gwS C f (upS 1 p ls) = gwS C f ls - cfP (bvL C f ls) p
  | [], [], _, _, _ => by simp [gwS, bvL, cfP]
  | own :: C, h :: f, hl, ne, hr => by
    have ih := gwS_step (p := p) (ls := ls) (C := C) (f := f) (by simpa using hl) (fun z => ne (List.mem_cons_of_mem _ z)) fun o ho => hr o (List.mem_cons_of_mem _ ho)
    rw [gwS_cons, gwS_cons, bv_cons, cf_cons, ih, gw_step (fun z => ne (by rw [z]; exact List.mem_cons_self)) (hr own List.mem_cons_self)]
    omega
  | [], _ :: _, h, _, _ => by simp at h
  | _ :: _, [], h, _, _ => by simp at h
theorem bnd_step {as f ls : List Int} {C : List (List Int)} {p : Pk} (hl : C.length = f.length) (ne : [] ∉ C) (hr : Rng C ls.length) (ha : as.length = ls.length) : bnd as f C (upS 1 p ls) = bnd as f C ls + rmP as p - cfP (bvL C f ls) p := by
  unfold bnd
  rw [zs_up 1 p ha, gwS_step hl ne hr]
  omega
end Lm


namespace Lm
open PySem PySem.Spec PyProof.Rows L2

/-! ### the first levels -/
/-- what the levels of a setting speak of -/
structure LvOk (as f : List Int) (C : List (List Int)) (v b : Nat) : Prop where
  asl : as.length = v
  fl : f.length = b
  cl : C.length = b
  mns : Mns C v
  pw : ∀ own ∈ C, own.Pairwise (· < ·)
  v5 : v ≤ 5
  b20 : b ≤ 20
  alc : Alc as (v : Int) (b : Int)
variable {as f : List Int} {C : List (List Int)} {v b : Nat}
theorem LvOk.hall_ps (h : LvOk as f C v b) : Hall as C ↔ ∃ r, r ∈ psL as v b C := by
  have hr : Rng C as.length := by rw [h.asl]; exact h.mns.rng
  have sum : as.sum = C.length := by rw [h.alc.sum, h.cl]
  constructor
  · intro ha
    exact ⟨_, (mem_ps h.asl h.cl h.mns.rng).mpr (grd_fit hr ha sum)⟩
  · rintro ⟨r, hm⟩
    exact fit_hall hr ((mem_ps h.asl h.cl h.mns.rng).mp hm)
theorem zs_b : ∀ {f r : List Int}, f.length = r.length → 0 ≤ zs ne1 f r ∧ zs ne1 f r ≤ f.length
  | [], [], _ => by simp [zs]
  | x :: f, y :: r, h => by
    have := zs_b (f := f) (r := r) (by simpa using h)
    have e : ne1 x y = if x = y then 0 else 1 := rfl
    rw [zs_cons, e, List.length_cons]
    split <;> omega
  | [], _ :: _, h => by simp at h
  | _ :: _, [], h => by simp at h
theorem LvOk.no_nil (h : LvOk as f C v b) (ha : Hall as C) : [] ∉ C := by
  obtain ⟨r, hr⟩ := h.hall_ps.mp ha
  exact (weak (ls := List.replicate v 0) h.cl h.fl (by simp) hr).1
theorem LvOk.nn (h : LvOk as f C v b) (ha : Hall as C) {ls : List Int} (hl : ls.length = v) : 0 ≤ bnd as f C ls := by
  obtain ⟨r, hr⟩ := h.hall_ps.mp ha
  have w := (weak (ls := ls) h.cl h.fl hl hr).2
  have rl := ((mem_psL (by omega)).mp hr).1
  have z := zs_b (f := f) (r := r) (by rw [h.fl, rl])
  have := h.fl
  unfold bnd
  omega
theorem LvOk.step (h : LvOk as f C v b) (ha : Hall as C) {ls : List Int} {s : List Nat} (hl : ls.length = v) (hs : shS as (bvL C f ls) = some s) : bnd as f C (upS 1 (inS s) ls) < bnd as f C ls := by
  rw [bnd_step (by rw [h.cl, h.fl]) (h.no_nil ha) (by rw [hl]; exact h.mns.rng) (by rw [h.asl, hl])]
  obtain ⟨h1, h2⟩ := sh_some hs
  rw [room_rm h1] at h2
  omega
end Lm


namespace Lm
open PySem PySem.Spec PyProof.Rows L2

/-! ### promises of keeping.py, for up to 20 buckets -/
structure ExcW (as f : List Int) (F P : List (List Int)) (v b : Nat) : Prop where
  v1 : 1 ≤ v
  v5 : v ≤ 5
  b6 : b ≤ 20
  asg : Asg f (v : Int)
  len : f.length = b
  alc : Alc as (v : Int) (b : Int)
  prd : Prd F v b
  pin : Pin P v b
theorem Exc.w {as f : List Int} {F P : List (List Int)} {v b : Nat} (h : Exc as f F P v b) : ExcW as f F P v b := ⟨h.v1, h.v5, by have := h.b6; omega, h.asg, h.len, h.alc, h.prd, h.pin⟩
variable {as f : List Int} {C : List (List Int)} {v b : Nat}
end Lm


namespace Lm
open PySem PySem.Spec PyProof.Rows L2
variable {as f : List Int} {C : List (List Int)} {v b : Nat}
theorem Prd.sub {F F' : List (List Int)} (h : Prd F v b) (s : F'.Sublist F) : Prd F' v b :=
  ⟨fun r hr => h.row r (s.subset hr), h.asc.sublist s, Nat.le_trans s.length_le h.len⟩
theorem Pin.sub {F F' : List (List Int)} (h : Pin F v b) (s : F'.Sublist F) : Pin F' v b :=
  ⟨h.toPrd.sub s, h.fst.sublist s⟩
end Lm


namespace Lm
open PySem PySem.Spec PyProof.Rows L2
section
variable {c : Ct} {H H' H0 H1 H2 H3 : Hp} {O : List Addr} {σ : L2.St} {Γ Γ' : List (Option Rs)} {te ta tx : TE} {k : Kd} {u : TS} {P : Out → Prop} {n : Nat} {x : PyData}
/-! ### where no list of one's own is alive, what a call answers may be kept, lists in it too -/
def bareB : List (Option Rs) → Bool
  | [] => true
  | some (.o _) :: _ => false
  | none :: Γ => bareB Γ
  | some (.v _) :: Γ => bareB Γ
  | some (.r _) :: Γ => bareB Γ
  | some (.d _) :: _ => false
  | some (.w _) :: _ => false
theorem Reps.bare {fp : List Addr} (h : Reps c O H σ Γ fp) : bareB Γ = true → Reps c [] H σ Γ [] := by
  induction h with
  | nil => intro _; exact .nil
  | @cons x s f fs σ Γ a b ih =>
    intro hb
    cases s with
    | none => exact .cons (f := []) (fs := []) rfl (ih hb)
    | some s =>
      cases s with
      | o d => cases hb
      | d u => cases hb
      | w ds => cases hb
      | v d =>
        obtain ⟨_, v, hv, bo⟩ := a
        exact .cons (f := []) (fs := []) ⟨rfl, v, hv, by rw [mns_nil]; exact Bo.same mns_same bo⟩ (ih hb)
      | r y => exact .cons (f := []) (fs := []) ⟨rfl, a.2⟩ (ih hb)
theorem Env.bare (e : Env c H0 O H σ Γ) (hb : bareB Γ = true) : Env c H0 [] H σ Γ := by
  obtain ⟨fp, hr, _, _⟩ := e.rep
  exact ⟨by rw [mns_nil]; exact e.rH, by rw [mns_nil]; exact e.jH, (fun a h => nomatch h), (fun a h => nomatch h), [], hr.bare hb, List.nodup_nil, fun a h => nomatch h⟩
theorem q_unpV {m : Nat} {gs : TGs} (Pd : PyData → Prop) (hb : bareB Γ = true) (h : EvN c te Γ k Pd)
    (p : ∀ d, Pd d → ∃ ds Γ' js, d = .tuple ds ∧ ds.length = m ∧ EvGs c gs (ds.map Im.d) Γ Γ' js ∧ Sd c u Γ' P) : Sd c (tSeq (tAsg te (gTupA c.K m gs)) u) Γ P := fun H0 O H σ D e0 s => by
  have e := e0.bare hb
  refine h H0 [] H σ e _ fun v d H2 pd r rs => ?_
  obtain ⟨ds, Γ', js, rfl, hn, hg, hu⟩ := p d pd
  have e2 := e.on r
  obtain ⟨a, xs, rfl, sl, al⟩ := (Res.bo e rs).tup'
  exact ⟨a, xs, rfl, .inl sl.sq, al.len.trans hn, hg H0 [] H2 σ H2 true xs e2 e2.jH Rr.rf (fun _ => by rw [mns_nil]; exact Rr.rf) (.ofFz al) _ fun σ' e' _ => hu H0 [] H2 σ' D e' s⟩
theorem q_asgB (Pd : PyData → Prop) (hb : bareB Γ = true) (h : EvN c te Γ k Pd) (p : ∀ d, Pd d → Sd c u (Γ.set n (some (.v d))) P) : Sd c (tSeq (tAsg te (gName n)) u) Γ P := fun H0 O H σ D e0 s => by
  have e := e0.bare hb
  refine h H0 [] H σ e _ fun v d H2 pd r rs => ?_
  have e2 := e.on r
  exact p d pd H0 [] H2 _ D (e2.setV (by rw [mns_nil]; exact Res.bo e rs)) s
end

/-! ### any evidence (k80) -/
end Lm


namespace Lm
open PySem PySem.Spec PyProof.Rows L2

/-! ### buckets and variants renamed in a setting -/
structure RnS (as as' : List Int) (C C' : List (List Int)) (v b : Nat) (os io nm im : List Int) : Prop where
  o : IsOrd os (b : Int)
  oi : IsOrd io (b : Int)
  q : IsOrd nm (v : Int)
  qi : IsOrd im (v : Int)
  o1 : ∀ k < b, gI io (gI os ((k : Nat) : Int)) = (k : Int)
  o2 : ∀ k < b, gI os (gI io ((k : Nat) : Int)) = (k : Int)
  q1 : ∀ k < v, gI im (gI nm ((k : Nat) : Int)) = (k : Int)
  q2 : ∀ k < v, gI nm (gI im ((k : Nat) : Int)) = (k : Int)
  al : as.length = v
  al' : as'.length = v
  cl : C.length = b
  cl' : C'.length = b
  rg : Rng C v
  rg' : Rng C' v
  sh : ∀ y < v, gI as' (gI nm ((y : Nat) : Int)) = gI as (y : Int)
  mn : ∀ k < b, ∀ y < v, (gI nm ((y : Nat) : Int) ∈ C'.getD (gI os ((k : Nat) : Int)).toNat [] ↔ (y : Int) ∈ C.getD k [])
section
variable {as as' f f' os io nm im : List Int} {C C' : List (List Int)} {v b : Nat}
theorem ord_nat {os : List Int} {m : Nat} (o : IsOrd os (m : Int)) {k : Nat} (hk : k < m) : ∃ j : Nat, gI os (k : Int) = (j : Int) ∧ j < m := by
  have r := o.rng _ (gd_mem (l := os) (j := k) (by have := o.len; omega))
  exact ⟨(os.getD k 0).toNat, by show os.getD k 0 = _; omega, by omega⟩
theorem RnS.symm (h : RnS as as' C C' v b os io nm im) : RnS as' as C' C v b io os im nm := by
  refine ⟨h.oi, h.o, h.qi, h.q, h.o2, h.o1, h.q2, h.q1, h.al', h.al, h.cl', h.cl, h.rg', h.rg, fun y hy => ?_, fun k hk y hy => ?_⟩
  · obtain ⟨z, ez, hz⟩ := ord_nat h.qi hy
    have := h.sh z hz
    rw [← ez, h.q2 y hy] at this
    exact this.symm
  · obtain ⟨z, ez, hz⟩ := ord_nat h.qi hy
    obtain ⟨j, ej, hj⟩ := ord_nat h.oi hk
    have := h.mn j hj z hz
    rw [← ez, ← ej, h.q2 y hy, h.o2 k hk, Int.toNat_natCast, ez] at this
    rw [ez, ej, Int.toNat_natCast]
    exact this.symm
end
end Lm


namespace Lm
open PySem PySem.Spec PyProof.Rows L2
/-! ### a def that answers or raises -/
theorem fn_or {P : Program} {w : World} {K : PySem.W.Frag} {mg : Str → Option Value} {base : Heap} {CX : CXT} {k : Nat} {f : Addr} {fd : FuncData} {ps : List Str} {sp sp' : Sp} (F : FnOk P w K mg base CX k f fd ps sp) (G : FnOk P w K mg base CX k f fd ps sp') :
    FnOk P w K mg base CX k f fd ps (fun vs H Q E => sp vs H Q E ∨ sp' vs H Q E) :=
  ⟨fun vs H Q E h => h.elim (F.len vs H Q E) (G.len vs H Q E), fun A outer s H args us vs Q E hr he hb hv hs => hs.elim (F.run A outer s H args us vs Q E hr he hb hv) (G.run A outer s H args us vs Q E hr he hb hv)⟩
end Lm


/-! itertools.permutations(range(n), k), walked -/
namespace PrmK
open PySem PySem.Spec PyProof.Rows L2
end PrmK


/-! itertools.permutations(range(n), k): made, its turns -/
namespace PrmK
open PySem PySem.Spec PyProof.Rows L2
end PrmK


/-! itertools.permutations: its turns -/
namespace PrmK
open PySem PySem.Spec PyProof.Rows L2
section
variable {prog : Program} {w : World} {A : Around} {E : Value → Shared → Prop} {s : Shared} {it T : Addr} {bf : Value} {ns : List Nat} {r : Nat} {xs : Array Value}
end
end PrmK


/-! itertools.permutations(range(n), k): made, its turns -/
namespace PrmK
open PySem PySem.Spec PyProof.Rows L2
end PrmK


/-! list(permutations(range(n))) -/
namespace PrmK
open PySem PySem.Spec PyProof.Rows L2
end PrmK
namespace Lm
open PySem PySem.Spec PyProof.Rows L2 PrmK
section
variable {prog : Program} {w : World} {A : Around} {E : Value → Shared → Prop} {s : Shared} {it T : Addr} {n k : Nat} {seq : List PrS} {xs : Array Value}
end
section
variable {prog : Program} {w : World} {A : Around} {R : Result → Shared → Prop}
end
section
variable {prog : Program} {w : World} {A : Around} {E : Value → Shared → Prop} {s : Shared}
end
section
variable {c : Ct} {H H' : Hp} {Γ : List (Option Rs)} {te : TE} {kd : Kd}
end
end Lm


/-! sorted(xs), xs a list of data that can be compared -/
namespace L2
open PySem PySem.Spec PyProof.Rows
end L2
namespace Lm
open PySem PySem.Spec PyProof.Rows L2
section
variable {X : Cx} {K : PySem.W.Frag} (hK : X.K = K)
include hK
end
section
variable {c : Ct} {Γ : List (Option Rs)} {te : TE} {k : Kd}
end
end Lm


/-! a comprehension whose items stay, lists in them too; a for loop over such things -/
namespace Lm
open PySem PySem.Spec PyProof.Rows L2
section
variable {c : Ct} {H H' H0 H1 H2 H3 H4 : Hp} {O : List Addr} {σ : L2.St} {Γ Γ' : List (Option Rs)} {te ta tb tx : TE} {tr : TA} {k ka kb : Kd} {u : TS} {P : Out → Prop} {n : Nat} {x d : PyData} {ds : List PyData} {fz : Bool}
theorem mns_own {D : Addr} {o : HO} (hD : H D = none) : mns (upd H D o) (D :: O) = mns H O := by
  funext a
  by_cases q : a = D
  · subst q
    rw [mns_in (by simp)]
    by_cases w : a ∈ O
    · rw [mns_in w]
    · rw [mns_out w, hD]
  · by_cases w : a ∈ O
    · rw [mns_in w, mns_in (by simp [w])]
    · rw [mns_out w, mns_out (by simp [w, q]), upd_ne q]
/-- with one more list of one's own -/
theorem Env.own {D : Addr} {acc : List V} (e : Env c H0 O H σ Γ) (hD : H D = none) (r : Rr c H H') (h : H' D = some (.lst acc)) (rm : Rr c (mns H O) (mns H' (D :: O))) : Env c H0 (D :: O) H' σ Γ := by
  refine ⟨e.r0.tr rm, rm.2 e.j, fun a ha => ?_, fun a ha => ?_, ?_⟩
  · rcases List.mem_cons.mp ha with w | w
    · subst w
      refine e.back0 ?_
      by_cases z : a ∈ O
      · exact mns_in z
      · rw [mns_out z]; exact hD
    · exact e.fr a w
  · rcases List.mem_cons.mp ha with w | w
    · subst w; exact ⟨_, h, trivial⟩
    · obtain ⟨xs, q, hq⟩ := e.dm a w
      exact ⟨xs, r.1 a _ (e.okO a w) q, hq⟩
  · obtain ⟨fp, h, nd, sub⟩ := e.rep
    refine ⟨fp, h.map fun x s f q z => ?_, nd, fun a ha => List.mem_cons_of_mem _ (sub a ha)⟩
    cases s with
    | none => exact z
    | some s =>
      cases s with
      | v d => exact ⟨z.1, z.2.elim fun v hv => ⟨v, hv.1, hv.2.mono e.j rm⟩⟩
      | o d => exact z.elim fun v hv => ⟨v, hv.1, hv.2.up (fun _ _ s => r.tup e.jH s) fun a ha o ho => r.1 a o (e.okO a (sub a (q a ha))) ho⟩
      | r y => exact z
      | d u => exact z.elim fun a ⟨w1, w2, w3, w4⟩ => ⟨a, w1, w2, r.1 a _ (e.okO a (sub a (q a (by rw [w1]; simp)))) w3, w4⟩
      | w ds => exact z.elim fun a ⟨xs, w1, w2, w3, w4⟩ => ⟨a, xs, w1, w2, r.1 a _ (e.okO a (sub a (q a (by rw [w1]; simp)))) w3, w4.mono e.j rm⟩
end
end Lm
namespace Lm
open PySem PySem.Spec PyProof.Rows L2
/-! ### any value: what shows that a set is too small -/
def intsD : PyData → List Int
  | .tuple ds => ds.map fun d => match d with
    | .int i => i
    | _ => 0
  | _ => []
theorem intsD_tup (ns : List Int) : intsD (tupD ns) = ns := by
  show (ns.map PyData.int).map _ = ns
  rw [List.map_map]
  exact List.map_id'' (fun _ => rfl) ns
def SmF (x : PyData) : Prop := ∀ es, x = .tuple es → es.length < 64
theorem SmF.t {x : PyData} (h : SmF x) : SmallT x := fun es e => by have := h es e; omega
end Lm
namespace Lm
open PySem PySem.Spec PyProof.Rows L2
end Lm
namespace Lm
open PySem PySem.Spec PyProof.Rows L2
end Lm


namespace Lm
open PySem PySem.Spec PyProof.Rows L2
section
variable {c : Ct} {H H' H0 H1 H2 H3 H4 : Hp} {O : List Addr} {σ : L2.St} {Γ Γ' : List (Option Rs)} {te ta tb tx : TE} {tt : TT} {tr : TA} {k ka kb : Kd} {u : TS} {n : Nat} {x d : PyData} {ds : List PyData} {fz : Bool}
end
theorem smf_len {es : List PyData} (h : es.length < 64) : SmF (.tuple es) := fun es' e => by cases e; exact h
theorem smf_tup {ns : List Int} (h : ns.length < 64) : SmF (tupD ns) := smf_len (by simpa using h)
theorem smf_no {x : PyData} (h : ∀ es, x ≠ .tuple es) : SmF x := fun es e => absurd e (h es)
end Lm


/-! displays of which some items are drawn -/
namespace Lm
open PySem PySem.Spec PyProof.Rows L2
def EvAN (c : Ct) (ta : TA) (Γ : List (Option Rs)) (Pd : List PyData → Prop) : Prop :=
  ∀ H0 O H σ, Env c H0 O H σ Γ → ∀ Q : List V → Hp → Prop, (∀ vs ds H2, Pd ds → Rr c H H2 → BoAll c (mns H2 O) vs ds → Q vs H2) → ta σ H Q
section
variable {c : Ct} {H H' H0 H1 H2 H3 H4 : Hp} {O : List Addr} {σ : L2.St} {Γ Γ' : List (Option Rs)} {te ta tb tx : TE} {tr : TA} {k ka kb : Kd} {u : TS} {n : Nat} {x d : PyData} {ds : List PyData} {P P' : PyData → Prop} {Pd : List PyData → Prop}
theorem EvAN.imp {P2 : List PyData → Prop} (h : EvAN c tr Γ Pd) (i : ∀ ds, Pd ds → P2 ds) : EvAN c tr Γ P2 := fun H0 O H σ e Q q => h H0 O H σ e Q fun vs ds H2 p => q vs ds H2 (i ds p)
/-- all of one kind -/
def AllP (P : PyData → Prop) (n : Nat) (ds : List PyData) : Prop := ds.length = n ∧ ∀ d ∈ ds, P d
end
theorem smf_i {i : Int} : SmF (.int i) := smf_no fun es e => by cases e
end Lm


/-! sorted(xs, key=len), xs a list of lists -/
namespace L2
open PySem PySem.Spec PyProof.Rows
end L2
namespace L2
open PySem PySem.Spec PyProof.Rows
end L2
namespace Lm
open PySem PySem.Spec PyProof.Rows L2
def lenI (a b : List Int) : Bool := decide ((a.length : Int) ≤ (b.length : Int))
section
variable {c : Ct} {Γ : List (Option Rs)} {te : TE} {k : Kd}
end
end Lm
namespace Lm
open PySem PySem.Spec PyProof.Rows L2
end Lm
namespace Lm
open PySem PySem.Spec PyProof.Rows L2
end Lm
namespace Lm
open PySem PySem.Spec PyProof.Rows L2
end Lm
namespace Lm
open PySem PySem.Spec PyProof.Rows L2
def SmL (x : PyData) : Prop := ∀ es, x = .tuple es → es.length ≤ 1000 ∧ ∀ r ∈ es, SmF r
end Lm


/-! lists by whomever (k56) -/
namespace Lm
open PySem PySem.Spec PyProof.Rows L2
/-! ### rules: a slice whose end is drawn, tuples of which one is drawn -/
section
variable {c : Ct} {H H' H0 H1 H2 H3 : Hp} {O : List Addr} {Γ Γ' Γ1 : List (Option Rs)}
variable {te ta tb tx : TE} {tl th : TO} {k ka kb : Kd} {d x y z : PyData} {i j : Int} {a b : Bool} {ds es : List PyData}
end
/-! ### the mathematics -/
inductive RwX : PyData → Prop
  | row {ns : List Int} : ns.length ≤ 60 → RwX (tupD ns)
  | bad {ns : List Int} : ns.length ≤ 60 → RwX (.tuple (ns.map .int ++ [.bool true]))
  | int (i : Int) : RwX (.int i)
def LsX (x : PyData) : Prop := x = .none ∨ (∃ xs, x = .list xs) ∨ ∃ es, x = .tuple es ∧ es.length ≤ 10 ∧ ∀ e ∈ es, RwX e
theorem RwX.sm {e : PyData} (h : RwX e) : SmF e := by
  cases h with
  | row h => exact smf_tup (by omega)
  | bad h => exact smf_len (by simp; omega)
  | int i => exact smf_i
theorem LsX.sm {x : PyData} (h : LsX x) : SmL x := fun es e => by
  subst e
  rcases h with h | ⟨xs, h⟩ | ⟨es', h, hl, hr⟩
  · cases h
  · cases h
  · cases h
    exact ⟨by omega, fun r hr' => (hr r hr').sm⟩
/-! ### the promises -/
end Lm


/-! a dict of one's own whose values are scalars -/
namespace Lm
open PySem PySem.Spec PyProof.Rows L2
section
variable {c : Ct} {H H' H0 H1 H2 H3 : Hp} {O : List Addr} {σ : L2.St} {Γ Γ' : List (Option Rs)} {te ta tb tx : TE} {k ka kb : Kd} {u : TS} {P : Out → Prop} {n : Nat} {x d : PyData} {i : Int}
/-- a slot is given a new dict -/
theorem Env.setD (e : Env c H0 O H σ Γ) {i : Nat} {p : Addr} {u : HO} (hp : H p = none) (hu : OwnU u) : Env c H0 (p :: O) (upd H p u) (σ.set i (some (.ref p))) (Γ.set i (some (.d u))) := by
  have sm : Same H (upd H p u) := fun b o z => by rw [upd_ne (ne_of_none z hp)]; exact z
  have r : Rr c H (upd H p u) := Rr.same sm
  have e' := e.on r
  have hO : p ∉ O := new_notO e hp
  have hn : mns H O p = none := by rw [mns_out hO]; exact hp
  have em : mns (upd H p u) (p :: O) = mns H O := by
    funext a
    by_cases q : a = p
    · subst q
      rw [mns_in (by simp), hn]
    · by_cases w : a ∈ O
      · rw [mns_in w, mns_in (by simp [w])]
      · rw [mns_out w, mns_out (by simp [w, q]), upd_ne q]
  refine ⟨by rw [em]; exact e.r0, by rw [em]; exact e.j, fun a ha => ?_, fun a ha => ?_, ?_⟩
  · rcases List.mem_cons.mp ha with q | q
    · rw [q]; exact e.back0 hn
    · exact e.fr a q
  · rcases List.mem_cons.mp ha with q | q
    · rw [q]; exact ⟨u, upd_same, hu⟩
    · exact e'.dm a q
  · obtain ⟨fp, hr, nd, sub⟩ := e.rep
    have keep : ∀ y t g, (∀ a ∈ g, a ∈ O) → RepO c O H y t g → RepO c (p :: O) (upd H p u) y t g := fun y t g hg z => by
      cases t with
      | none => exact z
      | some t =>
        cases t with
        | v d => exact ⟨z.1, z.2.elim fun v hv => ⟨v, hv.1, by rw [em]; exact hv.2⟩⟩
        | o d => exact z.elim fun v hv => ⟨v, hv.1, hv.2.up (fun _ _ s => r.tup e.jH s) fun a ha o ho => r.1 a o (e.okO a (hg a ha)) ho⟩
        | r y => exact z
        | d u => exact z.elim fun a ⟨w1, w2, w3, w4⟩ => ⟨a, w1, w2, r.1 a _ (e.okO a (hg a (by rw [w1]; simp))) w3, w4⟩
        | w ds => exact z.elim fun a ⟨xs, w1, w2, w3, w4⟩ => ⟨a, xs, w1, w2, r.1 a _ (e.okO a (hg a (by rw [w1]; simp))) w3, by rw [em]; exact w4⟩
    by_cases hi : i < Γ.length
    · obtain ⟨x, g, pre, post, h1, h2, h3, h4⟩ := hr.nth (s := Γ[i]) (List.getElem?_eq_getElem hi)
      subst h3
      refine ⟨pre ++ ([p] ++ post), h4 _ _ _ _ [p] (fun y t g' q z => keep y t g' (fun a ha => sub a (by have := q a ha; simp at this ⊢; rcases this with w | w <;> simp [w])) z) ⟨p, rfl, rfl, upd_same, hu⟩, ?_, fun a ha => ?_⟩
      · have n0 : (pre ++ post).Nodup := nd.sublist (by simp)
        rw [List.nodup_append] at n0 ⊢
        refine ⟨n0.1, ?_, ?_⟩
        · rw [List.nodup_append]
          refine ⟨by simp, n0.2.1, fun a ha b' hb q => ?_⟩
          subst q
          rw [List.mem_singleton.mp ha] at hb
          exact hO (sub p (by simp [hb]))
        · intro a ha b' hb q
          subst q
          rcases List.mem_append.mp hb with w | w
          · rw [List.mem_singleton.mp w] at ha
            exact hO (sub p (by simp [ha]))
          · exact n0.2.2 a ha a w rfl
      · simp only [List.mem_append, List.mem_cons, List.not_mem_nil, or_false] at ha ⊢
        rcases ha with q | q | q
        · exact .inr (sub a (by simp [q]))
        · exact .inl q
        · exact .inr (sub a (by simp [q]))
    · have hs : ¬ i < σ.length := by rw [hr.len]; exact hi
      rw [List.set_eq_of_length_le (by omega), List.set_eq_of_length_le (by omega)]
      exact ⟨fp, hr.map fun x s g q z => keep x s g (fun a ha => sub a (q a ha)) z, nd, fun a ha => by simp [sub a ha]⟩
/-- a dict of one's own is written -/
theorem Env.writeD (e : Env c H0 O H σ Γ) {i : Nat} {u w : HO} (h : Γ[i]? = some (some (.d u))) (hw : OwnU w) : ∃ p, σ[i]? = some (some (.ref p)) ∧ H p = some u ∧ p ∈ O ∧ Env c H0 O (upd H p w) σ (Γ.set i (some (.d w))) := by
  obtain ⟨fp, hr, nd, sub⟩ := e.rep
  obtain ⟨x, f0, pre, post, h1, h2, h3, h4⟩ := hr.nth h
  obtain ⟨p, rfl, rfl, hp, hu⟩ := h2
  subst h3
  have hpO : p ∈ O := sub p (by simp)
  have n2 := (List.nodup_append.mp nd).2.1
  refine ⟨p, h1, hp, hpO, ?_⟩
  have em : mns (upd H p w) O = mns H O := by
    funext a
    by_cases ha : a ∈ O
    · rw [mns_in ha, mns_in ha]
    · rw [mns_out ha, mns_out ha, upd_ne (fun z => ha (by rw [z]; exact hpO))]
  refine ⟨by rw [em]; exact e.r0, by rw [em]; exact e.j, e.fr, fun a ha => ?_, ?_⟩
  · by_cases q : a = p
    · rw [q]; exact ⟨_, upd_same, hw⟩
    · rw [upd_ne q]; exact e.dm a ha
  · have hσ : σ.set i (some (.ref p)) = σ := by
      obtain ⟨hlt, e1⟩ := List.getElem?_eq_some_iff.mp h1
      rw [← e1]
      exact List.set_getElem_self hlt
    have np : ∀ a, a ∈ pre ++ post → a ≠ p := fun a hm z => by
      subst z
      rcases List.mem_append.mp hm with v | v
      · exact (List.nodup_append.mp nd).2.2 a v a (by simp) rfl
      · exact (List.nodup_append.mp n2).2.2 a (by simp) a v rfl
    have := h4 O (upd H p w) (some (.ref p)) (some (.d w)) [p] (fun y t g q z => ?_) ⟨p, rfl, rfl, upd_same, hw⟩
    · rw [hσ] at this
      exact ⟨_, this, nd, sub⟩
    · cases t with
      | none => exact z
      | some t =>
        cases t with
        | v d => exact ⟨z.1, z.2.elim fun v hv => ⟨v, hv.1, by rw [em]; exact hv.2⟩⟩
        | o d =>
          refine z.elim fun v hv => ⟨v, hv.1, hv.2.up (fun _ _ s => sqT_updO hp hu s) fun a ha o ho => ?_⟩
          rw [upd_ne (np a (q a ha))]
          exact ho
        | r y => exact z
        | d u2 =>
          refine z.elim fun a ⟨w1, w2, w3, w4⟩ => ⟨a, w1, w2, ?_, w4⟩
          rw [upd_ne (np a (q a (by rw [w1]; simp)))]
          exact w3
        | w ds =>
          refine z.elim fun a ⟨xs, w1, w2, w3, w4⟩ => ⟨a, xs, w1, w2, ?_, by rw [em]; exact w4⟩
          rw [upd_ne (np a (q a (by rw [w1]; simp)))]
          exact w3
/-! ### rules -/
end
end Lm
namespace Lm
open PySem PySem.Spec PyProof.Rows L2
end Lm


/-! the first list that serves (k55, k20) -/
namespace Lm
open PySem PySem.Spec PyProof.Rows L2
/-! ### sets that grow, each ascending -/
def addF (acc row : List Int) : List Int := acc ++ row.filter fun x => !decide (x ∈ acc)
structure Grow (acc : List Int) (R : List (List Int)) : Prop where
  nd : acc.Nodup
  asc : ∀ S ∈ R, S.Pairwise (· < ·)
  sub : ∀ S ∈ R, ∀ x ∈ acc, x ∈ S
  pw : R.Pairwise fun S T => ∀ x ∈ S, x ∈ T
theorem asc_nd {S : List Int} (h : S.Pairwise (· < ·)) : S.Nodup := h.imp fun w e => by omega
theorem add_perm {acc S : List Int} (nd : acc.Nodup) (ns : S.Nodup) (sub : ∀ x ∈ acc, x ∈ S) : (addF acc S).Perm S := by
  unfold addF
  refine (List.perm_ext_iff_of_nodup ?_ ns).mpr fun x => ?_
  · rw [List.nodup_append]
    exact ⟨nd, ns.filter _, fun a ha b hb e => by
      have := (List.mem_filter.mp hb).2
      rw [e] at ha
      simp [ha] at this⟩
  · rw [List.mem_append, List.mem_filter]
    constructor
    · rintro (h | h)
      · exact sub x h
      · exact h.1
    · intro h
      by_cases q : x ∈ acc
      · exact .inl q
      · exact .inr ⟨h, by simp [q]⟩
theorem Grow.step {acc S : List Int} {R : List (List Int)} (h : Grow acc (S :: R)) : (addF acc S).Perm S ∧ Grow (addF acc S) R := by
  have p1 := List.pairwise_cons.mp h.pw
  have p := add_perm h.nd (asc_nd (h.asc S (by simp))) (h.sub S (by simp))
  exact ⟨p, ⟨p.nodup_iff.mpr (asc_nd (h.asc S (by simp))), fun T hT => h.asc T (by simp [hT]), fun T hT x hx => p1.1 T hT x (p.mem_iff.mp hx), p1.2⟩⟩
theorem Grow.fold : ∀ {R : List (List Int)} {acc : List Int}, Grow acc R → acc <+: R.foldl addF acc ∧ (R.foldl addF acc).Nodup ∧ (∀ S ∈ R, ((R.foldl addF acc).take S.length).Perm S) ∧ ∀ S, R.getLast? = some S → (R.foldl addF acc).Perm S
  | [], acc, h => ⟨List.prefix_refl _, h.nd, (fun S hS => nomatch hS), fun S hS => nomatch hS⟩
  | S :: R, acc, h => by
    obtain ⟨p, g⟩ := h.step
    obtain ⟨i1, i2, i3, i4⟩ := g.fold
    rw [List.foldl_cons]
    refine ⟨(List.prefix_append _ _).trans i1, i2, fun T hT => ?_, fun T hT => ?_⟩
    · rcases List.mem_cons.mp hT with w | w
      · obtain ⟨t, ht⟩ := i1
        rw [w, ← ht, List.take_append_of_le_length (by rw [p.length_eq]; exact Nat.le_refl _), List.take_of_length_le (by rw [p.length_eq]; exact Nat.le_refl _)]
        exact p
      · exact i3 T w
    · cases R with
      | nil =>
        have : T = S := by simpa using hT.symm
        rw [this]; exact p
      | cons U R => exact i4 T (by simpa using hT)
end Lm
namespace Lm
open PySem PySem.Spec PyProof.Rows L2
/-- sets of which any two are one in the other, by size -/
structure Chn (M : List (List Int)) : Prop where
  asc : ∀ S ∈ M, S.Pairwise (· < ·)
  sub : ∀ S ∈ M, ∀ T ∈ M, S.length ≤ T.length → ∀ x ∈ S, x ∈ T
theorem sort_mem {M : List (List Int)} {S : List Int} : S ∈ M.mergeSort lenI ↔ S ∈ M := (List.mergeSort_perm _ _).mem_iff
theorem sort_len (M : List (List Int)) : (M.mergeSort lenI).Pairwise fun S T => S.length ≤ T.length := by
  have := List.pairwise_mergeSort (le := lenI) (fun a b c h1 h2 => by unfold lenI at *; simp at *; omega) (fun a b => by unfold lenI; simp; omega) M
  exact this.imp fun h => by unfold lenI at h; simp at h; omega
theorem Chn.grow {M : List (List Int)} (h : Chn M) : Grow [] (M.mergeSort lenI) := ⟨List.nodup_nil, fun S hS => h.asc S (sort_mem.mp hS), (fun S _ x hx => nomatch hx), by
  have := sort_len M
  exact this.imp_of_mem fun {S T} hS hT l => h.sub S (sort_mem.mp hS) T (sort_mem.mp hT) l⟩
def slM (M : List (List Int)) : List Int := (M.mergeSort lenI).foldl addF []
theorem Chn.nd {M : List (List Int)} (h : Chn M) : (slM M).Nodup := h.grow.fold.2.1
theorem Chn.take {M : List (List Int)} (h : Chn M) {S : List Int} (hS : S ∈ M) : ((slM M).take S.length).Perm S := h.grow.fold.2.2.1 S (sort_mem.mpr hS)
/-! ### the first list of a rule (k55) -/
end Lm


/-! first lists of a table (k20, k21) -/
namespace Lm
open PySem PySem.Spec PyProof.Rows L2
/-! ### the full lists -/
def rngI (b : Nat) : List Int := (List.range b).map fun (i : Nat) => (i : Int)
theorem rngI_asc (b : Nat) : (rngI b).Pairwise (· < ·) := by
  unfold rngI
  rw [List.pairwise_map]
  exact List.pairwise_lt_range.imp fun w => by omega
theorem mem_rngI {b : Nat} {x : Int} : x ∈ rngI b ↔ 0 ≤ x ∧ x < b := by
  unfold rngI
  rw [List.mem_map]
  constructor
  · rintro ⟨i, hi, rfl⟩
    have := List.mem_range.mp hi
    omega
  · intro h
    exact ⟨x.toNat, List.mem_range.mpr (by omega), by omega⟩
theorem Chn.full {M : List (List Int)} {b : Nat} (h : Chn M) (hM : ∀ S ∈ M, ∀ x ∈ S, 0 ≤ x ∧ x < b) : Grow [] (M.mergeSort lenI ++ [rngI b]) := by
  have g := h.grow
  refine ⟨List.nodup_nil, fun S hS => ?_, (fun S _ x hx => nomatch hx), ?_⟩
  · rcases List.mem_append.mp hS with w | w
    · exact g.asc S w
    · rw [List.mem_singleton.mp w]; exact rngI_asc b
  · rw [List.pairwise_append]
    refine ⟨g.pw, List.pairwise_singleton .., fun S hS T hT x hx => ?_⟩
    rw [List.mem_singleton.mp hT]
    exact mem_rngI.mpr (hM S (sort_mem.mp hS) x hx)
/-! ### the promises -/
end Lm


/-! defs that answer or raise: promises, and what raises within a body -/
namespace Lm
open PySem PySem.Spec PyProof.Rows L2
def spRef (K : PySem.W.Frag) (C : Addr) (R : List PyData → Str → Prop) : Sp := fun vs H Q E => ∃ ds nm, BoAll (pc K) H vs ds ∧ R ds nm ∧ ∀ dx H1, Same H H1 → H1 dx = some (.xd [("name", .str nm)]) → E (.ref C) (some dx) H1
abbrev spDR (K : PySem.W.Frag) (C : Addr) (sp : Sp) (R : List PyData → Str → Prop) : Sp := fun vs H Q E => sp vs H Q E ∨ spRef K C R vs H Q E
section
variable {K : PySem.W.Frag} {C : Addr} {H0 : Hp} {Γ : List (Option Rs)} {σ : L2.St} {te tf : TE} {ta : TA} {tt : TT} {t u : TS} {k kb : Kd} {d x : PyData} {n : Nat} {nm : Str} {ds : List PyData} {R : List PyData → Str → Prop} {sp : Sp} {E : XK} {W : L2.St → XK} {a : Bool}
/-- te raises -/
def EvRz (c : Ct) (H0 : Hp) (te : TE) (Γ : List (Option Rs)) : Prop := ∀ O H σ Q, Env c H0 O H σ Γ → te σ H Q
def EtRz (c : Ct) (H0 : Hp) (tt : TT) (Γ : List (Option Rs)) : Prop := ∀ O H σ Q, Env c H0 O H σ Γ → tt σ H Q
theorem same_of {H H1 : Hp} (e : Env (pc K) H0 O H σ Γ) (r : Rr (pc K) H H1) {H2 : Hp} (sm : Same H1 H2) : Same H0 H2 := fun a o w => sm a o ((e.rH.tr r).1 a o (fun _ _ w => nomatch w) w)
theorem x_ref (ha : EvA (pc K) ta Γ false ds) (hr : R ds nm) (hE : ∀ dx H1, Same H0 H1 → H1 dx = some (.xd [("name", .str nm)]) → E (.ref C) (some dx) H1) : EvRz (pc K) H0 (tCall (spDR K C sp R) [] E ta) Γ := fun O H σ Q e =>
  ha H0 O H σ e _ fun vs H1 r s => .inr ⟨ds, nm, by rw [List.append_nil]; exact s, hr, fun dx H2 sm z => hE dx H2 (same_of e r sm) z⟩
theorem x_good {pre : Pre} (h : EvA (pc K) ta Γ false ds) (hp : pre ds k d) : Ev (pc K) (tCall (spDR K C (spD K pre) R) [] E ta) Γ k d := fun H0 O H σ e Q q =>
  h H0 O H σ e _ fun vs H1 r s => by
    refine .inl ⟨ds, k, d, by rw [List.append_nil]; exact s.pure, hp, fun v H2 sm rt => q v H2 (r.tr (Rr.same sm)) ?_⟩
    have r2 : Rr (pc K) H H2 := r.tr (Rr.same sm)
    cases k with
    | v => exact (Bo.flat (c := pc K) (c' := pc K) rfl rt.1 rt.2).flatM e r2 rt.1
    | o =>
      obtain ⟨fp, f, nd, new⟩ := rt
      exact ⟨fp, f, nd, fun a ha => r.back e.jH (new a ha)⟩
    | b => obtain ⟨⟨_, e⟩, _⟩ := rt; exact nomatch e
theorem xl_req (hz : nm.length ≤ 1000) (hE : ∀ dx H1, Same H0 H1 → H1 dx = some (.xd [("name", .str nm)]) → E (.ref C) (some dx) H1) (h : Ev (pc K) te Γ k (.bool false)) : SdX (pc K) H0 (tDrop (tCall (spReq C) [] E (tCons te (tCons (tC (.str nm)) tNil)))) Γ := fun O H σ D e =>
  h H0 O H σ e _ fun v H1 r s => ⟨false, nm, by rw [(Res.bo e s).bl']; rfl, hz, (fun w => nomatch w), fun _ dx hdx => hE dx _ (fun a o z => by
    have z1 : H1 a = some o := (e.rH.tr r).1 a o (fun _ _ w => nomatch w) z
    rw [upd_ne (ne_of_none z1 hdx)]
    exact z1) upd_same⟩
theorem x_okreq (hz : nm.length ≤ 1000) (h : Ev (pc K) te Γ k (.bool true)) (p : SdX (pc K) H0 u Γ) : SdX (pc K) H0 (tSeq (tDrop (tCall (spReq C) [] E (tCons te (tCons (tC (.str nm)) tNil)))) u) Γ := fun O H σ D e =>
  h H0 O H σ e _ fun v H1 r s => ⟨true, nm, by rw [(Res.bo e s).bl']; rfl, hz, (fun _ => p O H1 σ D (e.on r)), fun w => nomatch w⟩
theorem x_seq {c : Ct} (h : SdX c H0 t Γ) : SdX c H0 (tSeq t u) Γ := fun O H σ D e => h O H σ _ e
theorem x_dropE {c : Ct} (h : EvRz c H0 te Γ) : SdX c H0 (tDrop te) Γ := fun O H σ D e => h O H σ _ e
theorem x_retE {c : Ct} (h : EvRz c H0 te Γ) : SdX c H0 (tRet te) Γ := fun O H σ D e => h O H σ _ e
theorem x_opl {c : Ct} {r : R2} (h : EvRz c H0 te Γ) : EvRz c H0 (tOp r te tf) Γ := fun O H σ Q e => h O H σ _ e
theorem x_test {c : Ct} (h : EvRz c H0 te Γ) : EtRz c H0 (tTest te) Γ := fun O H σ Q e => h O H σ _ e
theorem x_if {c : Ct} (h : EtRz c H0 tt Γ) : SdX c H0 (tIfS tt t u) Γ := fun O H σ D e => h O H σ _ e
theorem run_ref {N : List Str} {t : TS} {vs : List V} {H : Hp} {Q : VK}
    (hs : ∀ ds nm, R ds nm → (∀ dx H1, Same H H1 → H1 dx = some (.xd [("name", .str nm)]) → E (.ref C) (some dx) H1) → SdX (pc K) H t (argsG ds N.length)) (h : spRef K C R vs H Q E) : t { nx := fun _ H' => Q .non H', rt := Q } (start N vs) H := by
  obtain ⟨ds, nm, hb, hd, hE⟩ := h
  exact hs ds nm hd hE [] H (start N vs) _ (env_args Ji.pc hb)
/-! under try, where nothing is assigned -/
def SdY (c : Ct) (H0 : Hp) (σ : L2.St) (t : TS) (Γ : List (Option Rs)) : Prop := ∀ O H D, Env c H0 O H σ Γ → t D σ H
theorem y_if {c : Ct} (h : EvT c tt Γ a) (h1 : a = true → SdY c H0 σ t Γ) (h2 : a = false → SdY c H0 σ u Γ) : SdY c H0 σ (tIfS tt t u) Γ := fun O H D e => h H0 O H σ e _ fun H1 r => by
  show if a = true then t D σ H1 else u D σ H1
  cases a with
  | true => rw [if_pos rfl]; exact h1 rfl O H1 D (e.on r)
  | false => rw [if_neg (by decide)]; exact h2 rfl O H1 D (e.on r)
theorem y_yes {c : Ct} (h : EvT c tt Γ true) (h1 : SdY c H0 σ t Γ) : SdY c H0 σ (tIfS tt t u) Γ := y_if h (fun _ => h1) fun w => nomatch w
theorem y_ret (ha : EvA (pc K) ta Γ false ds) (hr : R ds nm) (hE : ∀ dx H1, Same H0 H1 → H1 dx = some (.xd [("name", .str nm)]) → W σ (.ref C) (some dx) H1) : SdY (pc K) H0 σ (tRet (tCallS (spDR K C sp R) W ta)) Γ := fun O H D e =>
  ha H0 O H σ e _ fun vs H1 r s => .inr ⟨ds, nm, s, hr, fun dx H2 sm z => hE dx H2 (same_of e r sm) z⟩
end
/-! ### who raises what -/
/-! ### k26 -/
end Lm


/-! what lists give, told or refused (k22) -/
namespace Lm
open PySem PySem.Spec PyProof.Rows L2
section
variable {K : PySem.W.Frag} {C : Addr} {σ : L2.St} {nm : Str}
end
/-! ### any value as an allocation -/
def balB (x : PyData) : Bool := areInts x 0 20 && ((decide (1 ≤ lenT x) && decide (lenT x ≤ 5)) && decide (sumT x ≤ 20))
theorem Alc.bal {ns : List Int} {v b : Int} (h : Alc ns v b) (v1 : 1 ≤ v) (v5 : v ≤ 5) (b20 : b ≤ 20) : balB (tupD ns) = true := by
  have l := h.len
  unfold balB
  rw [areInts_of fun n hn => ⟨h.nn n hn, by have := h.le n hn; omega⟩, lenT_ints, sumT_ints, h.sum, decide_eq_true (show 1 ≤ ns.length by omega), decide_eq_true (show ns.length ≤ 5 by omega), decide_eq_true b20]
  rfl
def sp_is_bounded_allocationX (K : PySem.W.Frag) : Sp := spD K fun ds k d => ∃ x, ds = [x] ∧ SmallT x ∧ k = .v ∧ d = .bool (balB x)
/-! ### what is due -/
/-! ### lists of distinct buckets -/
structure Dst (r : List Int) : Prop where
  nd : r.Nodup
  rg : ∀ x ∈ r, 0 ≤ x ∧ x < 20
theorem Dst.len {r : List Int} (h : Dst r) : r.length ≤ 20 := by
  have := List.Nodup.length_le_of_subset (l₁ := r) (l₂ := rngI 20) h.nd fun x hx => by
    have := h.rg x hx
    exact mem_rngI.mpr (by omega)
  unfold rngI at this
  simpa using this
theorem cut_dropA {α : Type} {ds : List α} {t : Nat} : Lm.cutD ds (some (t : Int)) none = ds.drop t := by
  by_cases h : t ≤ ds.length
  · exact cutD_lo h
  · unfold Lm.cutD
    rw [HT.sIx_nat, Nat.min_eq_right (by omega), List.drop_eq_nil_of_le (Nat.le_refl _), List.drop_eq_nil_of_le (by omega), List.take_nil]
theorem i_seqLIB {c : Ct} {Γ : List (Option Rs)} {tl : TE} {k : Kd} {ns : List Int} (h : Ev c tl Γ k (.list (ns.map .int))) : EvI c (iSeq c.K tl) Γ false (ns.map imI) := by
  have := i_seqB h (flatAll_ints ns)
  rwa [List.map_map] at this
end Lm


/-! a comprehension of two clauses -/
namespace Lm
open PySem PySem.Spec PyProof.Rows L2
section
variable {c : Ct} {H H' H0 H1 H2 H3 H4 : Hp} {O : List Addr} {σ σ1 : L2.St} {Γ Γ1 Γ' : List (Option Rs)} {te : TE} {fz : Bool} {k : Kd} {u : TS} {P : Out → Prop} {n : Nat}
theorem Reps.bareM {fp : List Addr} {D : Addr} (j : Ji c (mns H O)) (rm : Rr c (mns H O) (mns H' O)) (h : Reps c O H σ Γ fp) : bareB Γ = true → Reps c O H' σ Γ [] := by
  induction h with
  | nil => intro _; exact .nil
  | @cons x s f fs σ Γ a b ih =>
    intro hb
    cases s with
    | none => exact .cons (f := []) (fs := []) rfl (ih hb)
    | some s =>
      cases s with
      | o d => cases hb
      | d u => cases hb
      | w ds => cases hb
      | v d =>
        obtain ⟨_, v, hv, bo⟩ := a
        exact .cons (f := []) (fs := []) ⟨rfl, v, hv, bo.mono j rm⟩ (ih hb)
      | r y => exact .cons (f := []) (fs := []) ⟨rfl, a.2⟩ (ih hb)
end
end Lm
namespace Lm
open PySem PySem.Spec PyProof.Rows L2
/-! ### all tables of a plan (k39 to k43, k52) -/
/-! ### buckets may be told in another order -/
def permF (p : List Nat) (f : List Int) : List Int := p.map fun x => f.getD x 0
/-! ### how many there are -/
/-! ### the promises -/
/-! ### plans that go round -/
end Lm


/-! a list of one's own whose items stay, lists in them too -/
namespace Lm
open PySem PySem.Spec PyProof.Rows L2
section
variable {c : Ct} {H H' H0 H1 H2 H3 : Hp} {O : List Addr} {σ : L2.St} {Γ Γ' : List (Option Rs)} {te ta tb tx : TE} {tr : TA} {k ka kb : Kd} {u t : TS} {P : Out → Prop} {n m : Nat} {x d : PyData} {ds es : List PyData} {i : Int} {fz : Bool} {tt : TT}
/-- a list of one's own that is kept in a slot is a list whose items stay, and back -/
theorem Env.dw (e : Env c H0 O H σ Γ) {i : Nat} {xs : List V} {ds : List PyData} (h : Γ[i]? = some (some (.d (.lst xs)))) (b : BoAll c (mns H O) xs ds) : Env c H0 O H σ (Γ.set i (some (.w ds))) := by
  obtain ⟨fp, hr, nd, sub⟩ := e.rep
  obtain ⟨x, f, pre, post, h1, h2, h3, h4⟩ := hr.nth h
  obtain ⟨a, rfl, rfl, ha, _⟩ := h2
  subst h3
  have hσ : σ.set i (some (.ref a)) = σ := by
    obtain ⟨hlt, e1⟩ := List.getElem?_eq_some_iff.mp h1
    rw [← e1]
    exact List.set_getElem_self hlt
  have := h4 O H (some (.ref a)) (some (.w ds)) [a] (fun y t g q z => z) ⟨a, xs, rfl, rfl, ha, b⟩
  rw [hσ] at this
  exact ⟨e.r0, e.j, e.fr, e.dm, _, this, nd, sub⟩
theorem Env.wd (e : Env c H0 O H σ Γ) {i : Nat} {ds : List PyData} (h : Γ[i]? = some (some (.w ds))) : ∃ a xs, σ[i]? = some (some (.ref a)) ∧ H a = some (.lst xs) ∧ a ∈ O ∧ BoAll c (mns H O) xs ds ∧ Env c H0 O H σ (Γ.set i (some (.d (.lst xs)))) := by
  obtain ⟨fp, hr, nd, sub⟩ := e.rep
  obtain ⟨x, f, pre, post, h1, h2, h3, h4⟩ := hr.nth h
  obtain ⟨a, xs, rfl, rfl, ha, b⟩ := h2
  subst h3
  have hσ : σ.set i (some (.ref a)) = σ := by
    obtain ⟨hlt, e1⟩ := List.getElem?_eq_some_iff.mp h1
    rw [← e1]
    exact List.set_getElem_self hlt
  have := h4 O H (some (.ref a)) (some (.d (.lst xs))) [a] (fun y t g q z => z) ⟨a, rfl, rfl, ha, trivial⟩
  rw [hσ] at this
  exact ⟨a, xs, h1, ha, sub a (by simp), b, e.r0, e.j, e.fr, e.dm, _, this, nd, sub⟩
/-- a slot is given a new list D whose items stay -/
theorem Env.newW (e : Env c H0 O H σ Γ) {i : Nat} {D : Addr} {xs : List V} (hD : H D = none) (r : Rr c H H') (h : H' D = some (.lst xs)) (rm : Rr c (mns H O) (mns H' (D :: O))) (b : BoAll c (mns H' (D :: O)) xs ds) : Env c H0 (D :: O) H' (σ.set i (some (.ref D))) (Γ.set i (some (.w ds))) := by
  have hO : D ∉ O := new_notO e hD
  refine ⟨e.r0.tr rm, rm.2 e.j, fun a ha => ?_, fun a ha => ?_, ?_⟩
  · rcases List.mem_cons.mp ha with q | q
    · rw [q]; exact e.back0 (by rw [mns_out hO]; exact hD)
    · exact e.fr a q
  · rcases List.mem_cons.mp ha with q | q
    · rw [q]; exact ⟨_, h, trivial⟩
    · obtain ⟨u, w, hw⟩ := e.dm a q
      exact ⟨u, r.1 a _ (e.okO a q) w, hw⟩
  · obtain ⟨fp, hr, nd, sub⟩ := e.rep
    have keep : ∀ y t g, (∀ a ∈ g, a ∈ O) → RepO c O H y t g → RepO c (D :: O) H' y t g := fun y t g hg z => by
      cases t with
      | none => exact z
      | some t =>
        cases t with
        | v d => exact ⟨z.1, z.2.elim fun v hv => ⟨v, hv.1, hv.2.mono e.j rm⟩⟩
        | o d => exact z.elim fun v hv => ⟨v, hv.1, hv.2.up (fun _ _ s => r.tup e.jH s) fun a ha o ho => r.1 a o (e.okO a (hg a ha)) ho⟩
        | r y => exact z
        | d u => exact z.elim fun a ⟨w1, w2, w3, w4⟩ => ⟨a, w1, w2, r.1 a _ (e.okO a (hg a (by rw [w1]; simp))) w3, w4⟩
        | w ds => exact z.elim fun a ⟨xs, w1, w2, w3, w4⟩ => ⟨a, xs, w1, w2, r.1 a _ (e.okO a (hg a (by rw [w1]; simp))) w3, w4.mono e.j rm⟩
    by_cases hi : i < Γ.length
    · obtain ⟨x, g, pre, post, h1, h2, h3, h4⟩ := hr.nth (s := Γ[i]) (List.getElem?_eq_getElem hi)
      subst h3
      refine ⟨pre ++ ([D] ++ post), h4 _ _ _ _ [D] (fun y t g' q z => keep y t g' (fun a ha => sub a (by have := q a ha; simp at this ⊢; rcases this with w | w <;> simp [w])) z) ⟨D, xs, rfl, rfl, h, b⟩, ?_, fun a ha => ?_⟩
      · have n0 : (pre ++ post).Nodup := nd.sublist (by simp)
        rw [List.nodup_append] at n0 ⊢
        refine ⟨n0.1, ?_, ?_⟩
        · rw [List.nodup_append]
          refine ⟨by simp, n0.2.1, fun a ha b' hb q => ?_⟩
          subst q
          rw [List.mem_singleton.mp ha] at hb
          exact hO (sub D (by simp [hb]))
        · intro a ha b' hb q
          subst q
          rcases List.mem_append.mp hb with w | w
          · rw [List.mem_singleton.mp w] at ha
            exact hO (sub D (by simp [ha]))
          · exact n0.2.2 a ha a w rfl
      · simp only [List.mem_append, List.mem_cons, List.not_mem_nil, or_false] at ha ⊢
        rcases ha with q | q | q
        · exact .inr (sub a (by simp [q]))
        · exact .inl q
        · exact .inr (sub a (by simp [q]))
    · have hs : ¬ i < σ.length := by rw [hr.len]; exact hi
      rw [List.set_eq_of_length_le (by omega), List.set_eq_of_length_le (by omega)]
      exact ⟨fp, hr.map fun x s g q z => keep x s g (fun a ha => sub a (q a ha)) z, nd, fun a ha => by simp [sub a ha]⟩
/-- te makes a new list whose items stay -/
def EvW (c : Ct) (te : TE) (Γ : List (Option Rs)) (ds : List PyData) : Prop :=
  ∀ H0 O H σ, Env c H0 O H σ Γ → ∀ Q : VK, (∀ p xs H2, H p = none → Rr c H H2 → H2 p = some (.lst xs) → Rr c (mns H O) (mns H2 (p :: O)) → BoAll c (mns H2 (p :: O)) xs ds → Q (.ref p) H2) → te σ H Q
theorem q_asgW (h : EvW c te Γ ds) (p : Sd c u (Γ.set n (some (.w ds))) P) : Sd c (tSeq (tAsg te (gName n)) u) Γ P := fun H0 O H σ D e s =>
  h H0 O H σ e _ fun a xs H2 ha r h2 rm b => p H0 (a :: O) H2 _ D (e.newW ha r h2 rm b) s
theorem newW1 {H1 : Hp} {xs : List V} {p : Addr} (e : Env c H0 O H σ Γ) (r : Rr c H H1) (hp : H1 p = none) (b : BoAll c (mns H1 O) xs ds) {Q : VK} (q : ∀ p xs H2, H p = none → Rr c H H2 → H2 p = some (.lst xs) → Rr c (mns H O) (mns H2 (p :: O)) → BoAll c (mns H2 (p :: O)) xs ds → Q (.ref p) H2) : Q (.ref p) (upd H1 p (.lst xs)) :=
  q p xs _ (r.back e.jH hp) (r.tr (Rr.same fun b u z => by rw [upd_ne (ne_of_none z hp)]; exact z)) upd_same (by rw [mns_own hp]; exact r.mns e.j e.okO) (by rw [mns_own hp]; exact b)
theorem w_lst (h : EvA c tr Γ true ds) (hl : ds.length ≤ 1000000) : EvW c (tLst tr) Γ ds := fun H0 O H σ e Q q =>
  h H0 O H σ e _ fun vs H1 r s => by
    have s' := BoAll.vm s
    exact ⟨by rw [s'.len]; exact sizeOk hl, fun p hp => newW1 e r hp s' q⟩
/-- x.append(v) -/
theorem s_appW (hx : Γ[n]? = some (some (.w ds))) (h : Ev c te Γ .v d) (hl : ds.length < 1000000) (p : P (.nx (Γ.set n (some (.w (ds ++ [d])))))) : Sd c (tDrop (tBM c.K "list" rAppend (tVar n) (tCons te tNil))) Γ P := fun H0 O H σ D e s => by
  obtain ⟨a, xs, ha, hH, hO, b, _⟩ := e.wd hx
  refine ⟨.ref a, ha, .inl ⟨rfl, xs, .inl (.inl hH)⟩, h H0 O H σ e _ fun v H2 r rs => ?_⟩
  have e2 := e.on r
  obtain ⟨a', xs', ha', hH', hO', b', ed⟩ := e2.wd hx
  have : a' = a := by rw [ha] at ha'; cases ha'; rfl
  subst this
  have bv : Bo c (mns H2 O) v d := rs
  have hn : n < Γ.length := (List.getElem?_eq_some_iff.mp hx).1
  obtain ⟨p2, hp2, hq2, hq3, ew⟩ := ed.writeD (w := .lst (xs' ++ [v])) (List.getElem?_set_self hn) trivial
  have : p2 = a' := by rw [ha] at hp2; cases hp2; rfl
  subst this
  have em : mns (upd H2 p2 (.lst (xs' ++ [v]))) O = mns H2 O := by
    funext z
    by_cases hz : z ∈ O
    · rw [mns_in hz, mns_in hz]
    · rw [mns_out hz, mns_out hz, upd_ne (fun w => hz (by rw [w]; exact hq3))]
  refine ⟨p2, xs', v, rfl, rfl, hH', by rw [b'.len, sizeLine_eq]; omega, s _ p O _ σ ?_⟩
  rw [List.set_set] at ew
  have := ew.dw (ds := ds ++ [d]) (List.getElem?_set_self hn) (by rw [em]; exact b'.app (.cons bv .nil))
  rwa [List.set_set] at this
/-- from now on it is not written -/
theorem Env.freezeW (e : Env c H0 O H σ Γ) {i : Nat} (h : Γ[i]? = some (some (.w ds))) : ∃ O', Env c H0 O' H σ (Γ.set i (some (.v (.list ds)))) := by
  obtain ⟨fp, hr, nd, sub⟩ := e.rep
  obtain ⟨x, f, pre, post, h1, h2, h3, h4⟩ := hr.nth h
  obtain ⟨a, xs, rfl, rfl, ha, b⟩ := h2
  subst h3
  have hm : ∀ z, z ∈ O.filter (fun z => !decide (z = a)) ↔ z ∈ O ∧ z ≠ a := fun z => by simp
  have sm : Same (mns H O) (mns H (O.filter fun z => !decide (z = a))) := mns_sub fun z hz => ((hm z).mp hz).1
  have dis : ∀ z ∈ pre ++ post, z ≠ a := fun z hz w => by
    subst w
    have n2 := (List.nodup_append.mp nd).2.1
    rcases List.mem_append.mp hz with u | u
    · exact (List.nodup_append.mp nd).2.2 z u z (by simp) rfl
    · exact (List.nodup_append.mp n2).2.2 z (by simp) z u rfl
  refine ⟨O.filter fun z => !decide (z = a), ⟨e.r0.tr (Rr.same sm), e.j.same sm, fun z hz => e.fr z ((hm z).mp hz).1, fun z hz => e.dm z ((hm z).mp hz).1, ?_⟩⟩
  have hσ : σ.set i (some (.ref a)) = σ := by
    obtain ⟨hlt, e1⟩ := List.getElem?_eq_some_iff.mp h1
    rw [← e1]
    exact List.set_getElem_self hlt
  have hb : Bo c (mns H (O.filter fun z => !decide (z = a))) (.ref a) (.list ds) := by
    refine .lst (e.okO a (sub a (by simp))) (.inl (.inl ?_)) (b.same sm)
    rw [mns_out fun z => ((hm a).mp z).2 rfl]
    exact ha
  have := h4 (O.filter fun z => !decide (z = a)) H (some (.ref a)) (some (.v (.list ds))) [] (fun y t g q z => ?_) ⟨rfl, .ref a, rfl, hb⟩
  · rw [hσ] at this
    exact ⟨_, this, nd.sublist (by simp), fun z hz => (hm z).mpr ⟨sub z (by simp at hz ⊢; rcases hz with w | w <;> simp [w]), dis z (by simpa using hz)⟩⟩
  · cases t with
    | none => exact z
    | some t =>
      cases t with
      | v d => exact ⟨z.1, z.2.elim fun v hv => ⟨v, hv.1, hv.2.same sm⟩⟩
      | o d => exact z
      | r y => exact z
      | d u => exact z
      | w ds => exact z.elim fun a ⟨xs, w1, w2, w3, w4⟩ => ⟨a, xs, w1, w2, w3, w4.same sm⟩
theorem s_freezeW (h : Γ[n]? = some (some (.w ds))) (hs : Sd c t (Γ.set n (some (.v (.list ds)))) P) : Sd c t Γ P := fun H0 O H σ D e s => by
  obtain ⟨O', e'⟩ := e.freezeW h
  exact hs H0 O' H σ D e' s
end
end Lm


/-! who raises what among the changes (k18) -/
namespace Lm
open PySem PySem.Spec PyProof.Rows L2
theorem xl_reqE {K : PySem.W.Frag} {C : Addr} {H0 : Hp} {Γ : List (Option Rs)} {te tn : TE} {k kn : Kd} {nm : Str} {E : XK} (hz : nm.length ≤ 1000) (hE : ∀ dx H1, Same H0 H1 → H1 dx = some (.xd [("name", .str nm)]) → E (.ref C) (some dx) H1) (h : Ev (pc K) te Γ k (.bool false)) (hn : Ev (pc K) tn Γ kn (.str nm)) : SdX (pc K) H0 (tDrop (tCall (spReq C) [] E (tCons te (tCons tn tNil)))) Γ := fun O H σ D e =>
  h H0 O H σ e _ fun v H1 r s => hn H0 O H1 σ (e.on r) _ fun u H2 r2 s2 => ⟨false, nm, by rw [(Res.bo e s).bl', (Res.bo (e.on r) s2).str']; rfl, hz, (fun w => nomatch w), fun _ dx hdx => hE dx _ (fun a o z => by
    have z1 : H2 a = some o := (e.rH.tr (r.tr r2)).1 a o (fun _ _ w => nomatch w) z
    rw [upd_ne (ne_of_none z1 hdx)]
    exact z1) upd_same⟩
def RcAl (ds : List PyData) (nm : Str) : Prop := ∃ x, ds = [x, .str nm] ∧ nm.length ≤ 1000 ∧ SmallT x ∧ balB x = false
theorem RcAl_len {ds nm} (h : RcAl ds nm) : ds.length = 2 := by obtain ⟨x, rfl, _⟩ := h; rfl
/-! ### the law's rows -/
end Lm


/-! three assignments: what is alike, and what is not -/
namespace Lm
open PySem PySem.Spec PyProof.Rows L2
variable {v : Int} {f g h as bs cs : List Int}
/-- both are i -/
def bo (i x y : Int) : Int := if x = i ∧ y = i then 1 else 0
end Lm


/-! assignments that are laid out by cores -/
namespace Lm
open PySem PySem.Spec PyProof.Rows L2
variable {v b : Int} {as bs cs ms : List Int} {z : List (Int × Int)} {p q : List (Option Int)}
def preR : List (Int × Int) → Nat → List (Option Int)
  | [], _ => []
  | (s, c) :: r, i => List.replicate (min s c).toNat (some (i : Int)) ++ (List.replicate (c - s).toNat none ++ preR r (i + 1))
def overR : List (Int × Int) → Nat → List Int
  | [], _ => []
  | (s, c) :: r, i => List.replicate (s - c).toNat (i : Int) ++ overR r (i + 1)
def fillR : List (Option Int) → List Int → List Int
  | [], _ => []
  | some x :: p, o => x :: fillR p o
  | none :: p, [] => 0 :: fillR p []
  | none :: p, x :: o => x :: fillR p o
def fullR (z : List (Int × Int)) (m : Nat) : List (Option Int) := preR z 0 ++ List.replicate (m - (preR z 0).length) none
def layI (as cs : List Int) : List Int := fillR (fullR (as.zip cs) as.sum.toNat) (overR (as.zip cs) 0)
theorem pre_len : ∀ {z : List (Int × Int)} {i : Nat}, (∀ p ∈ z, 0 ≤ p.1 ∧ 0 ≤ p.2) → ((preR z i).length : Int) = (z.map (·.2)).sum
  | [], _, _ => rfl
  | (s, c) :: r, i, h => by
    have h0 := h (s, c) (by simp)
    have ih := pre_len (z := r) (i := i + 1) fun p hp => h p (List.mem_cons_of_mem _ hp)
    unfold preR
    simp only [List.length_append, List.length_replicate, List.map_cons, List.sum_cons, Int.natCast_add, ih]
    simp only at h0
    omega
theorem pre_none : ∀ {z : List (Int × Int)} {i : Nat}, ((preR z i).count none : Int) = (z.map fun p => max (p.2 - p.1) 0).sum
  | [], _ => rfl
  | (s, c) :: r, i => by
    have ih := pre_none (z := r) (i := i + 1)
    unfold preR
    simp only [List.count_append, List.count_replicate, List.map_cons, List.sum_cons, Int.natCast_add, ih]
    have e : ((some (i : Int)) == none) = false := rfl
    simp only [e]
    simp
    try omega
theorem over_len : ∀ {z : List (Int × Int)} {i : Nat}, ((overR z i).length : Int) = (z.map fun p => max (p.1 - p.2) 0).sum
  | [], _ => rfl
  | (s, c) :: r, i => by
    have ih := over_len (z := r) (i := i + 1)
    unfold overR
    simp only [List.length_append, List.length_replicate, List.map_cons, List.sum_cons, Int.natCast_add, ih]
    omega
def valR (z : List (Int × Int)) (i : Nat) (x : Int) : Int := if (i : Int) ≤ x ∧ x < (i + z.length : Nat) then (z.getD (x - i).toNat (0, 0)).1 else 0
theorem pre_cnt : ∀ {z : List (Int × Int)} {i : Nat} (x : Int), (∀ p ∈ z, 0 ≤ p.1 ∧ 0 ≤ p.2) → ((preR z i).count (some x) : Int) + ((overR z i).count x : Nat) = valR z i x
  | [], i, x, _ => by
    unfold valR
    rw [if_neg (by simp only [List.length_nil]; omega)]
    rfl
  | (s, c) :: r, i, x, h => by
    have h0 := h (s, c) (by simp)
    simp only at h0
    have ih := pre_cnt (z := r) (i := i + 1) x fun p hp => h p (List.mem_cons_of_mem _ hp)
    unfold preR overR
    simp only [List.count_append, List.count_replicate, Int.natCast_add]
    have e : ((none : Option Int) == some x) = false := rfl
    rw [e]
    unfold valR at ih ⊢
    by_cases q : (i : Int) = x
    · have e1 : (some (i : Int) == some x) = true := by simp [q]
      have e2 : ((i : Int) == x) = true := by simp [q]
      rw [if_neg (by omega)] at ih
      rw [e1, e2, if_pos (show (i : Int) ≤ x ∧ x < (i + ((s, c) :: r).length : Nat) by simp only [List.length_cons]; omega)]
      have : (x - i).toNat = 0 := by omega
      rw [this, List.getD_cons_zero]
      simp only [Bool.false_eq_true, if_false, if_true]
      omega
    · have e1 : (some (i : Int) == some x) = false := by simp [q]
      have e2 : ((i : Int) == x) = false := by simp [q]
      simp only [e1, e2, Bool.false_eq_true, if_false, List.length_cons]
      by_cases w : ((i + 1 : Nat) : Int) ≤ x ∧ x < (i + 1 + r.length : Nat)
      · rw [if_pos w] at ih
        rw [if_pos (by omega)]
        have : (x - i).toNat = (x - (i + 1 : Nat)).toNat + 1 := by omega
        rw [this, List.getD_cons_succ]
        omega
      · rw [if_neg w] at ih
        rw [if_neg (by omega)]
        omega
theorem fill_len : ∀ {p : List (Option Int)} {o : List Int}, (fillR p o).length = p.length
  | [], _ => rfl
  | some x :: p, o => by unfold fillR; rw [List.length_cons, List.length_cons, fill_len]
  | none :: p, [] => by unfold fillR; rw [List.length_cons, List.length_cons, fill_len]
  | none :: p, x :: o => by unfold fillR; rw [List.length_cons, List.length_cons, fill_len]
theorem fill_cnt (x : Int) : ∀ {p : List (Option Int)} {o : List Int}, p.count none = o.length → (fillR p o).count x = p.count (some x) + o.count x
  | [], o, h => by
    have : o = [] := List.length_eq_zero_iff.mp (by simpa using h.symm)
    subst this; rfl
  | some y :: p, o, h => by
    have ih := fill_cnt x (p := p) (o := o) (by simpa using h)
    unfold fillR
    rw [List.count_cons, List.count_cons, ih]
    by_cases q : y = x <;> simp [q] <;> omega
  | none :: p, [], h => by simp at h
  | none :: p, y :: o, h => by
    have ih := fill_cnt x (p := p) (o := o) (by simpa using h)
    unfold fillR
    rw [List.count_cons, List.count_cons, List.count_cons, ih]
    have e : ((none : Option Int) == some x) = false := rfl
    rw [e]
    by_cases q : y = x <;> simp [q] <;> omega
/-- where both are known, and alike -/
def agr : List (Option Int) → List (Option Int) → Int
  | some x :: p, some y :: q => (if x = y then 1 else 0) + agr p q
  | some _ :: p, none :: q => agr p q
  | none :: p, _ :: q => agr p q
  | _, _ => 0
theorem zip_nn (h1 : ∀ n ∈ as, 0 ≤ n) (h2 : ∀ n ∈ cs, 0 ≤ n) : ∀ p ∈ as.zip cs, 0 ≤ p.1 ∧ 0 ≤ p.2 := fun p hp => ⟨h1 _ (List.of_mem_zip hp).1, h2 _ (List.of_mem_zip hp).2⟩
theorem zip_2 : ∀ {as cs : List Int}, as.length = cs.length → (as.zip cs).map (·.2) = cs
  | [], [], _ => rfl
  | a :: as, c :: cs, h => by rw [List.zip_cons_cons, List.map_cons, zip_2 (by simpa using h)]
  | [], _ :: _, h => by simp at h
  | _ :: _, [], h => by simp at h
theorem zip_mm : ∀ {as cs : List Int}, as.length = cs.length → ((as.zip cs).map fun p => max (p.1 - p.2) 0).sum - ((as.zip cs).map fun p => max (p.2 - p.1) 0).sum = as.sum - cs.sum
  | [], [], _ => rfl
  | a :: as, c :: cs, h => by
    have := zip_mm (as := as) (cs := cs) (by simpa using h)
    simp only [List.zip_cons_cons, List.map_cons, List.sum_cons]
    omega
  | [], _ :: _, h => by simp at h
  | _ :: _, [], h => by simp at h
/-- cores for an allocation -/
structure Crs (as cs : List Int) (v b : Int) : Prop where
  a : Alc as v b
  len : cs.length = as.length
  nn : ∀ n ∈ cs, 0 ≤ n
  le : cs.sum ≤ b
theorem Crs.full (h : Crs as cs v b) : (fullR (as.zip cs) as.sum.toNat).length = b.toNat ∧ ((preR (as.zip cs) 0).length : Int) = cs.sum := by
  have l := pre_len (i := 0) (zip_nn h.a.nn h.nn)
  rw [zip_2 h.len.symm] at l
  have := h.le
  have := h.a.sum
  unfold fullR
  rw [List.length_append, List.length_replicate]
  exact ⟨by omega, l⟩
theorem Crs.bal (h : Crs as cs v b) : (fullR (as.zip cs) as.sum.toNat).count none = (overR (as.zip cs) 0).length := by
  have l := h.full.2
  have n := pre_none (z := as.zip cs) (i := 0)
  have o := over_len (z := as.zip cs) (i := 0)
  have m := zip_mm h.len.symm
  have := h.le
  have := h.a.sum
  unfold fullR
  rw [List.count_append, List.count_replicate_self]
  omega
theorem lay_len (h : Crs as cs v b) : ((layI as cs).length : Int) = b := by
  have := h.a.b0
  unfold layI
  rw [fill_len, h.full.1]
  omega
theorem lay_cnt (h : Crs as cs v b) (x : Int) : ((layI as cs).count x : Int) = if 0 ≤ x ∧ x < v then gI as x else 0 := by
  unfold layI
  rw [fill_cnt x h.bal]
  unfold fullR
  rw [List.count_append, List.count_replicate]
  have e : ((none : Option Int) == some x) = false := rfl
  rw [e]
  have c := pre_cnt (z := as.zip cs) (i := 0) x (zip_nn h.a.nn h.nn)
  have hl := h.a.len
  have e2 := h.len
  have e3 : valR (as.zip cs) 0 x = if 0 ≤ x ∧ x < v then gI as x else 0 := by
    unfold valR
    rw [List.length_zip]
    by_cases q : 0 ≤ x ∧ x < v
    · rw [if_pos q, if_pos (by omega)]
      have hx : (x - ((0 : Nat) : Int)).toNat = x.toNat := by omega
      rw [hx, List.getD_eq_getElem?_getD, List.getElem?_eq_getElem (by rw [List.length_zip]; omega)]
      simp only [List.getElem_zip, Option.getD_some]
      unfold gI
      rw [gd_lt (by omega)]
    · rw [if_neg q, if_neg (by omega)]
  rw [← e3, ← c]
  simp
theorem lay_ok (h : Crs as cs v b) (b20 : b ≤ 20) (v0 : 0 ≤ v) : Asg (layI as cs) v ∧ countsI (layI as cs) v = as := by
  have l := lay_len h
  refine ⟨⟨by omega, fun x hx => ?_⟩, ?_⟩
  · have c := lay_cnt h x
    have : 0 < (layI as cs).count x := List.count_pos_iff.mpr hx
    by_cases q : 0 ≤ x ∧ x < v
    · exact q
    · rw [if_neg q] at c; omega
  · have hl := h.a.len
    refine List.ext_getElem (by rw [countsI_len]; omega) fun i h1 h2 => ?_
    have hi : (i : Int) < v := by rw [countsI_len] at h1; omega
    have e := countsI_get (ns := layI as cs) hi
    rw [gd_lt h1] at e
    rw [e, lay_cnt h, if_pos ⟨by omega, hi⟩]
    unfold gI
    rw [Int.toNat_natCast, gd_lt h2]
/-! ### cores that give up what the medians are too many -/
def crsI : Int → List Int → List Int → List Int
  | o, m :: ms, s :: bs => (m - min o (max (m - s) 0)) :: crsI (o - min o (max (m - s) 0)) ms bs
  | _, _, _ => []
theorem crs_len : ∀ {ms bs : List Int} {o : Int}, ms.length = bs.length → (crsI o ms bs).length = ms.length
  | [], [], _, _ => rfl
  | m :: ms, s :: bs, o, h => by unfold crsI; rw [List.length_cons, List.length_cons, crs_len (by simpa using h)]
  | [], _ :: _, _, h => by simp at h
  | _ :: _, [], _, h => by simp at h
theorem crs_at : ∀ {ms bs : List Int} {o : Int} {j : Nat}, 0 ≤ o → ms.length = bs.length → j < ms.length → min (ms.getD j 0) (bs.getD j 0) ≤ (crsI o ms bs).getD j 0 ∧ (crsI o ms bs).getD j 0 ≤ ms.getD j 0
  | [], _, _, _, _, _, h => by simp at h
  | _ :: _, [], _, _, _, h, _ => by simp at h
  | m :: ms, s :: bs, o, 0, h0, _, _ => by
    unfold crsI
    simp only [List.getD_cons_zero]
    omega
  | m :: ms, s :: bs, o, j + 1, h0, hl, hj => by
    have := crs_at (ms := ms) (bs := bs) (o := o - min o (max (m - s) 0)) (j := j) (by omega) (by simpa using hl) (by simpa using hj)
    unfold crsI
    simp only [List.getD_cons_succ]
    exact this
theorem crs_sum : ∀ {ms bs : List Int} {o : Int}, 0 ≤ o → ms.length = bs.length → (crsI o ms bs).sum = ms.sum - min o (zs (fun m s => max (m - s) 0) ms bs)
  | [], [], o, h0, _ => by
    show (0 : Int) = 0 - min o 0
    omega
  | m :: ms, s :: bs, o, h0, h => by
    have ih := crs_sum (ms := ms) (bs := bs) (o := o - min o (max (m - s) 0)) (by omega) (by simpa using h)
    have nn : 0 ≤ zs (fun m s => max (m - s) 0) ms bs := sum_nn fun n hn => by
      obtain ⟨j, _, rfl⟩ := List.mem_map.mp hn
      dsimp only
      omega
    rw [zs_cons]
    unfold crsI
    rw [List.sum_cons, ih, List.sum_cons]
    omega
  | [], _ :: _, _, _, h => by simp at h
  | _ :: _, [], _, _, h => by simp at h
theorem med_nn (h1 : ∀ n ∈ as, 0 ≤ n) (h2 : ∀ n ∈ bs, 0 ≤ n) (h3 : ∀ n ∈ cs, 0 ≤ n) (l1 : as.length = bs.length) (l2 : as.length = cs.length) : ∀ n ∈ medI as bs cs, 0 ≤ n := fun n hn => by
  obtain ⟨j, hj, rfl⟩ := List.mem_map.mp hn
  have := List.mem_range.mp hj
  have := h1 _ (gd_mem (l := as) (j := j) (by omega))
  have := h2 _ (gd_mem (l := bs) (j := j) (by omega))
  have := h3 _ (gd_mem (l := cs) (j := j) (by omega))
  unfold mid3
  (repeat' split) <;> omega
theorem med_len : (medI as bs cs).length = as.length := by simp [medI]
/-- the cores of a return -/
def retC (as bs cs : List Int) : List Int := crsI (exI as bs cs) (medI as bs cs) bs
theorem ex_nn : 0 ≤ exI as bs cs := by unfold exI; split <;> omega
theorem retC_nn (h1 : Alc as v b) (h2 : Alc bs v b) (h3 : Alc cs v b) : ∀ n ∈ retC as bs cs, 0 ≤ n := fun n hn => by
  have l1 := h1.lens h2
  have l2 := h1.lens h3
  have ml : (medI as bs cs).length = bs.length := by rw [med_len]; exact l1
  obtain ⟨j, hj, rfl⟩ := List.mem_iff_getElem.mp hn
  have hl : (retC as bs cs).length = (medI as bs cs).length := crs_len ml
  have hj' : j < (medI as bs cs).length := by omega
  have c := crs_at (o := exI as bs cs) ex_nn ml hj'
  have e : (retC as bs cs)[j] = (crsI (exI as bs cs) (medI as bs cs) bs).getD j 0 := (gd_lt hj).symm
  rw [e]
  have m0 := med_nn h1.nn h2.nn h3.nn l1 l2 _ (gd_mem hj')
  have b0 := h2.nn _ (gd_mem (l := bs) (j := j) (by omega))
  omega
theorem retC_crs (h1 : Alc as v b) (h2 : Alc bs v b) (h3 : Alc cs v b) : (retC as bs cs).length = as.length ∧ (retC as bs cs).sum ≤ b ∧ (retC as bs cs).sum = (medI as bs cs).sum - exI as bs cs := by
  have l1 := h1.lens h2
  have l2 := h1.lens h3
  have ml : (medI as bs cs).length = bs.length := by rw [med_len]; exact l1
  have s := crs_sum (o := exI as bs cs) ex_nn ml
  have : (medI as bs cs).sum - bs.sum ≤ zs (fun m s => max (m - s) 0) (medI as bs cs) bs := by
    have : ∀ {as bs : List Int}, as.length = bs.length → as.sum - bs.sum ≤ zs (fun m s => max (m - s) 0) as bs := by
      intro as
      induction as with
      | nil => intro bs hl; have : bs = [] := List.length_eq_zero_iff.mp (by simpa using hl.symm); subst this; exact Int.le_refl _
      | cons a as ih =>
        intro bs hl
        cases bs with
        | nil => simp at hl
        | cons b bs =>
          have := ih (bs := bs) (by simpa using hl)
          rw [zs_cons, List.sum_cons, List.sum_cons]
          omega
    exact this ml
  have e1 := h1.sum
  have e2 := h2.sum
  have e3 : (retC as bs cs).sum = (medI as bs cs).sum - exI as bs cs := by
    unfold retC
    rw [s]
    have n := sum_nn (ns := (List.range (medI as bs cs).length).map fun j => max ((medI as bs cs).getD j 0 - bs.getD j 0) 0) fun n hn => by
      obtain ⟨j, _, rfl⟩ := List.mem_map.mp hn
      omega
    have n' : 0 ≤ zs (fun m s => max (m - s) 0) (medI as bs cs) bs := n
    unfold exI suI
    split <;> omega
  refine ⟨by unfold retC; rw [crs_len ml, med_len], ?_, e3⟩
  rw [e3]
  unfold exI suI
  split <;> omega
theorem Crs.ret (h1 : Alc as v b) (h2 : Alc bs v b) (h3 : Alc cs v b) : Crs as (retC as bs cs) v b ∧ Crs bs (retC as bs cs) v b ∧ Crs cs (retC as bs cs) v b := by
  obtain ⟨l, s, _⟩ := retC_crs h1 h2 h3
  have n := retC_nn h1 h2 h3
  have l1 := h1.lens h2
  have l2 := h1.lens h3
  exact ⟨⟨h1, l, n, s⟩, ⟨h2, by omega, n, s⟩, ⟨h3, by omega, n, s⟩⟩
theorem Crs.med (h1 : Alc as v b) (h2 : Alc bs v b) (h3 : Alc cs v b) (hs : suI as bs cs ≤ 0) : Crs as (medI as bs cs) v b ∧ Crs bs (medI as bs cs) v b ∧ Crs cs (medI as bs cs) v b := by
  have l1 := h1.lens h2
  have l2 := h1.lens h3
  have n := med_nn h1.nn h2.nn h3.nn l1 l2
  have l := med_len (as := as) (bs := bs) (cs := cs)
  have s : (medI as bs cs).sum ≤ b := by have := h1.sum; unfold suI at hs; omega
  exact ⟨⟨h1, l, n, s⟩, ⟨h2, by omega, n, s⟩, ⟨h3, by omega, n, s⟩⟩
end Lm


/-! xs[i] = ys.pop(k); [rows[x].pop(0) for x in ..] -/
namespace Lm
open PySem PySem.Spec PyProof.Rows L2
section
variable {c : Ct} {H H' H0 H1 H2 H3 : Hp} {O : List Addr} {σ : L2.St} {Γ Γ' Γ1 : List (Option Rs)}
variable {te ta tb tx : TE} {tr : TA} {u : TS} {k ka kb : Kd} {d x y z : PyData} {i j : Int} {ds es : List PyData} {P : Out → Prop}
/-- xs[i] = ys.pop(k) -/
theorem s_popSet {n m t : Nat} {i : Nat} {j : Int} (hx : Γ[n]? = some (some (.o (.list es)))) (hy : Γ[m]? = some (some (.o (.list ds)))) (hnm : n ≠ m) (hes : flatAll es = true) (hds : flatAll ds = true) (hb : Ev c tb Γ kb (.int (i : Int))) (hi : i < ds.length) (hl2 : ds.length < 1000000)
    (ha : ∀ Γ2, Γ2 = Γ.set m (some (.o (.list (ds.eraseIdx i)))) → Ev c ta Γ2 ka (.int j)) (hj : ixN es.length j = some t) (p : P (.nx ((Γ.set m (some (.o (.list (ds.eraseIdx i))))).set n (some (.o (.list (es.set t (ds.getD i .none)))))))) :
    Sd c (tAsg (tBM c.K "list" rPopAt (tVar m) (tCons tb tNil)) (gSub (tVar n) ta rSetL)) Γ P := fun H0 O H σ D e s => by
  obtain ⟨r, ys, f2, hr, hrp, fa2, rf, rO, _⟩ := e.write (es := ds) hy
  refine ⟨.ref r, hr, .inl ⟨rfl, ys, .inl (.inl hrp)⟩, hb H0 O H σ e _ fun v H2 r2 rs => ?_⟩
  have := (Res.bo e rs).int'
  subst this
  have e2 := e.on r2
  obtain ⟨r', ys', f2', hr', hrp', fa2', rf', rO', wr2⟩ := e2.write (es := ds.eraseIdx i) hy
  have : r' = r := by rw [hr] at hr'; cases hr'; rfl
  subst this
  obtain ⟨ef, al⟩ := fa2'.flat0 hds
  obtain ⟨y, hy1, by1⟩ := al.gets (List.getElem?_eq_getElem hi)
  have yl := al.len
  refine ⟨r', ys', (i : Int), i, y, rfl, rfl, hrp', by omega, by omega, ?_, hy1, ?_⟩
  · unfold seqIndex?
    have h1 : ¬ (i : Int) < 0 := by omega
    simp [h1]
    omega
  have upt : ∀ zs : List V, ∀ a xs, TpN c.K H2 a xs → TpN c.K (upd H2 r' (.lst zs)) a xs := fun zs _ _ s => sqT_upd hrp' s
  have e3 := wr2 (ys'.eraseIdx i) (by
    rw [ef]
    refine FoAll.up (upt _) (fun a ha => nomatch ha) (FoAll.leaves (flat_erase hds _) (bo_erase al _)))
  have hx3 : (Γ.set m (some (.o (.list (ds.eraseIdx i)))))[n]? = some (some (.o (.list es))) := by rw [List.getElem?_set_ne (fun z => hnm z.symm)]; exact hx
  obtain ⟨q0, xs0, f0, hq0, hp0, fa0, qf0, qO0, _⟩ := e3.write (es := es) hx3
  refine ⟨.ref q0, hq0, ha _ rfl H0 O _ σ e3 _ fun w H4 r4 ws => ?_⟩
  have e4 := e3.on r4
  obtain ⟨q', xs', f', hq', hp', fa', qf', qO', wr⟩ := e4.write (es := es.set t (ds.getD i .none)) hx3
  have : q' = q0 := by rw [hq0] at hq'; cases hq'; rfl
  subst this
  have eg : ds.getD i .none = ds[i] := by rw [List.getD_eq_getElem?_getD, List.getElem?_eq_getElem hi]; rfl
  have fy : flatD ds[i] = true := flatAll_one hds (List.getElem_mem hi)
  obtain ⟨ef', al'⟩ := fa'.flat0 hes
  have lx := al'.len
  refine ⟨q', xs', j, t, rfl, (Res.bo e3 ws).int', hp', by rw [lx]; exact hj, s _ p O _ σ (wr _ ?_)⟩
  have b3 : Bo c H4 y (ds.getD i .none) := by
    rw [eg]
    exact (by1.flatTo (upt _) fy).flatTo (fun _ _ s => r4.tup e3.jH s) fy
  subst ef'
  exact (FoAll.set0 fa' (by rw [eg]; exact fy) b3).up (fun _ _ s => sqT_upd hp' s) fun a ha => nomatch ha
theorem Env.bareR (e : Env c H0 O H σ Γ) (hb : bareB Γ = true) : Reps c O H σ Γ [] := let ⟨_, hr, _⟩ := e.rep; hr.bareM (D := 0) e.j Rr.rf hb
/-- what is one's own is written, where no slot holds it -/
theorem Env.poke (e : Env c H0 O H σ Γ) (hb : bareB Γ = true) {a : Addr} {o : HO} (ha : a ∈ O) (ho : OwnU o) : Env c H0 O (upd H a o) σ Γ := by
  have em : mns (upd H a o) O = mns H O := by
    funext z
    by_cases hz : z ∈ O
    · rw [mns_in hz, mns_in hz]
    · rw [mns_out hz, mns_out hz, upd_ne (fun w => hz (by rw [w]; exact ha))]
  refine ⟨by rw [em]; exact e.r0, by rw [em]; exact e.j, e.fr, fun b hb' => ?_, [], (e.bareR hb).bareM (D := 0) e.j (by rw [em]; exact Rr.rf) hb, List.nodup_nil, fun a h => nomatch h⟩
  by_cases w : b = a
  · rw [w]; exact ⟨_, upd_same, ho⟩
  · rw [upd_ne w]; exact e.dm b hb'
theorem Env.take (e : Env c H0 O H σ Γ) (hb : bareB Γ = true) {n : Nat} {a : Addr} {ns : List Int} (ha : a ∈ O) (h : H a = some (.lst (ns.map V.int))) : Env c H0 O H (σ.set n (some (.ref a))) (Γ.set n (some (.o (.list (ns.map .int))))) := by
  have hr := e.bareR hb
  refine ⟨e.r0, e.j, e.fr, e.dm, ?_⟩
  by_cases hi : n < Γ.length
  · obtain ⟨x, f, pre, post, h1, h2, h3, h4⟩ := hr.nth (s := Γ[n]) (List.getElem?_eq_getElem hi)
    have h3' := h3.symm
    rw [List.append_eq_nil_iff, List.append_eq_nil_iff] at h3'
    obtain ⟨rfl, rfl, rfl⟩ := h3'
    exact ⟨[a], h4 O H _ _ [a] (fun _ _ _ _ z => z) ⟨.ref a, rfl, .lst h (FoAll.leaves (flatAll_ints _) (BoAll.ofInts _))⟩, by simp, fun b hb => by cases List.mem_singleton.mp hb; exact ha⟩
  · have hs : ¬ n < σ.length := by rw [hr.len]; exact hi
    rw [List.set_eq_of_length_le (by omega), List.set_eq_of_length_le (by omega)]
    exact ⟨[], hr, List.nodup_nil, fun a h => nomatch h⟩
theorem Env.forget (e : Env c H0 O H σ Γ) {m : Nat} : Env c H0 O H σ (Γ.set m none) := by
  have := e.setN (i := m) (x := (σ[m]?).getD none)
  have hσ : σ.set m ((σ[m]?).getD none) = σ := by
    by_cases h : m < σ.length
    · rw [List.getElem?_eq_getElem h]
      exact List.set_getElem_self h
    · exact List.set_eq_of_length_le (by omega)
  rwa [hσ] at this
/-! ### rows from which the first ones are taken -/
def popL : List (List Int) → List Int → List Int
  | _, [] => []
  | L, x :: f => (L.getD x.toNat []).headD 0 :: popL (L.set x.toNat (L.getD x.toNat []).tail) f
def popOk : List (List Int) → List Int → Prop
  | _, [] => True
  | L, x :: f => (0 ≤ x ∧ x.toNat < L.length ∧ L.getD x.toNat [] ≠ []) ∧ popOk (L.set x.toNat (L.getD x.toNat []).tail) f
theorem popL_len : ∀ {L : List (List Int)} {f : List Int}, (popL L f).length = f.length
  | _, [] => rfl
  | _, x :: f => by unfold popL; rw [List.length_cons, List.length_cons, popL_len]
/-- the rows at their addresses -/
def RowsAt (H : Hp) (qs : List Addr) (L : List (List Int)) : Prop := L.length = qs.length ∧ ∀ i q, qs[i]? = some q → H q = some (.lst ((L.getD i []).map V.int))
theorem foAll_rows {H : Hp} : ∀ {L : List (List Int)} {xs : List V} {f : List Addr}, FoAll c H xs (L.map fun r => .list (r.map .int)) f → ∃ qs : List Addr, xs = qs.map V.ref ∧ qs = f ∧ RowsAt H qs L
  | [], xs, f, h => by cases h; exact ⟨[], rfl, rfl, rfl, fun i q hq => by simp at hq⟩
  | r :: L, xs, f, h => by
    cases h with
    | cons a b =>
      obtain ⟨p, ys, g, rfl, rfl, hp, ga⟩ := a.list'
      obtain ⟨rfl, bo⟩ := ga.flat0 (flatAll_ints r)
      have := bo.ints
      subst this
      obtain ⟨qs, rfl, rfl, hl, hq⟩ := foAll_rows b
      refine ⟨p :: qs, rfl, rfl, by simp [hl], fun i q hi => ?_⟩
      cases i with
      | zero => cases hi; exact hp
      | succ i => exact hq i q (by simpa using hi)
theorem q_popRows {m s j n : Nat} {L : List (List Int)} {f : List Int} (hm : Γ[m]? = some (some (.o (.list (L.map fun r => .list (r.map .int)))))) (hs : Γ[s]? = some (some (.v (tupD f)))) (hb : bareB (Γ.set m none) = true) (hmj : m ≠ j) (hms : m ≠ s) (hjl : j < Γ.length) (hok : popOk L f) (hl : f.length ≤ 1000)
    (p : Sd c u ((Γ.set m none).set n (some (.o (.list ((popL L f).map .int))))) P) :
    Sd c (tSeq (tAsg (tLc (iSeq c.K (tVar s)) (gName j) tYes (tBM c.K "list" rPopAt (tOp (rIx c.K) (tVar m) (tVar j)) (tCons (tC (.int 0)) tNil)) [j]) (gName n)) u) Γ P := fun H0 O H σ D e sat => by
  obtain ⟨v, fp, hσm, fo, nd, sub⟩ := e.slotO hm
  obtain ⟨a, xs, g, rfl, rfl, ha, fa⟩ := fo.list'
  obtain ⟨qs, rfl, rfl, RL⟩ := foAll_rows fa
  obtain ⟨hag, ndq⟩ := List.nodup_cons.mp nd
  have aO : a ∈ O := sub a (by simp)
  have qO : ∀ q ∈ qs, q ∈ O := fun q hq => sub q (by simp [hq])
  have e0 : Env c H0 O H σ (Γ.set m none) := e.forget
  have hs' : (Γ.set m none)[s]? = some (some (.v (tupD f))) := by rw [List.getElem?_set_ne hms]; exact hs
  refine (i_seqTI (d_var hs') kv_ne) H0 O H σ e0 _ fun J H1 r1 w C hC => ?_
  obtain ⟨jF, wk⟩ := w
  have e1 := e0.on r1
  have okO : ∀ b ∈ O, okA c b := e.okO
  have aq : ∀ q ∈ qs, q ≠ a := fun q hq z => hag (z ▸ hq)
  have nC : C ∉ O := new_notO e1 hC
  have h1a : H1 a = some (.lst (qs.map V.ref)) := r1.1 a _ (okO a aO) ha
  have R1 : RowsAt H1 qs L := ⟨RL.1, fun i q hq => r1.1 q _ (okO q (qO q (List.mem_of_getElem? hq))) (RL.2 i q hq)⟩
  have okD : okA c C := okA.fresh e1.jH hC
  have okCO : ∀ b ∈ C :: O, okA c b := fun b hb => by
    rcases List.mem_cons.mp hb with w | w
    · rw [w]; exact okD
    · exact okO b w
  have ln : (f.map imI).length = f.length := by simp
  rw [ln] at wk
  refine lc_it wk (fun i H' => ∃ (Li : List (List Int)) (acc : List Int), Env c H0 (C :: O) H' σ (Γ.set m none) ∧ Rr c (mns H1 O) (mns H' (C :: O)) ∧ H' C = some (.lst (acc.map V.int)) ∧ acc.length = i ∧ H' a = some (.lst (qs.map V.ref)) ∧ RowsAt H' qs Li ∧ popOk Li (f.drop i) ∧ acc ++ popL Li (f.drop i) = popL L f) ?_ ?_ ?_ ?_
  · refine ⟨L, [], e1.own hC (Rr.same fun b o z => by rw [upd_ne (ne_of_none z hC)]; exact z) upd_same (by rw [mns_own hC]; exact Rr.rf), by rw [mns_own hC]; exact Rr.rf, upd_same, rfl, ?_, ⟨R1.1, fun i q hq => ?_⟩, by simpa using hok, by simp⟩
    · rw [upd_ne (ne_of_none h1a hC)]; exact h1a
    · have := R1.2 i q hq
      rw [upd_ne (ne_of_none this hC)]; exact this
  · rintro i H' _ ⟨Li, acc, _, rm, _⟩
    exact rm.tr (Rr.same mns_same)
  · rintro i x H' H'' hi ⟨Li, acc, e2, rm, hc, la, ha2, R2, ok2, eq2⟩ ⟨sm, im, him, lo⟩
    have hid : f[i]? = some f[i] := List.getElem?_eq_getElem hi
    rw [List.getElem?_map, hid] at him
    have eim : imI f[i] = im := Option.some.inj him
    subst eim
    have ex : x = V.int f[i] := by
      cases lo with
      | leaf h =>
        rcases h with ⟨_, b⟩ | ⟨_, b⟩
        · exact b.int'
        · exact b.int'
    subst ex
    have df : f.drop i = f[i] :: f.drop (i + 1) := List.drop_eq_getElem_cons hi
    rw [df] at ok2 eq2
    obtain ⟨⟨x0, x1, xne⟩, ok3⟩ := ok2
    have e3 := e2.on (Rr.same sm)
    refine ⟨(wipe_set (by simp)).trans (wipe_wipe fun _ h => h), ?_⟩
    refine yesT ?_
    rw [if_pos rfl]
    have lw : j < σ.length → True := fun _ => trivial
    have km : ((L2.wipe σ [j]).set j (some (V.int f[i])))[m]? = some (some (.ref a)) := by
      show ((σ.set j none).set j _)[m]? = _
      rw [List.set_set, List.getElem?_set_ne (fun z => hmj z.symm)]; exact hσm
    have hqx : f[i].toNat < qs.length := by rw [← R2.1]; exact x1
    have qx : qs[f[i].toNat]? = some qs[f[i].toNat] := List.getElem?_eq_getElem hqx
    have hr := sm _ _ (R2.2 _ _ qx)
    have ha3 := sm _ _ ha2
    have hc3 := sm _ _ hc
    generalize hq : qs[f[i].toNat] = q at qx hr
    have qm : q ∈ qs := List.mem_of_getElem? qx
    obtain ⟨r0, rs, hrow⟩ : ∃ r0 rs, Li.getD f[i].toNat [] = r0 :: rs := by
      cases hh : Li.getD f[i].toNat [] with
      | nil => exact absurd hh xne
      | cons r0 rs => exact ⟨r0, rs, rfl⟩
    rw [hrow] at hr
    have hjl' : j < σ.length := by rw [e.len]; exact hjl
    have kj : ((L2.wipe σ [j]).set j (some (V.int f[i])))[j]? = some (some (.int f[i])) := by
      show ((σ.set j none).set j _)[j]? = _
      rw [List.set_set, List.getElem?_set_self hjl']
    have nCq : C ≠ q := fun z => nC (z ▸ qO q qm)
    have nCa : C ≠ a := fun z => nC (z ▸ aO)
    refine ⟨.ref a, km, .int f[i], kj, .inl ⟨a, qs.map V.ref, f[i], .ref q, rfl, rfl, .inl (.inl ha3), ?_, .inl ⟨rfl, _, .inl (.inl hr)⟩, ?_⟩⟩
    · unfold atI ixN
      rw [List.length_map]
      have h1 : ¬ f[i] < 0 := by omega
      have h2 : f[i] < (qs.length : Int) := by omega
      simp [h1, h2, x0, hq]
    refine ⟨q, (r0 :: rs).map V.int, 0, 0, .int r0, rfl, rfl, hr, by decide, by decide, ?_, rfl, acc.map V.int, by rw [upd_ne nCq]; exact hc3, by rw [List.length_map, la, sizeLine_eq]; omega, Li.set f[i].toNat rs, acc ++ [r0], ?_, ?_, ?_, by simp [la], ?_, ⟨by rw [List.length_set]; exact R2.1, fun t q' hq' => ?_⟩, ?_, ?_⟩
    · unfold seqIndex?
      simp
    · exact (e3.poke (o := .lst _) hb (List.mem_cons_of_mem _ (qO q qm)) trivial).poke (o := .lst _) hb List.mem_cons_self trivial
    · have e5 : mns (upd (upd H'' q (.lst (((r0 :: rs).map V.int).eraseIdx 0))) C (.lst (acc.map V.int ++ [.int r0]))) (C :: O) = mns H'' (C :: O) := by
        funext z
        by_cases hz : z ∈ C :: O
        · rw [mns_in hz, mns_in hz]
        · rw [mns_out hz, mns_out hz, upd_ne (fun w => hz (by rw [w]; simp)), upd_ne (fun w => hz (by rw [w]; simp [qO q qm]))]
      rw [e5]
      exact rm.tr ((Rr.same sm : Rr c H' H'').mns e2.j okCO)
    · rw [upd_same, List.map_append]; rfl
    · rw [upd_ne (fun z => nCa z.symm), upd_ne (fun z => aq q qm z.symm)]; exact ha3
    · have q'm := List.mem_of_getElem? hq'
      rw [upd_ne (fun z => nC (by rw [← z]; exact qO q' q'm))]
      by_cases w : t = f[i].toNat
      · subst w
        have : q' = q := by rw [qx] at hq'; cases hq'; rfl
        rw [this, upd_same, List.getD_eq_getElem?_getD, List.getElem?_set_self x1]
        rfl
      · have : q' ≠ q := fun z => by
          subst z
          have h1 := List.getElem?_eq_some_iff.mp hq'
          have h2 := List.getElem?_eq_some_iff.mp qx
          obtain ⟨l1, g1⟩ := h1
          obtain ⟨l2, g2⟩ := h2
          exact w (by
              have := List.pairwise_iff_getElem.mp ndq
              rcases Nat.lt_trichotomy t f[i].toNat with z | z | z
              · exact absurd (g1.trans g2.symm) (this _ _ l1 l2 z)
              · exact z
              · exact absurd (g2.trans g1.symm) (this _ _ l2 l1 z))
        rw [upd_ne this, List.getD_eq_getElem?_getD, List.getElem?_set_ne (fun z => w z.symm), ← List.getD_eq_getElem?_getD]
        exact sm _ _ (R2.2 t q' hq')
    · rw [hrow] at ok3
      exact ok3
    · rw [← eq2]
      show _ = acc ++ ((Li.getD f[i].toNat []).headD 0 :: popL (Li.set f[i].toNat (Li.getD f[i].toNat []).tail) (f.drop (i + 1)))
      rw [hrow]
      simp
  · rintro H' ⟨Li, acc, e2, rm, hc, la, ha2, R2, ok2, eq2⟩
    rw [List.drop_length] at eq2
    have ea : acc = popL L f := by rw [← eq2]; simp [popL]
    subst ea
    exact p H0 (C :: O) H' _ D (e2.take hb List.mem_cons_self hc) sat
end
end Lm


/-! promises of the triples -/
namespace Lm
open PySem PySem.Spec PyProof.Rows L2
def pnD : Option Int → PyData
  | none => .none
  | some x => .int x
theorem pn_flat : ∀ l : List (Option Int), flatAll (l.map pnD) = true := fun l => flatAll_mem fun d hd => by
  obtain ⟨x, _, rfl⟩ := List.mem_map.mp hd
  cases x <;> rfl
theorem pre_snoc {s c : Int} : ∀ {z : List (Int × Int)} {i : Nat}, preR (z ++ [(s, c)]) i = preR z i ++ (List.replicate (min s c).toNat (some ((i + z.length : Nat) : Int)) ++ List.replicate (c - s).toNat none)
  | [], i => by simp [preR]
  | (a, b) :: z, i => by
    show List.replicate _ _ ++ (List.replicate _ _ ++ preR (z ++ [(s, c)]) (i + 1)) = (List.replicate _ _ ++ (List.replicate _ _ ++ preR z (i + 1))) ++ _
    rw [pre_snoc, List.append_assoc, List.append_assoc]
    congr 4
    rw [List.length_cons]
    congr 3
    omega
theorem over_snoc {s c : Int} : ∀ {z : List (Int × Int)} {i : Nat}, overR (z ++ [(s, c)]) i = overR z i ++ List.replicate (s - c).toNat ((i + z.length : Nat) : Int)
  | [], i => by simp [overR]
  | (a, b) :: z, i => by
    show List.replicate _ _ ++ overR (z ++ [(s, c)]) (i + 1) = (List.replicate _ _ ++ overR z (i + 1)) ++ _
    rw [over_snoc, List.append_assoc]
    congr 2
    rw [List.length_cons]
    congr 1
    omega
theorem rep1 {m : Nat} {d : PyData} : (List.replicate m [d]).flatten = List.replicate m d := List.flatten_replicate_singleton
theorem fl_rep {m : Nat} {d : PyData} (h : flatD d = true) : flatAll (List.replicate m [d]).flatten = true := by
  rw [rep1]
  exact flatAll_mem fun x hx => by rw [(List.mem_replicate.mp hx).2]; exact h
theorem min_py (i j : Int) : (if j < i then j else i) = min i j := by split <;> omega
theorem max_py (i j : Int) : (if j > i then j else i) = max i j := by split <;> omega
def t3D (as bs cs : List Int) : PyData := if suI as bs cs > 0 then .none else .tuple [tupD (layI as (medI as bs cs)), tupD (layI bs (medI as bs cs)), tupD (layI cs (medI as bs cs))]
def a3D (as bs cs : List Int) : PyData := if suI as bs cs > 0 then .none else .int (-(suI as bs cs))
def sp_laid_out (K : PySem.W.Frag) : Sp := spD K fun ds k d => ∃ (as cs : List Int) (v b : Int) (x : PyData), ds = [tupD as, x] ∧ (x = tupD cs ∨ x = .list (cs.map .int)) ∧ Crs as cs v b ∧ 1 ≤ v ∧ v ≤ 5 ∧ b ≤ 20 ∧ k = .v ∧ d = tupD (layI as cs)
def sp_table_of_three (K : PySem.W.Frag) : Sp := spD K fun ds k d => ∃ (as bs cs : List Int) (v b : Int), ds = [tupD as, tupD bs, tupD cs] ∧ Alc as v b ∧ Alc bs v b ∧ Alc cs v b ∧ 1 ≤ v ∧ v ≤ 5 ∧ b ≤ 20 ∧ k = .v ∧ d = t3D as bs cs
def sp_all_different (K : PySem.W.Frag) : Sp := spD K fun ds k d => ∃ (as bs cs : List Int) (v b : Int), ds = [tupD as, tupD bs, tupD cs] ∧ Alc as v b ∧ Alc bs v b ∧ Alc cs v b ∧ 1 ≤ v ∧ v ≤ 5 ∧ b ≤ 20 ∧ k = .v ∧ d = a3D as bs cs
def sp_return_cost (K : PySem.W.Frag) : Sp := spD K fun ds k d => ∃ (as bs cs : List Int) (v b : Int), ds = [tupD as, tupD bs, tupD cs] ∧ Alc as v b ∧ Alc bs v b ∧ Alc cs v b ∧ 1 ≤ v ∧ v ≤ 5 ∧ b ≤ 20 ∧ k = .v ∧ d = .int (trI as cs + exI as bs cs)
def sp_returning_cores (K : PySem.W.Frag) : Sp := spD K fun ds k d => ∃ (as bs cs : List Int) (v b : Int), ds = [tupD as, tupD bs, tupD cs] ∧ Alc as v b ∧ Alc bs v b ∧ Alc cs v b ∧ 1 ≤ v ∧ v ≤ 5 ∧ b ≤ 20 ∧ k = .o ∧ d = .list ((retC as bs cs).map .int)
/-- all assignments of an allocation -/
def ofL (as : List Int) : List (List Int) := (allL as.length as.sum.toNat).filter fun r => decide (countsI r as.length = as)
def sp__law_of (K : PySem.W.Frag) : Sp := spD K fun ds k d => ∃ (as : List Int) (v b : Int), ds = [tupD as] ∧ Alc as v b ∧ 1 ≤ v ∧ v ≤ 5 ∧ b ≤ 6 ∧ k = .o ∧ d = .list ((ofL as).map tupD)
theorem mem_ofL {as r : List Int} {v b : Int} (h : Alc as v b) (v1 : 1 ≤ v) (b20 : b ≤ 20) : r ∈ ofL as ↔ Asg r v ∧ (r.length : Int) = b ∧ countsI r v = as := by
  have hl := h.len
  have hs := h.sum
  have b0 := h.b0
  unfold ofL
  rw [List.mem_filter, hs, hl, decide_eq_true_eq, mem_allL (by omega)]
  constructor
  · rintro ⟨⟨h1, h2⟩, h3⟩
    exact ⟨⟨by omega, h2⟩, by omega, h3⟩
  · rintro ⟨h1, h2, h3⟩
    exact ⟨⟨by omega, h1.rng⟩, h3⟩
def sp__law_sizesT (K : PySem.W.Frag) : Sp := spS K fun ds k P => ds = [] ∧ k = .v ∧ P = fun d => ∃ v b : Int, d = .tuple [.int v, .int b] ∧ 1 ≤ v ∧ v ≤ 5 ∧ 0 ≤ b ∧ b ≤ 4 ∧ (v = 5 → b ≤ 2) ∧ (v = 4 → b ≤ 3)
end Lm


/-! tables of three: which there are (k28) -/
namespace Lm
open PySem PySem.Spec PyProof.Rows L2
variable {v b : Int} {as bs cs one f g : List Int}
theorem perm_cntsI (hf : Asg f v) (hg : Asg g v) (hl : f.length = g.length) (hc : countsI f v = countsI g v) : f.Perm g := by
  refine perm_of_count (fun x => ?_) (Nat.le_of_eq hl.symm)
  by_cases m : x ∈ f
  · obtain ⟨x0, x1⟩ := hf.rng x m
    obtain ⟨j, rfl⟩ := Int.eq_ofNat_of_zero_le x0
    have e1 := countsI_get (ns := f) x1
    have e2 := countsI_get (ns := g) x1
    rw [hc, e2] at e1
    omega
  · rw [List.count_eq_zero_of_not_mem m]; exact Nat.zero_le _
theorem permF_len {p : List Nat} {f : List Int} : (permF p f).length = p.length := by unfold permF; rw [List.length_map]
theorem of_head (h : Alc as v b) (v1 : 1 ≤ v) (b20 : b ≤ 20) : ∃ one rest, ofL as = one :: rest ∧ Asg one v ∧ (one.length : Int) = b ∧ countsI one v = as := by
  have c : Crs as as v b := ⟨h, rfl, h.nn, by rw [h.sum]; exact Int.le_refl _⟩
  have o := lay_ok c b20 (by omega)
  have m : layI as as ∈ ofL as := (mem_ofL h v1 b20).mpr ⟨o.1, lay_len c, o.2⟩
  cases e : ofL as with
  | nil => rw [e] at m; cases m
  | cons x l =>
    have mx : x ∈ ofL as := by rw [e]; exact List.mem_cons_self
    obtain ⟨h1, h2, h3⟩ := (mem_ofL h v1 b20).mp mx
    exact ⟨x, l, rfl, h1, h2, h3⟩
end Lm


/-! returns (k30, k31) -/
namespace Lm
open PySem PySem.Spec PyProof.Rows L2
variable {v b : Int} {as bs cs f F G : List Int}
theorem getD_setL {W : List (List Int)} {i j : Nat} {r : List Int} (h : i < W.length) : (W.set i r).getD j [] = if i = j then r else W.getD j [] := by
  rw [List.getD_eq_getElem?_getD, List.getElem?_set]
  by_cases q : i = j
  · subst q
    rw [if_pos rfl, if_pos rfl, if_pos h]; rfl
  · rw [if_neg q, if_neg q, ← List.getD_eq_getElem?_getD]
theorem flatten_set {W : List (List Int)} {i : Nat} {q : Int} {r : List Int} (h : i < W.length) (e : W.getD i [] = q :: r) : (q :: (W.set i r).flatten).Perm W.flatten := by
  induction W generalizing i with
  | nil => simp at h
  | cons a W ih =>
    cases i with
    | zero =>
      have : a = q :: r := e
      subst this
      exact List.Perm.refl _
    | succ i =>
      have := ih (i := i) (by simpa using h) e
      show (q :: (a ++ (W.set i r).flatten)).Perm (a ++ W.flatten)
      exact List.perm_middle.symm.trans (List.Perm.append_left a this)
/-- what is popped: for each item one of its row, each once -/
theorem popL_spec {P : Nat → Int → Prop} : ∀ {f : List Int} {W : List (List Int)}, (∀ x ∈ f, 0 ≤ x ∧ x.toNat < W.length) → (∀ i < W.length, (W.getD i []).length = f.count (i : Int)) → (∀ i < W.length, ∀ q ∈ W.getD i [], P i q) →
    popOk W f ∧ (∀ k < f.length, P (f.getD k 0).toNat ((popL W f).getD k 0)) ∧ (popL W f).Perm W.flatten
  | [], W, _, h2, _ => by
    refine ⟨trivial, fun k hk => absurd hk (by simp), ?_⟩
    have : W.flatten = [] := by
      rw [List.flatten_eq_nil_iff]
      intro l hl
      obtain ⟨i, hi, rfl⟩ := List.mem_iff_getElem.mp hl
      have := h2 i hi
      rw [List.getD_eq_getElem?_getD, List.getElem?_eq_getElem hi] at this
      exact List.length_eq_zero_iff.mp (by simpa using this)
    rw [this]
    exact List.Perm.refl _
  | x :: f, W, h1, h2, h3 => by
    obtain ⟨x0, x1⟩ := h1 x (by simp)
    have hc := h2 x.toNat x1
    have ex : ((x.toNat : Nat) : Int) = x := by omega
    rw [ex, List.count_cons] at hc
    obtain ⟨q, r, hr⟩ : ∃ q r, W.getD x.toNat [] = q :: r := by
      cases hh : W.getD x.toNat [] with
      | nil => rw [hh] at hc; simp at hc
      | cons q r => exact ⟨q, r, rfl⟩
    have hq := h3 x.toNat x1 q (by rw [hr]; simp)
    obtain ⟨i1, i2, i3⟩ := popL_spec (P := P) (f := f) (W := W.set x.toNat r) (fun y hy => by rw [List.length_set]; exact h1 y (by simp [hy])) (fun i hi => by
      rw [List.length_set] at hi
      rw [getD_setL x1]
      have := h2 i hi
      rw [List.count_cons] at this
      by_cases w : x.toNat = i
      · rw [if_pos w]
        subst w
        rw [hr] at hc
        rw [ex]
        simp at hc
        omega
      · rw [if_neg w]
        have : ¬ (x == (i : Int)) = true := by simp; omega
        simp [this] at *
        omega) (fun i hi p hp => by
      rw [List.length_set] at hi
      rw [getD_setL x1] at hp
      by_cases w : x.toNat = i
      · rw [if_pos w] at hp
        subst w
        exact h3 _ x1 p (by rw [hr]; simp [hp])
      · rw [if_neg w] at hp
        exact h3 i hi p hp)
    have e2 : popL W (x :: f) = q :: popL (W.set x.toNat r) f := by
      show (W.getD x.toNat []).headD 0 :: popL (W.set x.toNat (W.getD x.toNat []).tail) f = _
      rw [hr]
      rfl
    refine ⟨⟨⟨x0, x1, by rw [hr]; simp⟩, by rw [hr]; exact i1⟩, fun k hk => ?_, ?_⟩
    · rw [e2]
      cases k with
      | zero => exact hq
      | succ k => exact i2 k (by simpa using hk)
    · rw [e2]
      exact (i3.cons q).trans (flatten_set x1 hr)
/-- the places of each variant -/
def wtL (F : List Int) (n : Nat) : List (List Int) := (List.range n).map fun i : Nat => placesI F (i : Int)
theorem mem_placesX {F : List Int} {x q : Int} : q ∈ placesI F x ↔ 0 ≤ q ∧ q < F.length ∧ F.getD q.toNat 0 = x := by
  unfold placesI
  rw [zipIdx_places, List.mem_filter, mem_upI, decide_eq_true_eq]
  constructor
  · rintro ⟨⟨h1, h2⟩, h3⟩; exact ⟨h1, h2, h3⟩
  · rintro ⟨h1, h2, h3⟩; exact ⟨⟨h1, h2⟩, h3⟩
theorem places_lenX {F : List Int} {x : Int} : (placesI F x).length = F.count x := by
  unfold placesI
  rw [List.length_map]
  have : ∀ (F : List Int) (k : Nat), ((F.zipIdx k).filter fun p => decide (p.1 = x)).length = F.count x := by
    intro F
    induction F with
    | nil => intro k; rfl
    | cons a F ih =>
      intro k
      rw [List.zipIdx_cons, List.filter_cons, List.count_cons]
      have := ih (k + 1)
      by_cases q : a = x
      · simp [q]; simpa [q] using this
      · simp [q]; simpa [q] using this
  exact this F 0
theorem places_nd {F : List Int} {x : Int} : (placesI F x).Nodup := by
  unfold placesI
  rw [zipIdx_places]
  exact (nodup_upI _).sublist List.filter_sublist
theorem wt_at {F : List Int} {n i : Nat} (h : i < n) : (wtL F n).getD i [] = placesI F (i : Int) := by
  unfold wtL
  simp [List.getD_eq_getElem?_getD, h]
/-- the places are an order that takes the one to the other -/
theorem pop_ord {F f : List Int} {n : Nat} (hF : Asg F (n : Int)) (hf : Asg f (n : Int)) (hl : F.length = f.length) (hc : countsI F n = countsI f n) :
    popOk (wtL F n) f ∧ IsOrd (popL (wtL F n) f) F.length ∧ permF ((popL (wtL F n) f).map Int.toNat) F = f := by
  have wl : (wtL F n).length = n := by simp [wtL]
  have pm := perm_cntsI hF hf hl hc
  obtain ⟨i1, i2, i3⟩ := popL_spec (P := fun i q => 0 ≤ q ∧ q < F.length ∧ F.getD q.toNat 0 = (i : Int)) (f := f) (W := wtL F n) (fun x hx => by have := hf.rng x hx; omega) (fun i hi => by
    rw [wl] at hi
    rw [wt_at hi, places_lenX, pm.count_eq]) (fun i hi q hq => by
    rw [wl] at hi
    rw [wt_at hi] at hq
    exact mem_placesX.mp hq)
  have nd : (wtL F n).flatten.Nodup := by
    unfold List.Nodup
    rw [List.pairwise_flatten]
    refine ⟨fun l hl => ?_, ?_⟩
    · obtain ⟨i, _, rfl⟩ := List.mem_map.mp hl
      exact places_nd
    · unfold wtL
      rw [List.pairwise_map]
      refine List.pairwise_lt_range.imp fun {a c} hac => ?_
      intro q hq q' hq' eq
      subst eq
      have e1 := (mem_placesX.mp hq).2.2
      have e2 := (mem_placesX.mp hq').2.2
      omega
  have ln : (popL (wtL F n) f).length = f.length := popL_len
  refine ⟨i1, ⟨by rw [ln, hl], i3.nodup_iff.mpr nd, fun q hq => ?_⟩, ?_⟩
  · obtain ⟨k, hk, rfl⟩ := List.mem_iff_getElem.mp hq
    have := i2 k (by omega)
    rw [gd_lt hk] at this
    exact ⟨this.1, this.2.1⟩
  · refine List.ext_getElem (by rw [permF_len, List.length_map, ln]) fun k h1 h2 => ?_
    have := i2 k h2
    have e : (permF ((popL (wtL F n) f).map Int.toNat) F)[k] = F.getD ((popL (wtL F n) f).getD k 0).toNat 0 := by
      simp [permF, List.getD_eq_getElem?_getD, show k < (popL (wtL F n) f).length by omega]
    rw [e, this.2.2, gd_lt h2]
    have := hf.rng _ (List.getElem_mem h2)
    omega
def plcX (as bs cs f : List Int) : List Int := popL (wtL (layI as (retC as bs cs)) as.length) f
def rtd (as bs cs f G : List Int) : List Int := (plcX as bs cs f).map fun q => G.getD q.toNat 0
def rtdD (as bs cs f : List Int) : PyData := .tuple [tupD (rtd as bs cs f (layI bs (retC as bs cs))), tupD (rtd as bs cs f (layI cs (retC as bs cs)))]
theorem plc_ok (ha : Alc as v b) (hb : Alc bs v b) (hc : Alc cs v b) (v1 : 1 ≤ v) (b20 : b ≤ 20) (hf : Asg f v) (hfl : (f.length : Int) = b) (hfc : countsI f v = as) :
    popOk (wtL (layI as (retC as bs cs)) as.length) f ∧ IsOrd (plcX as bs cs f) b ∧ permF ((plcX as bs cs f).map Int.toNat) (layI as (retC as bs cs)) = f := by
  obtain ⟨c1, c2, c3⟩ := Crs.ret ha hb hc
  have o1 := lay_ok c1 b20 (by omega)
  have n1 := lay_len c1
  have la := ha.len
  have := pop_ord (F := layI as (retC as bs cs)) (f := f) (n := as.length) (by rw [la]; exact o1.1) (by rw [la]; exact hf) (by omega) (by rw [la, o1.2, hfc])
  rw [show ((layI as (retC as bs cs)).length : Int) = b from n1] at this
  exact this
/-! ### any value as an assignment of an allocation, as a table -/
def asoB (x : PyData) (as : List Int) : Bool := isAsgB x as.length as.sum && decide (countsI (intsD x) as.length = as)
theorem aso_tup {r as : List Int} (ha : Alc as v b) : asoB (tupD r) as = decide ((r.length : Int) = b ∧ (∀ n ∈ r, 0 ≤ n ∧ n < v) ∧ countsI r v = as) := by
  have la := ha.len
  unfold asoB
  rw [intsD_tup, la, ha.sum]
  unfold isAsgB
  rw [lenT_ints]
  by_cases h : ∀ n ∈ r, 0 ≤ n ∧ n < v
  · rw [areInts_of fun n hn => ⟨(h n hn).1, by have := (h n hn).2; omega⟩]
    have : decide (∀ n ∈ r, 0 ≤ n ∧ n < v) = true := decide_eq_true h
    simp [this]
  · have : areInts (tupD r) 0 (v - 1) = false := by
      cases q : areInts (tupD r) 0 (v - 1) with
      | false => rfl
      | true =>
        exfalso
        obtain ⟨ns, e, hn⟩ := areInts_ints q
        have : ns = r := by
          have := PyData.tuple.inj e
          exact ((List.map_inj_right fun a c z => PyData.int.inj z).mp this).symm
        subst this
        exact h fun n hn' => by have := hn n hn'; omega
    rw [this]
    simp [h]
def sp_is_assignment_ofB (K : PySem.W.Frag) : Sp := spD K fun ds k d => ∃ (x : PyData) (as : List Int) (v b : Int), ds = [x, tupD as] ∧ SmallT x ∧ Alc as v b ∧ 1 ≤ v ∧ v ≤ 5 ∧ b ≤ 20 ∧ k = .v ∧ d = .bool (asoB x as)
def asosB (x : PyData) (A : List (List Int)) : Bool := match x with
  | .tuple es => decide (es.length = A.length) && (es.zip A).all fun p => asoB p.1 p.2
  | _ => false
def sp_are_assignments_ofB (K : PySem.W.Frag) : Sp := spD K fun ds k d => ∃ (x : PyData) (A : List (List Int)) (v b : Int), ds = [x, .tuple (A.map tupD)] ∧ SmL x ∧ (∀ a ∈ A, Alc a v b) ∧ A.length ≤ 1000 ∧ 1 ≤ v ∧ v ≤ 5 ∧ b ≤ 20 ∧ k = .v ∧ d = .bool (asosB x A)
def sp_is_least (K : PySem.W.Frag) : Sp := spD K fun ds k d => ∃ (as bs f g : List Int) (v b : Int), ds = [tupD as, tupD bs, tupD f, tupD g] ∧ Alc as v b ∧ Alc bs v b ∧ Asg f v ∧ Asg g v ∧ f.length = g.length ∧ 1 ≤ v ∧ v ≤ 5 ∧ b ≤ 20 ∧ k = .v ∧ d = .bool (decide (zs ne1 f g = trI as bs))
def sp_returned (K : PySem.W.Frag) : Sp := spD K fun ds k d => ∃ (as bs cs f : List Int) (v b : Int), ds = [tupD as, tupD bs, tupD cs, tupD f] ∧ Alc as v b ∧ Alc bs v b ∧ Alc cs v b ∧ 1 ≤ v ∧ v ≤ 5 ∧ b ≤ 20 ∧ Asg f v ∧ (f.length : Int) = b ∧ countsI f v = as ∧ k = .v ∧ d = rtdD as bs cs f
end Lm


/-! any value as a return, as an answer (k31, k29) -/
namespace Lm
open PySem PySem.Spec PyProof.Rows L2
variable {v b : Int} {as bs cs f F G : List Int}
def itD (x : PyData) (i : Nat) : PyData := match x with
  | .tuple es => es.getD i .none
  | _ => .none
theorem aso_of {x : PyData} (ha : Alc as v b) (b20 : b ≤ 20) (h : asoB x as = true) : ∃ r, x = tupD r ∧ Asg r v ∧ (r.length : Int) = b ∧ countsI r v = as := by
  have h' := h
  unfold asoB isAsgB at h'
  rw [Bool.and_eq_true, Bool.and_eq_true] at h'
  obtain ⟨r, rfl, hr⟩ := areInts_ints h'.1.1
  rw [show (PyData.tuple (r.map .int)) = tupD r from rfl, aso_tup ha, decide_eq_true_eq] at h
  exact ⟨r, rfl, ⟨by omega, h.2.1⟩, h.1, h.2.2⟩
theorem asos3 {x : PyData} (ha : Alc as v b) (hb : Alc bs v b) (hc : Alc cs v b) (b20 : b ≤ 20) (h : asosB x [as, bs, cs] = true) : ∃ f g k, x = .tuple [tupD f, tupD g, tupD k] ∧ (Asg f v ∧ (f.length : Int) = b ∧ countsI f v = as) ∧ (Asg g v ∧ (g.length : Int) = b ∧ countsI g v = bs) ∧ (Asg k v ∧ (k.length : Int) = b ∧ countsI k v = cs) := by
  cases x with
  | tuple es =>
    have h' : (decide (es.length = 3) && (es.zip [as, bs, cs]).all fun p => asoB p.1 p.2) = true := h
    rw [Bool.and_eq_true, decide_eq_true_eq] at h'
    obtain ⟨hl, hz⟩ := h'
    obtain ⟨x, y, z, rfl⟩ : ∃ x y z, es = [x, y, z] := match es, hl with | [x, y, z], _ => ⟨x, y, z, rfl⟩
    simp only [List.zip_cons_cons, List.all_cons, Bool.and_eq_true] at hz
    obtain ⟨f, rfl, hf⟩ := aso_of ha b20 hz.1
    obtain ⟨g, rfl, hg⟩ := aso_of hb b20 hz.2.1
    obtain ⟨k, rfl, hk⟩ := aso_of hc b20 hz.2.2.1
    exact ⟨f, g, k, rfl, hf, hg, hk⟩
  | _ => cases h
def accRB (as bs cs : List Int) (x : PyData) : Bool := asosB x [as, bs, cs] && ((decide (zs ne1 (intsD (itD x 0)) (intsD (itD x 1)) = trI as bs) && decide (zs ne1 (intsD (itD x 1)) (intsD (itD x 2)) = trI bs cs)) && decide (zs ne1 (intsD (itD x 0)) (intsD (itD x 2)) = trI as cs + exI as bs cs))
def sp_accepts_return (K : PySem.W.Frag) : Sp := spD K fun ds k d => ∃ (as bs cs : List Int) (v b : Int) (x : PyData), ds = [tupD as, tupD bs, tupD cs, x] ∧ Alc as v b ∧ Alc bs v b ∧ Alc cs v b ∧ 1 ≤ v ∧ v ≤ 5 ∧ b ≤ 20 ∧ SmL x ∧ k = .v ∧ d = .bool (accRB as bs cs x)
def tab3B (as bs cs : List Int) (x : PyData) : Bool := asosB x [as, bs, cs] && (decide (zs ne1 (intsD (itD x 0)) (intsD (itD x 1)) = trI as bs) && (decide (zs ne1 (intsD (itD x 0)) (intsD (itD x 2)) = trI as cs) && decide (zs ne1 (intsD (itD x 1)) (intsD (itD x 2)) = trI bs cs)))
def sp_is_table_of_three (K : PySem.W.Frag) : Sp := spD K fun ds k d => ∃ (as bs cs : List Int) (v b : Int) (x : PyData), ds = [.tuple [tupD as, tupD bs, tupD cs], x] ∧ Alc as v b ∧ Alc bs v b ∧ Alc cs v b ∧ 1 ≤ v ∧ v ≤ 5 ∧ b ≤ 20 ∧ SmL x ∧ k = .v ∧ d = .bool (tab3B as bs cs x)
/-! ### the chains of k31 -/
end Lm


/-! calls with drawn arguments in any place -/
namespace Lm
open PySem PySem.Spec PyProof.Rows L2
variable {v b : Int} {as bs cs : List Int}
theorem aso_no {x : PyData} (h : areInts x 0 ((as.length : Int) - 1) = false) : asoB x as = false := by
  unfold asoB isAsgB
  rw [h]; rfl
end Lm


/-! any value as an answer (k29, k33) -/
namespace Lm
open PySem PySem.Spec PyProof.Rows L2
variable {v b : Int} {as bs cs f g k : List Int}
def medB (as bs cs : List Int) (y : PyData) : Bool := areInts y 0 20 && (decide (intsD y = medI as bs cs) && decide (as.sum < (medI as bs cs).sum))
def a3v (as bs cs : List Int) (w : V) (y : PyData) : Bool := if w = .str "medians" then medB as bs cs y else (decide (w = .str "table") && tab3B as bs cs y)
def nt2 : PyData → Bool
  | .tuple es => !decide (es.length = 2)
  | _ => true
def wrdB : V → Bool
  | .str _ => true
  | .int _ => true
  | .non => true
  | _ => false
/-- a word and a value, or no such thing -/
def sp_accepts_three (K : PySem.W.Frag) : Sp := spD K fun ds k d => ∃ (as bs cs : List Int) (v b : Int) (x : PyData), ds = [tupD as, tupD bs, tupD cs, x] ∧ Alc as v b ∧ Alc bs v b ∧ Alc cs v b ∧ 1 ≤ v ∧ v ≤ 5 ∧ b ≤ 20 ∧ k = .v ∧
  ((∃ w y sv, x = .tuple [w, y] ∧ scalD w = some sv ∧ wrdB sv = true ∧ SmL y ∧ d = .bool (a3v as bs cs sv y)) ∨ (nt2 x = true ∧ SmallT x ∧ d = .bool false))
theorem SmL.t' {x : PyData} (h : SmL x) : SmallT x := fun es e => by have := (h es e).1; omega
end Lm
namespace Lm
open PySem PySem.Spec PyProof.Rows L2
end Lm
namespace Lm
open PySem PySem.Spec PyProof.Rows L2
end Lm


/-! who raises what among the triples (k34) -/
namespace Lm
open PySem PySem.Spec PyProof.Rows L2
def RcLk (ds : List PyData) (nm : Str) : Prop := ∃ (x : PyData) (as : List Int) (v b : Int), ds = [x, tupD as, .str nm] ∧ nm.length ≤ 1000 ∧ Alc as v b ∧ SmallT x ∧ isAlloc x v b = false
theorem RcLk_len {ds nm} (h : RcLk ds nm) : ds.length = 3 := by obtain ⟨x, as, v, b, rfl, _⟩ := h; rfl
def RcM (n1 n2 n3 : Str) (ds : List PyData) (nm : Str) : Prop := ∃ a x y, ds = [a, x, y] ∧ ((SmallT a ∧ balB a = false ∧ nm = n1) ∨ ∃ (as : List Int) (v b : Int), a = tupD as ∧ Alc as v b ∧ 1 ≤ v ∧ v ≤ 5 ∧ b ≤ 20 ∧ ((SmallT x ∧ isAlloc x v b = false ∧ nm = n2) ∨ ∃ cs : List Int, x = tupD cs ∧ Alc cs v b ∧ SmallT y ∧ isAlloc y v b = false ∧ nm = n3))
abbrev RcM1 := RcM "first" "second" "third"
abbrev RcLB := RcM "middle" "first" "second"
theorem RcM_len {n1 n2 n3 ds nm} (h : RcM n1 n2 n3 ds nm) : ds.length = 3 := by obtain ⟨x, y, z, rfl, _⟩ := h; rfl
theorem RcM1_len {ds nm} (h : RcM1 ds nm) : ds.length = 3 := RcM_len h
theorem RcLB_len {ds nm} (h : RcLB ds nm) : ds.length = 3 := RcM_len h
def RcA4 (ds : List PyData) (nm : Str) : Prop := ∃ a x y z, ds = [a, x, y, z] ∧ RcM1 [a, x, y] nm
theorem RcA4_len {ds nm} (h : RcA4 ds nm) : ds.length = 4 := by obtain ⟨x, y, z, w, rfl, _⟩ := h; rfl
def RcR4 (ds : List PyData) (nm : Str) : Prop := ∃ a x y z, ds = [a, x, y, z] ∧ (RcM1 [a, x, y] nm ∨ ∃ (as bs cs : List Int) (v b : Int), a = tupD as ∧ x = tupD bs ∧ y = tupD cs ∧ Alc as v b ∧ Alc bs v b ∧ Alc cs v b ∧ 1 ≤ v ∧ v ≤ 5 ∧ b ≤ 20 ∧ SmallT z ∧ asoB z as = false ∧ nm = "assignment")
theorem RcR4_len {ds nm} (h : RcR4 ds nm) : ds.length = 4 := by obtain ⟨x, y, z, w, rfl, _⟩ := h; rfl
def R34 (w : Nat) (ds : List PyData) (nm : Str) : Prop := ∃ a x y z, ds = [a, x, y, z] ∧ if w = 8 then RcLB [a, x, y] nm else if w = 7 then RcR4 [a, x, y, z] nm else RcM1 [a, x, y] nm
def sp__law_told34 (K : PySem.W.Frag) : Sp := spD K fun ds k d => ∃ (w : Nat) (a x y z : PyData) (nm : Str), ds = [.int (w : Int), a, x, y, z] ∧ w ≤ 8 ∧ R34 w [a, x, y, z] nm ∧ k = .v ∧ d = .tuple [.str "bad", .str nm]
section
variable {K : PySem.W.Frag} {C : Addr} {H0 : Hp} {Γ : List (Option Rs)} {σ : L2.St} {te : TE} {tt : TT} {t u : TS} {nm : Str}
theorem x_cb {c : Ct} {ta : TA} {r : List V → Hp → VK → Prop} (h : EvRz c H0 te Γ) : EvRz c H0 (tCB r (tCons te ta)) Γ := fun O H σ Q e => h O H σ _ e
theorem x_asgE {c : Ct} {g : TG} (h : EvRz c H0 te Γ) : SdX c H0 (tAsg te g) Γ := fun O H σ D e => h O H σ _ e
theorem x_asgO {c : Ct} {d : PyData} {n : Nat} (h : Ev c te Γ .o d) (p : SdX c H0 u (Γ.set n (some (.o d)))) : SdX c H0 (tSeq (tAsg te (gName n)) u) Γ := fun O H σ D e => h H0 O H σ e _ fun v H2 r ⟨fp, f, nd, new⟩ => p _ H2 _ D (e.setO r f nd new)
theorem y_take {c : Ct} (h : EvT c tt Γ true) (h1 : SdY c H0 σ t Γ) : SdY c H0 σ (tSeq (tIfS tt t tNext) u) Γ := fun O H D e => y_yes h h1 O H _ e
theorem y_skip {c : Ct} (h : EvT c tt Γ false) (p : SdY c H0 σ u Γ) : SdY c H0 σ (tSeq (tIfS tt t tNext) u) Γ := fun O H D e => h H0 O H σ e _ fun H1 r => by
  show if false = true then _ else _
  rw [if_neg (by decide)]
  exact p O H1 D (e.on r)
theorem was_tup {P : Program} {w : World} {mg : Str → Option Value} {base : Heap} {i : Nat} {Wout : WX} {D : Ends} {dx : Addr} {H1 : Hp} {s : Str} (X : Exc1 P w K mg base "BadValue" "name" C) (hi : i < σ.length) (hdx : H1 dx = some (.xd [("name", .str nm)]))
    (q : ∀ p H2, Same H1 H2 → TpN K H2 p [.str s, .str nm] → D.rt (.ref p) H2) :
    wAs K (.ref C) i (fun a cls d => tRet (tTupN (tCons (tC (.str s)) (tCons (tXf a cls d C "name" (tVar i)) tNil)))) Wout D (.ref C) (some dx) σ H1 :=
  ⟨true, X.exm, fun _ a ha => ⟨.ref a, by rw [List.getElem?_set_self hi], rfl, rfl, dx, _, .str nm, rfl, hdx, rfl, by show 2 ≤ sizeLine; decide, newTk (c := pc K) fun p H2 hp sm tp => q p H2 sm tp⟩, fun w => nomatch w⟩
end
/-! what is no allocation, no assignment of it -/
theorem smallT_no {x : PyData} (h : ∀ es, x ≠ .tuple es) : SmallT x := fun es e => absurd e (h es)
theorem smallT_tup {es : List PyData} (h : es.length ≤ 1000000) : SmallT (.tuple es) := fun es' e => by cases e; exact h
def NoAl (v b : Int) (x : PyData) : Prop := SmallT x ∧ isAlloc x v b = false
theorem noAl_int {v b : Int} {es : List PyData} (hl : es.length ≤ 1000000) (h : areInts (.tuple es) 0 b = false) : NoAl v b (.tuple es) := ⟨smallT_tup hl, by unfold isAlloc; rw [h]; rfl⟩
theorem noAl_ints {v b : Int} {ns : List Int} (hl : ns.length ≤ 1000000) (h : ¬ ((ns.length : Int) = v ∧ ns.sum = b)) : NoAl v b (tupD ns) := by
  refine ⟨small_ints hl, ?_⟩
  unfold isAlloc
  rw [lenT_ints, sumT_ints]
  by_cases q : (ns.length : Int) = v
  · have : ¬ ns.sum = b := fun z => h ⟨q, z⟩
    simp [this]
  · simp [q]
theorem areInts_neg {ns : List Int} {lo hi : Int} {x : Int} (hm : x ∈ ns) (h : x < lo ∨ hi < x) : areInts (tupD ns) lo hi = false := by
  cases q : areInts (tupD ns) lo hi with
  | false => rfl
  | true =>
    exfalso
    obtain ⟨ms, e, hn⟩ := areInts_ints q
    have : ms = ns := ((List.map_inj_right fun a c z => PyData.int.inj z).mp (PyData.tuple.inj e)).symm
    subst this
    have := hn x hm
    omega
theorem areInts_bad {es : List PyData} {lo hi : Int} {x : PyData} (hm : x ∈ es) (h : ∀ n : Int, x ≠ .int n) : areInts (.tuple es) lo hi = false := by
  cases q : areInts (.tuple es) lo hi with
  | false => rfl
  | true =>
    exfalso
    obtain ⟨ms, e, hn⟩ := areInts_ints q
    rw [PyData.tuple.inj e] at hm
    obtain ⟨n, _, w⟩ := List.mem_map.mp hm
    exact h n w.symm
def sp__law_wrong (K : PySem.W.Frag) : Sp := spS K fun ds k P => ∃ (as : List Int) (v b : Int), ds = [tupD as] ∧ Alc as v b ∧ 1 ≤ v ∧ v ≤ 5 ∧ b ≤ 20 ∧ k = .b ∧ P = NoAl v b
end Lm


/-! the program's own text, by places -/
namespace W
open PySem PySem.Spec PyProof.Rows L2 Lm
def topS (i : Nat) : Stmt := PySem.Challenge.pw_leastmoved_k34_refusals_of_triples.main.body.getD i (.Pass ⟨0, 0, 0, 0⟩)
abbrev s_is_integer : Stmt := topS 6
abbrev n_is_integer : List Str := ["value", "least", "greatest"]
abbrev p_is_integer : List Str := ["value", "least", "greatest"]
theorem sc_is_integer : FnScope n_is_integer p_is_integer (defScope s_is_integer) := ⟨rfl, rfl, rfl, by decide +kernel, rfl, by decide +kernel, by decide +kernel⟩
abbrev s_are_integers : Stmt := topS 7
abbrev n_are_integers : List Str := ["value", "least", "greatest", "part"]
abbrev p_are_integers : List Str := ["value", "least", "greatest"]
theorem sc_are_integers : FnScope n_are_integers p_are_integers (defScope s_are_integers) := ⟨rfl, rfl, rfl, by decide +kernel, rfl, by decide +kernel, by decide +kernel⟩
abbrev s_require : Stmt := topS 8
abbrev n_require : List Str := ["holds", "name"]
abbrev p_require : List Str := ["holds", "name"]
theorem sc_require : FnScope n_require p_require (defScope s_require) := ⟨rfl, rfl, rfl, by decide +kernel, rfl, by decide +kernel, by decide +kernel⟩
abbrev s_is_allocation : Stmt := topS 10
abbrev n_is_allocation : List Str := ["value", "variants", "buckets"]
abbrev p_is_allocation : List Str := ["value", "variants", "buckets"]
theorem sc_is_allocation : FnScope n_is_allocation p_is_allocation (defScope s_is_allocation) := ⟨rfl, rfl, rfl, by decide +kernel, rfl, by decide +kernel, by decide +kernel⟩
abbrev s_is_bounded_allocation : Stmt := topS 11
abbrev n_is_bounded_allocation : List Str := ["value"]
abbrev p_is_bounded_allocation : List Str := ["value"]
theorem sc_is_bounded_allocation : FnScope n_is_bounded_allocation p_is_bounded_allocation (defScope s_is_bounded_allocation) := ⟨rfl, rfl, rfl, by decide +kernel, rfl, by decide +kernel, by decide +kernel⟩
abbrev s_check_allocation : Stmt := topS 12
abbrev n_check_allocation : List Str := ["value", "name"]
abbrev p_check_allocation : List Str := ["value", "name"]
theorem sc_check_allocation : FnScope n_check_allocation p_check_allocation (defScope s_check_allocation) := ⟨rfl, rfl, rfl, by decide +kernel, rfl, by decide +kernel, by decide +kernel⟩
abbrev s_check_alike : Stmt := topS 13
abbrev n_check_alike : List Str := ["value", "first", "name"]
abbrev p_check_alike : List Str := ["value", "first", "name"]
theorem sc_check_alike : FnScope n_check_alike p_check_alike (defScope s_check_alike) := ⟨rfl, rfl, rfl, by decide +kernel, rfl, by decide +kernel, by decide +kernel⟩
abbrev s_transfer : Stmt := topS 14
abbrev n_transfer : List Str := ["first", "second", "old", "new"]
abbrev p_transfer : List Str := ["first", "second"]
theorem sc_transfer : FnScope n_transfer p_transfer (defScope s_transfer) := ⟨rfl, rfl, rfl, by decide +kernel, rfl, by decide +kernel, by decide +kernel⟩
abbrev s_medians : Stmt := topS 15
abbrev n_medians : List Str := ["first", "second", "third", "shares"]
abbrev p_medians : List Str := ["first", "second", "third"]
theorem sc_medians : FnScope n_medians p_medians (defScope s_medians) := ⟨rfl, rfl, rfl, by decide +kernel, rfl, by decide +kernel, by decide +kernel⟩
abbrev s_is_assignment : Stmt := topS 17
abbrev n_is_assignment : List Str := ["value", "variants", "buckets"]
abbrev p_is_assignment : List Str := ["value", "variants", "buckets"]
theorem sc_is_assignment : FnScope n_is_assignment p_is_assignment (defScope s_is_assignment) := ⟨rfl, rfl, rfl, by decide +kernel, rfl, by decide +kernel, by decide +kernel⟩
abbrev s_is_bounded_assignment : Stmt := topS 18
abbrev n_is_bounded_assignment : List Str := ["value", "variants"]
abbrev p_is_bounded_assignment : List Str := ["value", "variants"]
theorem sc_is_bounded_assignment : FnScope n_is_bounded_assignment p_is_bounded_assignment (defScope s_is_bounded_assignment) := ⟨rfl, rfl, rfl, by decide +kernel, rfl, by decide +kernel, by decide +kernel⟩
abbrev s_check_assignment : Stmt := topS 19
abbrev n_check_assignment : List Str := ["value", "name"]
abbrev p_check_assignment : List Str := ["value", "name"]
theorem sc_check_assignment : FnScope n_check_assignment p_check_assignment (defScope s_check_assignment) := ⟨rfl, rfl, rfl, by decide +kernel, rfl, by decide +kernel, by decide +kernel⟩
abbrev s_check_pair : Stmt := topS 20
abbrev n_check_pair : List Str := ["first", "second"]
abbrev p_check_pair : List Str := ["first", "second"]
theorem sc_check_pair : FnScope n_check_pair p_check_pair (defScope s_check_pair) := ⟨rfl, rfl, rfl, by decide +kernel, rfl, by decide +kernel, by decide +kernel⟩
abbrev s_check_enough : Stmt := topS 21
abbrev n_check_enough : List Str := ["variants", "assignment", "least"]
abbrev p_check_enough : List Str := ["variants", "assignment"]
theorem sc_check_enough : FnScope n_check_enough p_check_enough (defScope s_check_enough) := ⟨rfl, rfl, rfl, by decide +kernel, rfl, by decide +kernel, by decide +kernel⟩
abbrev s_allocation_of : Stmt := topS 22
abbrev n_allocation_of : List Str := ["assignment", "variants", "variant"]
abbrev p_allocation_of : List Str := ["assignment", "variants"]
theorem sc_allocation_of : FnScope n_allocation_of p_allocation_of (defScope s_allocation_of) := ⟨rfl, rfl, rfl, by decide +kernel, rfl, by decide +kernel, by decide +kernel⟩
abbrev s_is_assignment_of : Stmt := topS 23
abbrev n_is_assignment_of : List Str := ["value", "allocation", "variants"]
abbrev p_is_assignment_of : List Str := ["value", "allocation"]
theorem sc_is_assignment_of : FnScope n_is_assignment_of p_is_assignment_of (defScope s_is_assignment_of) := ⟨rfl, rfl, rfl, by decide +kernel, rfl, by decide +kernel, by decide +kernel⟩
abbrev s_are_assignments_of : Stmt := topS 24
abbrev n_are_assignments_of : List Str := ["value", "allocations", "part", "allocation"]
abbrev p_are_assignments_of : List Str := ["value", "allocations"]
theorem sc_are_assignments_of : FnScope n_are_assignments_of p_are_assignments_of (defScope s_are_assignments_of) := ⟨rfl, rfl, rfl, by decide +kernel, rfl, by decide +kernel, by decide +kernel⟩
abbrev s_churn : Stmt := topS 25
abbrev n_churn : List Str := ["first", "second"]
abbrev p_churn : List Str := ["first", "second"]
theorem sc_churn : FnScope n_churn p_churn (defScope s_churn) := ⟨rfl, rfl, rfl, by decide +kernel, rfl, by decide +kernel, by decide +kernel⟩
abbrev s_moves : Stmt := topS 26
abbrev n_moves : List Str := ["first", "second", "bucket", "old", "new"]
abbrev p_moves : List Str := ["first", "second"]
theorem sc_moves : FnScope n_moves p_moves (defScope s_moves) := ⟨rfl, rfl, rfl, by decide +kernel, rfl, by decide +kernel, by decide +kernel⟩
abbrev s_buckets_of : Stmt := topS 27
abbrev n_buckets_of : List Str := ["assignment", "variant", "bucket", "own"]
abbrev p_buckets_of : List Str := ["assignment", "variant"]
theorem sc_buckets_of : FnScope n_buckets_of p_buckets_of (defScope s_buckets_of) := ⟨rfl, rfl, rfl, by decide +kernel, rfl, by decide +kernel, by decide +kernel⟩
abbrev s_surplus : Stmt := topS 29
abbrev n_surplus : List Str := ["first", "second", "third"]
abbrev p_surplus : List Str := ["first", "second", "third"]
theorem sc_surplus : FnScope n_surplus p_surplus (defScope s_surplus) := ⟨rfl, rfl, rfl, by decide +kernel, rfl, by decide +kernel, by decide +kernel⟩
abbrev s_excess : Stmt := topS 30
abbrev n_excess : List Str := ["first", "second", "third"]
abbrev p_excess : List Str := ["first", "second", "third"]
theorem sc_excess : FnScope n_excess p_excess (defScope s_excess) := ⟨rfl, rfl, rfl, by decide +kernel, rfl, by decide +kernel, by decide +kernel⟩
abbrev s_laid_out : Stmt := topS 31
abbrev n_laid_out : List Str := ["allocation", "cores", "row", "over", "variant", "core", "share", "place"]
abbrev p_laid_out : List Str := ["allocation", "cores"]
theorem sc_laid_out : FnScope n_laid_out p_laid_out (defScope s_laid_out) := ⟨rfl, rfl, rfl, by decide +kernel, rfl, by decide +kernel, by decide +kernel⟩
abbrev s_table_of_three : Stmt := topS 32
abbrev n_table_of_three : List Str := ["first", "second", "third", "cores"]
abbrev p_table_of_three : List Str := ["first", "second", "third"]
theorem sc_table_of_three : FnScope n_table_of_three p_table_of_three (defScope s_table_of_three) := ⟨rfl, rfl, rfl, by decide +kernel, rfl, by decide +kernel, by decide +kernel⟩
abbrev s_all_different : Stmt := topS 33
abbrev n_all_different : List Str := ["first", "second", "third", "over"]
abbrev p_all_different : List Str := ["first", "second", "third"]
theorem sc_all_different : FnScope n_all_different p_all_different (defScope s_all_different) := ⟨rfl, rfl, rfl, by decide +kernel, rfl, by decide +kernel, by decide +kernel⟩
abbrev s_is_least : Stmt := topS 34
abbrev n_is_least : List Str := ["before", "after", "old", "new"]
abbrev p_is_least : List Str := ["before", "after", "old", "new"]
theorem sc_is_least : FnScope n_is_least p_is_least (defScope s_is_least) := ⟨rfl, rfl, rfl, by decide +kernel, rfl, by decide +kernel, by decide +kernel⟩
abbrev s_is_table_of_three : Stmt := topS 35
abbrev n_is_table_of_three : List Str := ["three", "value", "i", "j"]
abbrev p_is_table_of_three : List Str := ["three", "value"]
theorem sc_is_table_of_three : FnScope n_is_table_of_three p_is_table_of_three (defScope s_is_table_of_three) := ⟨rfl, rfl, rfl, by decide +kernel, rfl, by decide +kernel, by decide +kernel⟩
abbrev s_accepts_three : Stmt := topS 36
abbrev n_accepts_three : List Str := ["first", "second", "third", "answer", "middle", "word", "value"]
abbrev p_accepts_three : List Str := ["first", "second", "third", "answer"]
theorem sc_accepts_three : FnScope n_accepts_three p_accepts_three (defScope s_accepts_three) := ⟨rfl, rfl, rfl, by decide +kernel, rfl, by decide +kernel, by decide +kernel⟩
abbrev s_return_cost : Stmt := topS 37
abbrev n_return_cost : List Str := ["first", "second", "third", "over"]
abbrev p_return_cost : List Str := ["first", "second", "third"]
theorem sc_return_cost : FnScope n_return_cost p_return_cost (defScope s_return_cost) := ⟨rfl, rfl, rfl, by decide +kernel, rfl, by decide +kernel, by decide +kernel⟩
abbrev s_returning_cores : Stmt := topS 38
abbrev n_returning_cores : List Str := ["first", "second", "third", "over", "cores", "variant", "middle", "given_up"]
abbrev p_returning_cores : List Str := ["first", "second", "third"]
theorem sc_returning_cores : FnScope n_returning_cores p_returning_cores (defScope s_returning_cores) := ⟨rfl, rfl, rfl, by decide +kernel, rfl, by decide +kernel, by decide +kernel⟩
abbrev s_returned : Stmt := topS 39
abbrev n_returned : List Str := ["first", "second", "third", "assignment", "cores", "start", "middle", "end", "waiting", "variant", "places", "place"]
abbrev p_returned : List Str := ["first", "second", "third", "assignment"]
theorem sc_returned : FnScope n_returned p_returned (defScope s_returned) := ⟨rfl, rfl, rfl, by decide +kernel, rfl, by decide +kernel, by decide +kernel⟩
abbrev s_accepts_return : Stmt := topS 40
abbrev n_accepts_return : List Str := ["first", "second", "third", "chain", "cost", "start", "middle", "end"]
abbrev p_accepts_return : List Str := ["first", "second", "third", "chain"]
theorem sc_accepts_return : FnScope n_accepts_return p_accepts_return (defScope s_accepts_return) := ⟨rfl, rfl, rfl, by decide +kernel, rfl, by decide +kernel, by decide +kernel⟩
abbrev s_lies_between : Stmt := topS 41
abbrev n_lies_between : List Str := ["middle", "first", "second"]
abbrev p_lies_between : List Str := ["middle", "first", "second"]
theorem sc_lies_between : FnScope n_lies_between p_lies_between (defScope s_lies_between) := ⟨rfl, rfl, rfl, by decide +kernel, rfl, by decide +kernel, by decide +kernel⟩
abbrev s_bridge : Stmt := topS 42
abbrev n_bridge : List Str := ["first", "second", "third"]
abbrev p_bridge : List Str := ["first", "second", "third"]
theorem sc_bridge : FnScope n_bridge p_bridge (defScope s_bridge) := ⟨rfl, rfl, rfl, by decide +kernel, rfl, by decide +kernel, by decide +kernel⟩
abbrev s__law_stream : Stmt := topS 44
abbrev n__law_stream : List Str := ["script"]
abbrev p__law_stream : List Str := ["script"]
theorem sc__law_stream : FnScope n__law_stream p__law_stream (defScope s__law_stream) := ⟨rfl, rfl, rfl, by decide +kernel, rfl, by decide +kernel, by decide +kernel⟩
abbrev s__law_next : Stmt := topS 45
abbrev n__law_next : List Str := ["stream", "many", "k", "cell", "digit"]
abbrev p__law_next : List Str := ["stream", "many"]
theorem sc__law_next : FnScope n__law_next p__law_next (defScope s__law_next) := ⟨rfl, rfl, rfl, by decide +kernel, rfl, by decide +kernel, by decide +kernel⟩
abbrev s__law_is_integer : Stmt := topS 46
abbrev n__law_is_integer : List Str := ["actual"]
abbrev p__law_is_integer : List Str := ["actual"]
theorem sc__law_is_integer : FnScope n__law_is_integer p__law_is_integer (defScope s__law_is_integer) := ⟨rfl, rfl, rfl, by decide +kernel, rfl, by decide +kernel, by decide +kernel⟩
abbrev s__law_equal : Stmt := topS 47
abbrev n__law_equal : List Str := ["actual", "due", "at"]
abbrev p__law_equal : List Str := ["actual", "due"]
theorem sc__law_equal : FnScope n__law_equal p__law_equal (defScope s__law_equal) := ⟨rfl, rfl, rfl, by decide +kernel, rfl, by decide +kernel, by decide +kernel⟩
abbrev s__law_sizes : Stmt := topS 48
abbrev n__law_sizes : List Str := ["stream", "variants", "most"]
abbrev p__law_sizes : List Str := ["stream"]
theorem sc__law_sizes : FnScope n__law_sizes p__law_sizes (defScope s__law_sizes) := ⟨rfl, rfl, rfl, by decide +kernel, rfl, by decide +kernel, by decide +kernel⟩
abbrev s__law_count : Stmt := topS 49
abbrev n__law_count : List Str := ["assignment", "variants", "one", "variant"]
abbrev p__law_count : List Str := ["assignment", "variants"]
theorem sc__law_count : FnScope n__law_count p__law_count (defScope s__law_count) := ⟨rfl, rfl, rfl, by decide +kernel, rfl, by decide +kernel, by decide +kernel⟩
abbrev s__law_drawn : Stmt := topS 50
abbrev n__law_drawn : List Str := ["stream", "variants", "buckets", "k"]
abbrev p__law_drawn : List Str := ["stream", "variants", "buckets"]
theorem sc__law_drawn : FnScope n__law_drawn p__law_drawn (defScope s__law_drawn) := ⟨rfl, rfl, rfl, by decide +kernel, rfl, by decide +kernel, by decide +kernel⟩
abbrev s__law_allocation : Stmt := topS 51
abbrev n__law_allocation : List Str := ["stream", "variants", "buckets"]
abbrev p__law_allocation : List Str := ["stream", "variants", "buckets"]
theorem sc__law_allocation : FnScope n__law_allocation p__law_allocation (defScope s__law_allocation) := ⟨rfl, rfl, rfl, by decide +kernel, rfl, by decide +kernel, by decide +kernel⟩
abbrev s__law_three : Stmt := topS 52
abbrev n__law_three : List Str := ["stream", "variants", "buckets", "k"]
abbrev p__law_three : List Str := ["stream", "variants", "buckets"]
theorem sc__law_three : FnScope n__law_three p__law_three (defScope s__law_three) := ⟨rfl, rfl, rfl, by decide +kernel, rfl, by decide +kernel, by decide +kernel⟩
abbrev s__law_all : Stmt := topS 53
abbrev n__law_all : List Str := ["variants", "buckets", "found", "k", "longer", "row", "variant"]
abbrev p__law_all : List Str := ["variants", "buckets"]
theorem sc__law_all : FnScope n__law_all p__law_all (defScope s__law_all) := ⟨rfl, rfl, rfl, by decide +kernel, rfl, by decide +kernel, by decide +kernel⟩
abbrev s__law_of : Stmt := topS 54
abbrev n__law_of : List Str := ["allocation", "row"]
abbrev p__law_of : List Str := ["allocation"]
theorem sc__law_of : FnScope n__law_of p__law_of (defScope s__law_of) := ⟨rfl, rfl, rfl, by decide +kernel, rfl, by decide +kernel, by decide +kernel⟩
abbrev s__law_told : Stmt := topS 55
abbrev n__law_told : List Str := ["which", "one", "two", "three", "last", "e"]
abbrev p__law_told : List Str := ["which", "one", "two", "three", "last"]
theorem sc__law_told : FnScope n__law_told p__law_told (defScope s__law_told) := ⟨rfl, rfl, rfl, by decide +kernel, rfl, by decide +kernel, by decide +kernel⟩
abbrev s__law_wrong : Stmt := topS 56
abbrev n__law_wrong : List Str := ["stream", "row", "more", "rows"]
abbrev p__law_wrong : List Str := ["stream", "row"]
theorem sc__law_wrong : FnScope n__law_wrong p__law_wrong (defScope s__law_wrong) := ⟨rfl, rfl, rfl, by decide +kernel, rfl, by decide +kernel, by decide +kernel⟩
abbrev s_law : Stmt := topS 57
abbrev n_law : List Str := ["script", "stream", "variants", "buckets", "three", "first", "second", "third", "names", "which", "own", "wrong", "bad"]
abbrev p_law : List Str := ["script"]
theorem sc_law : FnScope n_law p_law (defScope s_law) := ⟨rfl, rfl, rfl, by decide +kernel, rfl, by decide +kernel, by decide +kernel⟩
abbrev s_ini_BadValue : Stmt := inClass (topS 2) 0
-- _law_told: stmt Try
structure Txt (mg : Str → Option Value) : Prop where
  b_abs : mg "abs" = none
  b_all : mg "all" = none
  b_bool : mg "bool" = none
  b_enumerate : mg "enumerate" = none
  b_int : mg "int" = none
  b_isinstance : mg "isinstance" = none
  b_len : mg "len" = none
  b_list : mg "list" = none
  b_max : mg "max" = none
  b_min : mg "min" = none
  b_range : mg "range" = none
  b_sorted : mg "sorted" = none
  b_str : mg "str" = none
  b_sum : mg "sum" = none
  b_tuple : mg "tuple" = none
  b_zip : mg "zip" = none
  k_MOST_VARIANTS : ∃ t, mg "MOST_VARIANTS" = some (.int 5 t)
  k_MOST_BUCKETS : ∃ t, mg "MOST_BUCKETS" = some (.int 20 t)
end W

namespace W
open PySem PySem.Spec PyProof.Rows L2 Lm
theorem ok_is_integer {P : Program} {w : World} {K : PySem.W.Frag} {mg : Str → Option Value} {base : Heap} {f : Addr} {fd : FuncData} (F : Fun K "is_integer" "is_integer" s_is_integer f fd) (T : Txt mg) :
    FnOk P w K mg base CX0 1 f fd p_is_integer (sp_is_integer K) := by
  refine F.ok sc_is_integer (fun vs H Q E h => spD_len h (by rintro ds k d ⟨x, lo, hi, rfl, _⟩; rfl)) (fun cdv A outer s H vs Q E hr h => ⟨_, (pss_cons (ps_if (PW.pt (pw_or (pt_not (pt_val (pe_callB (k_isi (K := K) rfl) rfl T.b_isinstance (by decide +kernel) (pa_cons (pv 0) (pa_cons (pe_ty (n := "int") rfl T.b_int (by decide +kernel)) pa_nil))))) (pw_or1 (pt_val (pe_callB (k_isi (K := K) rfl) rfl T.b_isinstance (by decide +kernel) (pa_cons (pv 0) (pa_cons (pe_ty (n := "bool") rfl T.b_bool (by decide +kernel)) pa_nil))))))) (pss_one (ps_ret pe_bl)) pss_nil)
      (pss_one (ps_ret (pe_chain op_le op_le (pv 1) (pv 0) (pv 2))))), run_pure (N := n_is_integer) (fun ds k d hp => ?_) h⟩)
  obtain ⟨x, lo, hi, rfl, rfl, rfl⟩ := hp
  refine q_if (t_or (t_not (t_B (e_isi (d_var rfl) (kit_int x)))) fun _ => t_B (e_isi (d_var rfl) (kit_bool x))) (fun h => ?_) fun h => q_next ?_
  · refine q_ret d_bl (.inr ⟨rfl, rfl⟩) (.inl ?_)
    cases x <;> first | rfl | (simp [isIntTy, isBoolTy] at h)
  · cases x with
    | int i => exact s_ret (d_chain (d_var rfl) (d_var rfl) fun _ => d_var rfl) (.inr ⟨rfl, rfl⟩) (.inl rfl)
    | _ => simp [isIntTy, isBoolTy] at h

theorem ok_are_integers {P : Program} {w : World} {K : PySem.W.Frag} {mg : Str → Option Value} {base : Heap} {f : Addr} {fd : FuncData} (F : Fun K "are_integers" "are_integers" s_are_integers f fd) (T : Txt mg) (c_is_integer : Cal P w K mg base CX0 1 "is_integer" p_is_integer (sp_is_integer K)) :
    FnOk P w K mg base CX0 2 f fd p_are_integers (sp_are_integers K) := by
  refine F.ok sc_are_integers (fun vs H Q E h => spD_len h (by rintro ds k d ⟨x, lo, hi, rfl, _⟩; rfl)) (fun cdv A outer s H vs Q E hr h => ⟨_, (pss_one (ps_ret (pe_and (pe_callB (k_isi (K := K) rfl) rfl T.b_isinstance (by decide +kernel) (pa_cons (pv 0) (pa_cons (pe_ty (n := "tuple") rfl T.b_tuple (by decide +kernel)) pa_nil))) (pe_one (pe_callB (k_all (K := K) rfl rfl) rfl T.b_all (by decide +kernel) (pa_cons (pe_lc rfl sc_are_integers.nd (k_seq (K := K) rfl (pv 0)) (blkOk_by (own := [("part", 3)]) (N := n_are_integers) (sc := defScope s_are_integers) (by decide +kernel)) (fun _ _ _ _ _ => by exact (pg_name (i := 3) sc_are_integers.nd rfl (Or.inl rfl))) (fun _ _ _ _ _ => by exact pts_nil) (fun _ _ _ _ _ => by exact (pe_cal c_is_integer (hr.mono (by decide)) rfl pass0 (pa_cons (pv 3) (pa_cons (pv 1) (pa_cons (pv 2) pa_nil)))))) pa_nil)))))), run_pure (N := n_are_integers) (fun ds k d hp => ?_) h⟩)
  obtain ⟨x, lo, hi, rfl, hx, rfl, rfl⟩ := hp
  refine s_ret ((d_andV (b := areInts x lo hi) (e_isi (d_var rfl) (kit_tuple x)) fun hx' => ?_).to ?_) (.inr ⟨rfl, rfl⟩) (.inl rfl)
  · cases x with
    | tuple es =>
      refine (d_all (d_lcB (fun d => isIntD d lo hi) (i_seqT (d_var rfl) (by intro h; cases h)) (hx es rfl) fun a _ => ⟨_, _, g_name, fun j hj => hj, _, d_call (a_cons (d_var rfl) (a_cons (d_var rfl) (a_cons (d_var rfl) a_nil))) ⟨a, lo, hi, rfl, rfl, rfl⟩⟩)).to ?_
      show PyData.bool _ = .bool (es.all fun d => isIntD d lo hi)
      rw [List.all_map]
      rfl
    | _ => simp [isTupTy] at hx'
  · cases x <;> simp [isTupTy, areInts]

theorem ok_require {P : Program} {w : World} {K : PySem.W.Frag} {mg : Str → Option Value} {base : Heap} {f : Addr} {fd : FuncData} (F : Fun K "require" "require" s_require f fd) (T : Txt mg) :
    FnOk P w K mg base CX0 1 f fd p_require (sp_require K) := by
  refine F.ok sc_require (fun vs H Q E h => spD_len h (by rintro ds k d ⟨nm, rfl, _⟩; rfl)) (fun cdv A outer s H vs Q E hr h => ⟨_, (pss_one (ps_if (pt_not (pt_val (pv 0))) (pss_one ps_never) pss_nil)), run_pure (N := n_require) (fun ds k d hp => ?_) h⟩)
  obtain ⟨nm, rfl, rfl, rfl⟩ := hp
  exact s_no ((t_not (t_B (d_var (d := .bool true) rfl))).to rfl) (s_next (.inr ⟨rfl, rfl, _, rfl⟩))

theorem ok_is_allocation {P : Program} {w : World} {K : PySem.W.Frag} {mg : Str → Option Value} {base : Heap} {f : Addr} {fd : FuncData} (F : Fun K "is_allocation" "is_allocation" s_is_allocation f fd) (T : Txt mg) (c_are_integers : Cal P w K mg base CX0 2 "are_integers" p_are_integers (sp_are_integers K)) :
    FnOk P w K mg base CX0 3 f fd p_is_allocation (sp_is_allocation K) := by
  refine F.ok sc_is_allocation (fun vs H Q E h => spD_len h (by rintro ds k d ⟨x, n, b, rfl, _⟩; rfl)) (fun cdv A outer s H vs Q E hr h => ⟨_, (pss_one (ps_ret (pe_and (pe_cal c_are_integers (hr.mono (by decide)) rfl pass0 (pa_cons (pv 0) (pa_cons pe_int (pa_cons (pv 2) pa_nil)))) (pe_and (pe_cmpR (k_eq (K := K) rfl (rUnits hr)) (pe_callB (k_len (K := K) rfl) rfl T.b_len (by decide +kernel) (pa_cons (pv 0) pa_nil)) (pv 1) (nomark _)) (pe_one (pe_cmpR (k_eq (K := K) rfl (rUnits hr)) (pe_callB (k_sum (K := K) rfl rfl) rfl T.b_sum (by decide +kernel) (pa_cons (pv 0) pa_nil)) (pv 2) (nomark _))))))), run_pure (N := n_is_allocation) (fun ds k d hp => ?_) h⟩)
  obtain ⟨x, n, b, rfl, hx, rfl, rfl⟩ := hp
  refine s_ret (d_andV (d_call (a_cons (d_var rfl) (a_cons d_int (a_cons (d_var rfl) a_nil))) ⟨x, 0, b, rfl, hx, rfl, rfl⟩) fun h => ?_) (.inr ⟨rfl, rfl⟩) (.inl rfl)
  obtain ⟨ns, rfl, _⟩ := areInts_ints h
  refine d_andV ((e_eqI (d_lenT (d_var rfl)) (d_var rfl)).to (by rw [lenT_ints, List.length_map])) fun _ => ?_
  exact (e_eqI (e_sumT (d_var rfl)) (d_var rfl)).to (by rw [sumT_ints])

theorem ok_is_bounded_allocation {P : Program} {w : World} {K : PySem.W.Frag} {mg : Str → Option Value} {base : Heap} {f : Addr} {fd : FuncData} (F : Fun K "is_bounded_allocation" "is_bounded_allocation" s_is_bounded_allocation f fd) (T : Txt mg) (c_are_integers : Cal P w K mg base CX0 2 "are_integers" p_are_integers (sp_are_integers K)) :
    FnOk P w K mg base CX0 3 f fd p_is_bounded_allocation (sp_is_bounded_allocationX K) := by
  refine F.ok sc_is_bounded_allocation (fun vs H Q E h => spD_len h (by rintro ds k d ⟨x, rfl, _⟩; rfl)) (fun cdv A outer s H vs Q E hr h => ⟨_, (pss_cons (ps_if (pt_not (pt_val (pe_cal c_are_integers (hr.mono (by decide)) rfl pass0 (pa_cons (pv 0) (pa_cons pe_int (pa_cons (pe_const rfl T.k_MOST_BUCKETS) pa_nil)))))) (pss_one (ps_ret pe_bl)) pss_nil)
      (pss_one (ps_ret (pe_and (pe_chain op_le op_le pe_int (pe_callB (k_len (K := K) rfl) rfl T.b_len (by decide +kernel) (pa_cons (pv 0) pa_nil)) (pe_const rfl T.k_MOST_VARIANTS)) (pe_one (pe_cmpR op_le (pe_callB (k_sum (K := K) rfl rfl) rfl T.b_sum (by decide +kernel) (pa_cons (pv 0) pa_nil)) (pe_const rfl T.k_MOST_BUCKETS) (nomark _))))))), run_pure (N := n_is_bounded_allocation) (fun ds k d hp => ?_) h⟩)
  obtain ⟨x, rfl, hx, rfl, rfl⟩ := hp
  refine q_if (a := !areInts x 0 20) (t_not (t_B (d_call (k := .v) (a_cons (d_var rfl) (a_cons d_int (a_cons d_int a_nil))) ⟨x, 0, 20, rfl, hx, rfl, rfl⟩))) (fun w => ?_) fun w => q_next ?_
  · rw [Bool.not_eq_true'] at w
    exact q_ret (d_bl.to (by unfold balB; rw [w]; rfl)) (.inr ⟨rfl, rfl⟩) (.inl rfl)
  · rw [Bool.not_eq_false'] at w
    obtain ⟨ns, rfl, _⟩ := areInts_ints w
    refine s_ret ((d_andV (d_chain d_int (d_lenT (d_var rfl)) fun _ => d_int) fun _ => d_le (e_sumT (d_var rfl)) d_int).to ?_) (.inr ⟨rfl, rfl⟩) (.inl rfl)
    unfold balB
    rw [w, lenT_ints, sumT_ints, List.length_map, Bool.true_and]
    congr 2
    congr 1
    · rw [decide_eq_decide]; omega
    · rw [decide_eq_decide]; omega

theorem ok_check_allocation {P : Program} {w : World} {K : PySem.W.Frag} {mg : Str → Option Value} {base : Heap} {f : Addr} {fd : FuncData} (F : Fun K "check_allocation" "check_allocation" s_check_allocation f fd) (T : Txt mg) (c_require : Cal P w K mg base CX0 1 "require" p_require (sp_require K)) (c_is_bounded_allocation : Cal P w K mg base CX0 3 "is_bounded_allocation" p_is_bounded_allocation (sp_is_bounded_allocationX K)) :
    FnOk P w K mg base CX0 4 f fd p_check_allocation (sp_check_allocation K) := by
  refine F.ok sc_check_allocation (fun vs H Q E h => spD_len h (by rintro ds k d ⟨ns, v, b, nm, rfl, _⟩; rfl)) (fun cdv A outer s H vs Q E hr h => ⟨_, (pss_one (ps_expr (pe_cal c_require (hr.mono (by decide)) rfl pass0 (pa_cons (pe_cal c_is_bounded_allocation (hr.mono (by decide)) rfl pass0 (pa_cons (pv 0) pa_nil)) (pa_cons (pv 1) pa_nil))))), run_pure (N := n_check_allocation) (fun ds k d hp => ?_) h⟩)
  obtain ⟨ns, v, b, nm, rfl, ha, h1, h5, hb, rfl, rfl⟩ := hp
  have hl := ha.len
  exact s_drop (d_call (k := .v) (d := .none) (a_cons ((d_call (k := .v) (d := .bool true) (a_cons (d_var rfl) a_nil) ⟨tupD ns, rfl, (smf_tup (by omega)).t, rfl, by rw [ha.bal h1 h5 hb]⟩)) (a_cons (d_var rfl) a_nil)) ⟨nm, rfl, rfl, rfl⟩) (.inr ⟨rfl, rfl, _, rfl⟩)

theorem ok_check_alike {P : Program} {w : World} {K : PySem.W.Frag} {mg : Str → Option Value} {base : Heap} {f : Addr} {fd : FuncData} (F : Fun K "check_alike" "check_alike" s_check_alike f fd) (T : Txt mg) (c_require : Cal P w K mg base CX0 1 "require" p_require (sp_require K)) (c_is_allocation : Cal P w K mg base CX0 3 "is_allocation" p_is_allocation (sp_is_allocation K)) :
    FnOk P w K mg base CX0 4 f fd p_check_alike (sp_check_alike K) := by
  refine F.ok sc_check_alike (fun vs H Q E h => spD_len h (by rintro ds k d ⟨ms, ns, v, b, nm, rfl, _⟩; rfl)) (fun cdv A outer s H vs Q E hr h => ⟨_, (pss_one (ps_expr (pe_cal c_require (hr.mono (by decide)) rfl pass0 (pa_cons (pe_cal c_is_allocation (hr.mono (by decide)) rfl pass0 (pa_cons (pv 0) (pa_cons (pe_callB (k_len (K := K) rfl) rfl T.b_len (by decide +kernel) (pa_cons (pv 1) pa_nil)) (pa_cons (pe_callB (k_sum (K := K) rfl rfl) rfl T.b_sum (by decide +kernel) (pa_cons (pv 1) pa_nil)) pa_nil)))) (pa_cons (pv 2) pa_nil))))), run_pure (N := n_check_alike) (fun ds k d hp => ?_) h⟩)
  obtain ⟨ms, ns, v, b, nm, rfl, hm, hn, h5, rfl, rfl⟩ := hp
  have hl := hm.len
  refine s_drop (d_call (a_cons (d_call (a_cons (d_var rfl) (a_cons (d_lenT (d_var rfl)) (a_cons (e_sumT (d_var rfl)) a_nil))) ⟨.tuple (ms.map .int), _, _, rfl, small_ints (by omega), rfl, rfl⟩) (a_cons (d_var rfl) a_nil)) ⟨nm, ?_, rfl, rfl⟩) (.inr ⟨rfl, rfl, _, rfl⟩)
  rw [List.length_map, hn.len, hn.sum, hm.isAlloc]

theorem ok_transfer {P : Program} {w : World} {K : PySem.W.Frag} {mg : Str → Option Value} {base : Heap} {f : Addr} {fd : FuncData} (F : Fun K "transfer" "transfer" s_transfer f fd) (T : Txt mg) (c_check_allocation : Cal P w K mg base CX0 4 "check_allocation" p_check_allocation (sp_check_allocation K)) (c_check_alike : Cal P w K mg base CX0 4 "check_alike" p_check_alike (sp_check_alike K)) :
    FnOk P w K mg base CX0 5 f fd p_transfer (sp_transfer K) := by
  refine F.ok sc_transfer (fun vs H Q E h => spD_len h (by rintro ds k d ⟨ns, ms, v, b, rfl, _⟩; rfl)) (fun cdv A outer s H vs Q E hr h => ⟨_, (pss_cons (ps_expr (pe_cal c_check_allocation (hr.mono (by decide)) rfl pass0 (pa_cons (pv 0) (pa_cons pe_str pa_nil))))
      (pss_cons (ps_expr (pe_cal c_check_alike (hr.mono (by decide)) rfl pass0 (pa_cons (pv 1) (pa_cons (pv 0) (pa_cons pe_str pa_nil)))))
      (pss_one (ps_ret (pe_callB (k_sum (K := K) rfl rfl) rfl T.b_sum (by decide +kernel) (pa_cons (pe_lc rfl sc_transfer.nd (k_zip (K := K) rfl rfl T.b_zip (pa_cons (pv 0) (pa_cons (pv 1) pa_nil))) (blkOk_by (own := [("old", 2), ("new", 3)]) (N := n_transfer) (sc := defScope s_transfer) (by decide +kernel)) (fun _ _ _ _ _ => by exact (k_tup (K := K) (n := 2) rfl rfl (pgs_cons (pg_name (i := 2) sc_transfer.nd rfl (Or.inl rfl)) (pgs_cons (pg_name (i := 3) sc_transfer.nd rfl (Or.inl rfl)) pgs_nil)))) (fun _ _ _ _ _ => by exact pts_nil) (fun _ _ _ _ _ => by exact (pe_callB (call_max2 rfl) rfl T.b_max (by decide +kernel) (pa_cons (pe_op op_sub (pv 2) (pv 3)) (pa_cons pe_int pa_nil))))) pa_nil)))))), run_pure (N := n_transfer) (fun ds k d hp => ?_) h⟩)
  obtain ⟨ns, ms, v, b, rfl, hn, hm, h1, h5, hb, rfl, rfl⟩ := hp
  have hl := hn.len
  refine q_drop (d_call (a_cons (d_var rfl) (a_cons d_str a_nil)) ⟨ns, v, b, "first", rfl, hn, h1, h5, hb, rfl, rfl⟩) ?_
  refine q_drop (d_call (a_cons (d_var rfl) (a_cons (d_var rfl) (a_cons d_str a_nil))) ⟨ms, ns, v, b, "second", rfl, hm, hn, by omega, rfl, rfl⟩) ?_
  exact s_ret (e_sumL (d_lcI (l := ns.zip ms) (en := zipI) (fun p => if 0 > p.1 - p.2 then 0 else p.1 - p.2) (i_zipTI (a_consV (d_var rfl) (a_consV (d_var rfl) a_nil))) (by simp; omega) fun p _ => ⟨_, _, g_tup rfl (g_cons g_name (g_cons g_name g_nil)), fun j hj => hj, .v, e_max2 (d_sub (d_var rfl) (d_var rfl)) d_int⟩)) (.inr ⟨rfl, rfl⟩) (.inl rfl)

theorem ok_medians {P : Program} {w : World} {K : PySem.W.Frag} {mg : Str → Option Value} {base : Heap} {f : Addr} {fd : FuncData} (F : Fun K "medians" "medians" s_medians f fd) (T : Txt mg) (c_check_allocation : Cal P w K mg base CX0 4 "check_allocation" p_check_allocation (sp_check_allocation K)) (c_check_alike : Cal P w K mg base CX0 4 "check_alike" p_check_alike (sp_check_alike K)) :
    FnOk P w K mg base CX0 5 f fd p_medians (sp_medians K) := by
  refine F.ok sc_medians (fun vs H Q E h => spD_len h (by rintro ds k d ⟨as, bs, cs, v, b, rfl, _⟩; rfl)) (fun cdv A outer s H vs Q E hr h => ⟨_, (pss_cons (ps_expr (pe_cal c_check_allocation (hr.mono (by decide)) rfl pass0 (pa_cons (pv 0) (pa_cons pe_str pa_nil))))
      (pss_cons (ps_expr (pe_cal c_check_alike (hr.mono (by decide)) rfl pass0 (pa_cons (pv 1) (pa_cons (pv 0) (pa_cons pe_str pa_nil)))))
      (pss_cons (ps_expr (pe_cal c_check_alike (hr.mono (by decide)) rfl pass0 (pa_cons (pv 2) (pa_cons (pv 0) (pa_cons pe_str pa_nil)))))
      (pss_one (ps_ret (pe_callTy (k_tuple (K := K) rfl) rfl T.b_tuple (by decide +kernel) (pa_cons (pe_lc rfl sc_medians.nd (k_zip3 (K := K) rfl rfl T.b_zip (pa_cons (pv 0) (pa_cons (pv 1) (pa_cons (pv 2) pa_nil)))) (blkOk_by (own := [("shares", 3)]) (N := n_medians) (sc := defScope s_medians) (by decide +kernel)) (fun _ _ _ _ _ => by exact (pg_name (i := 3) sc_medians.nd rfl (Or.inl rfl))) (fun _ _ _ _ _ => by exact pts_nil) (fun _ _ _ _ _ => by exact (pe_ix (k_ix (K := K) rfl) (pe_callB (k_sorted (K := K) rfl) rfl T.b_sorted (by decide +kernel) (pa_cons (pv 3) pa_nil)) pe_int (fun _ _ => rfl)))) pa_nil))))))), run_pure (N := n_medians) (fun ds k d hp => ?_) h⟩)
  obtain ⟨as, bs, cs, v, b, rfl, ha, hb, hc, h1, h5, h20, rfl, rfl⟩ := hp
  have la := ha.len
  have lb := hb.len
  have lc := hc.len
  refine q_drop (d_call (a_cons (d_var rfl) (a_cons d_str a_nil)) ⟨as, v, b, "first", rfl, ha, h1, h5, h20, rfl, rfl⟩) ?_
  refine q_drop (d_call (a_cons (d_var rfl) (a_cons (d_var rfl) (a_cons d_str a_nil))) ⟨bs, as, v, b, "second", rfl, hb, ha, by omega, rfl, rfl⟩) ?_
  refine q_drop (d_call (a_cons (d_var rfl) (a_cons (d_var rfl) (a_cons d_str a_nil))) ⟨cs, as, v, b, "third", rfl, hc, ha, by omega, rfl, rfl⟩) ?_
  refine s_ret (d_tuple (ds := (medI as bs cs).map .int) ((d_lcI (l := List.range as.length) (en := fun i => .d (.tuple ((row3 as bs cs i).map .int))) (fun i => mid3 (as.getD i 0) (bs.getD i 0) (cs.getD i 0)) (i_zip3 (by omega) (by omega) (a_consV (d_var rfl) (a_consV (d_var rfl) (a_consV (d_var rfl) a_nil)))) (by simp; omega) fun i _ => ⟨_, _, g_name, fun j hj => hj, .v, EvN.det (n_ixL (Q := fun i => i = 1) (n_sortedT (ns := row3 as bs cs i) (d_var rfl) (by simp [row3])) (d_int.sm rfl) fun x i' hx hi => ?_)⟩)) (flatAll_ints _)) (.inr ⟨rfl, flatT _⟩) (.inl rfl)
  obtain ⟨ns, rfl, hp, hs⟩ := hx
  subst hi
  obtain ⟨x, z, rfl⟩ := mid_sorted hp hs
  exact ⟨_, _, rfl, rfl, rfl, rfl⟩

theorem ok_is_assignment {P : Program} {w : World} {K : PySem.W.Frag} {mg : Str → Option Value} {base : Heap} {f : Addr} {fd : FuncData} (F : Fun K "is_assignment" "is_assignment" s_is_assignment f fd) (T : Txt mg) (c_are_integers : Cal P w K mg base CX0 2 "are_integers" p_are_integers (sp_are_integers K)) :
    FnOk P w K mg base CX0 3 f fd p_is_assignment (sp_is_assignment K) := by
  refine F.ok sc_is_assignment (fun vs H Q E h => spD_len h (by rintro ds k d ⟨x, v, b, rfl, _⟩; rfl)) (fun cdv A outer s H vs Q E hr h => ⟨_, (pss_one (ps_ret (pe_and (pe_cal c_are_integers (hr.mono (by decide)) rfl pass0 (pa_cons (pv 0) (pa_cons pe_int (pa_cons (pe_op op_sub (pv 1) pe_int) pa_nil)))) (pe_one (pe_cmpR (k_eq (K := K) rfl (rUnits hr)) (pe_callB (k_len (K := K) rfl) rfl T.b_len (by decide +kernel) (pa_cons (pv 0) pa_nil)) (pv 2) (nomark _)))))), run_pure (N := n_is_assignment) (fun ds k d hp => ?_) h⟩)
  obtain ⟨x, v, b, rfl, hx, rfl, rfl⟩ := hp
  refine s_ret (d_andV (d_call (a_cons (d_var rfl) (a_cons d_int (a_cons (d_sub (d_var rfl) d_int) a_nil))) ⟨x, 0, v - 1, rfl, hx, rfl, rfl⟩) fun h => ?_) (.inr ⟨rfl, rfl⟩) (.inl rfl)
  obtain ⟨ns, rfl, _⟩ := areInts_ints h
  exact (e_eqI (d_lenT (d_var rfl)) (d_var rfl)).to (by rw [lenT_ints, List.length_map])

theorem ok_is_bounded_assignment {P : Program} {w : World} {K : PySem.W.Frag} {mg : Str → Option Value} {base : Heap} {f : Addr} {fd : FuncData} (F : Fun K "is_bounded_assignment" "is_bounded_assignment" s_is_bounded_assignment f fd) (T : Txt mg) (c_are_integers : Cal P w K mg base CX0 2 "are_integers" p_are_integers (sp_are_integers K)) :
    FnOk P w K mg base CX0 3 f fd p_is_bounded_assignment (sp_is_bounded_assignment K) := by
  refine F.ok sc_is_bounded_assignment (fun vs H Q E h => spD_len h (by rintro ds k d ⟨x, v, rfl, _⟩; rfl)) (fun cdv A outer s H vs Q E hr h => ⟨_, (pss_one (ps_ret (pe_and (pe_cal c_are_integers (hr.mono (by decide)) rfl pass0 (pa_cons (pv 0) (pa_cons pe_int (pa_cons (pe_op op_sub (pv 1) pe_int) pa_nil)))) (pe_one (pe_cmpR op_le (pe_callB (k_len (K := K) rfl) rfl T.b_len (by decide +kernel) (pa_cons (pv 0) pa_nil)) (pe_const rfl T.k_MOST_BUCKETS) (nomark _)))))), run_pure (N := n_is_bounded_assignment) (fun ds k d hp => ?_) h⟩)
  obtain ⟨x, v, rfl, hx, rfl, rfl⟩ := hp
  refine s_ret (d_andV (d_call (a_cons (d_var rfl) (a_cons d_int (a_cons (d_sub (d_var rfl) d_int) a_nil))) ⟨x, 0, v - 1, rfl, hx, rfl, rfl⟩) fun h => ?_) (.inr ⟨rfl, rfl⟩) (.inl rfl)
  obtain ⟨ns, rfl, _⟩ := areInts_ints h
  exact (d_le (d_lenT (d_var rfl)) d_int).to (by rw [lenT_ints, List.length_map])

theorem ok_check_assignment {P : Program} {w : World} {K : PySem.W.Frag} {mg : Str → Option Value} {base : Heap} {f : Addr} {fd : FuncData} (F : Fun K "check_assignment" "check_assignment" s_check_assignment f fd) (T : Txt mg) (c_require : Cal P w K mg base CX0 1 "require" p_require (sp_require K)) (c_is_bounded_assignment : Cal P w K mg base CX0 3 "is_bounded_assignment" p_is_bounded_assignment (sp_is_bounded_assignment K)) :
    FnOk P w K mg base CX0 4 f fd p_check_assignment (sp_check_assignment K) := by
  refine F.ok sc_check_assignment (fun vs H Q E h => spD_len h (by rintro ds k d ⟨x, nm, rfl, _⟩; rfl)) (fun cdv A outer s H vs Q E hr h => ⟨_, (pss_one (ps_expr (pe_cal c_require (hr.mono (by decide)) rfl pass0 (pa_cons (pe_cal c_is_bounded_assignment (hr.mono (by decide)) rfl pass0 (pa_cons (pv 0) (pa_cons (pe_const rfl T.k_MOST_VARIANTS) pa_nil))) (pa_cons (pv 1) pa_nil))))), run_pure (N := n_check_assignment) (fun ds k d hp => ?_) h⟩)
  obtain ⟨x, nm, rfl, hx, hb, rfl, rfl⟩ := hp
  refine s_drop (d_call (a_cons (d_call (a_cons (d_var rfl) (a_cons d_int a_nil)) ⟨x, 5, rfl, hx, rfl, rfl⟩) (a_cons (d_var rfl) a_nil)) ⟨nm, by rw [hb], rfl, rfl⟩) (.inr ⟨rfl, rfl, _, rfl⟩)

theorem ok_check_pair {P : Program} {w : World} {K : PySem.W.Frag} {mg : Str → Option Value} {base : Heap} {f : Addr} {fd : FuncData} (F : Fun K "check_pair" "check_pair" s_check_pair f fd) (T : Txt mg) (c_check_assignment : Cal P w K mg base CX0 4 "check_assignment" p_check_assignment (sp_check_assignment K)) (c_require : Cal P w K mg base CX0 1 "require" p_require (sp_require K)) (c_is_assignment : Cal P w K mg base CX0 3 "is_assignment" p_is_assignment (sp_is_assignment K)) :
    FnOk P w K mg base CX0 5 f fd p_check_pair (sp_check_pair K) := by
  refine F.ok sc_check_pair (fun vs H Q E h => spD_len h (by rintro ds k d ⟨ns, ms, rfl, _⟩; rfl)) (fun cdv A outer s H vs Q E hr h => ⟨_, (pss_cons (ps_expr (pe_cal c_check_assignment (hr.mono (by decide)) rfl pass0 (pa_cons (pv 0) (pa_cons pe_str pa_nil))))
      (pss_one (ps_expr (pe_cal c_require (hr.mono (by decide)) rfl pass0 (pa_cons (pe_cal c_is_assignment (hr.mono (by decide)) rfl pass0 (pa_cons (pv 1) (pa_cons (pe_const rfl T.k_MOST_VARIANTS) (pa_cons (pe_callB (k_len (K := K) rfl) rfl T.b_len (by decide +kernel) (pa_cons (pv 0) pa_nil)) pa_nil)))) (pa_cons pe_str pa_nil)))))), run_pure (N := n_check_pair) (fun ds k d hp => ?_) h⟩)
  obtain ⟨ns, ms, rfl, hn, hm, hl, rfl, rfl⟩ := hp
  refine q_drop (d_call (a_cons (d_var rfl) (a_cons d_str a_nil)) ⟨_, _, rfl, hn.small, hn.bAsg (Int.le_refl _), rfl, rfl⟩) ?_
  refine s_drop (d_call (a_cons (d_call (a_cons (d_var rfl) (a_cons d_int (a_cons (d_lenT (d_var rfl)) a_nil))) ⟨.tuple (ms.map .int), 5, _, rfl, hm.small, rfl, rfl⟩) (a_cons d_str a_nil)) ⟨"second", ?_, rfl, rfl⟩) (.inr ⟨rfl, rfl, _, rfl⟩)
  rw [hm.isAsg (by rw [List.length_map, hl])]

theorem ok_check_enough {P : Program} {w : World} {K : PySem.W.Frag} {mg : Str → Option Value} {base : Heap} {f : Addr} {fd : FuncData} (F : Fun K "check_enough" "check_enough" s_check_enough f fd) (T : Txt mg) (c_require : Cal P w K mg base CX0 1 "require" p_require (sp_require K)) (c_is_integer : Cal P w K mg base CX0 1 "is_integer" p_is_integer (sp_is_integer K)) :
    FnOk P w K mg base CX0 2 f fd p_check_enough (sp_check_enough K) := by
  refine F.ok sc_check_enough (fun vs H Q E h => spD_len h (by rintro ds k d ⟨v, ns, rfl, _⟩; rfl)) (fun cdv A outer s H vs Q E hr h => ⟨_, (pss_cons (ps_set (i := 2) sc_check_enough.nd rfl (Or.inl rfl) (pe_op (k_add (K := K) rfl) (pe_callBK (k_maxD (K := K) rfl rfl) rfl T.b_max (by decide +kernel) (pa_cons (pv 1) pa_nil) (pk_cons pe_int pk_nil)) pe_int))
      (pss_one (ps_expr (pe_cal c_require (hr.mono (by decide)) rfl pass0 (pa_cons (pe_cal c_is_integer (hr.mono (by decide)) rfl pass0 (pa_cons (pv 0) (pa_cons (pv 2) (pa_cons (pe_const rfl T.k_MOST_VARIANTS) pa_nil)))) (pa_cons pe_str pa_nil)))))), run_pure (N := n_check_enough) (fun ds k d hp => ?_) h⟩)
  obtain ⟨v, ns, rfl, h1, h2, rfl, rfl⟩ := hp
  refine q_asg (e_add (e_maxD (d_var rfl) d_int) d_int) ?_
  refine s_drop (d_call (a_cons (d_call (a_cons (d_var rfl) (a_cons (d_var rfl) (a_cons d_int a_nil))) ⟨.int v, mxD 0 ns + 1, 5, rfl, rfl, rfl⟩) (a_cons d_str a_nil)) ⟨"variants", ?_, rfl, rfl⟩) (.inr ⟨rfl, rfl, _, rfl⟩)
  simp [isIntD, h1, h2]

theorem ok_allocation_of {P : Program} {w : World} {K : PySem.W.Frag} {mg : Str → Option Value} {base : Heap} {f : Addr} {fd : FuncData} (F : Fun K "allocation_of" "allocation_of" s_allocation_of f fd) (T : Txt mg) (c_check_assignment : Cal P w K mg base CX0 4 "check_assignment" p_check_assignment (sp_check_assignment K)) (c_check_enough : Cal P w K mg base CX0 2 "check_enough" p_check_enough (sp_check_enough K)) :
    FnOk P w K mg base CX0 5 f fd p_allocation_of (sp_allocation_of K) := by
  refine F.ok sc_allocation_of (fun vs H Q E h => spD_len h (by rintro ds k d ⟨ns, v, rfl, _⟩; rfl)) (fun cdv A outer s H vs Q E hr h => ⟨_, (pss_cons (ps_expr (pe_cal c_check_assignment (hr.mono (by decide)) rfl pass0 (pa_cons (pv 0) (pa_cons pe_str pa_nil))))
      (pss_cons (ps_expr (pe_cal c_check_enough (hr.mono (by decide)) rfl pass0 (pa_cons (pv 1) (pa_cons (pv 0) pa_nil))))
      (pss_one (ps_ret (pe_callTy (k_tuple (K := K) rfl) rfl T.b_tuple (by decide +kernel) (pa_cons (pe_lc rfl sc_allocation_of.nd (pi_range1 rfl T.b_range (pa_cons (pv 1) pa_nil)) (blkOk_by (own := [("variant", 2)]) (N := n_allocation_of) (sc := defScope s_allocation_of) (by decide +kernel)) (fun _ _ _ _ _ => by exact (pg_name (i := 2) sc_allocation_of.nd rfl (Or.inl rfl))) (fun _ _ _ _ _ => by exact pts_nil) (fun _ _ _ _ _ => by exact (k_tm (K := K) rfl PySem.F.slot_tuple_count PySem.F.type_tuple_count (k_count (K := K) rfl) (pv 0) (pa_cons (pv 2) pa_nil)))) pa_nil)))))), run_pure (N := n_allocation_of) (fun ds k d hp => ?_) h⟩)
  obtain ⟨ns, v, rfl, ha, h1, h5, rfl, rfl⟩ := hp
  refine q_drop (d_call (a_cons (d_var rfl) (a_cons d_str a_nil)) ⟨_, _, rfl, ha.small, ha.bAsg h5, rfl, rfl⟩) ?_
  refine q_drop (d_call (a_cons (d_var rfl) (a_cons (d_var rfl) a_nil)) ⟨v, ns, rfl, ?_, h5, rfl, rfl⟩) ?_
  · have := mxD_le (ns := ns) (b := v - 1) (by omega) fun n hn => by have := (ha.rng n hn).2; omega
    omega
  refine s_ret (d_tuple ((d_lcI (fun i => (ns.count i : Int)) (i_rng1 (a_cons (d_var rfl) a_nil) (by omega) (by omega)) (by simp [upI]; omega) fun i _ => ⟨_, _, g_name, fun j hj => hj, _, d_count (d_var rfl) (d_var rfl)⟩)) (flatAll_ints _)) (.inr ⟨rfl, ?_⟩) (.inl rfl)
  exact flatT _

theorem ok_is_assignment_of {P : Program} {w : World} {K : PySem.W.Frag} {mg : Str → Option Value} {base : Heap} {f : Addr} {fd : FuncData} (F : Fun K "is_assignment_of" "is_assignment_of" s_is_assignment_of f fd) (T : Txt mg) (c_is_assignment : Cal P w K mg base CX0 3 "is_assignment" p_is_assignment (sp_is_assignment K)) (c_allocation_of : Cal P w K mg base CX0 5 "allocation_of" p_allocation_of (sp_allocation_of K)) :
    FnOk P w K mg base CX0 6 f fd p_is_assignment_of (sp_is_assignment_ofB K) := by
  refine F.ok sc_is_assignment_of (fun vs H Q E h => spD_len h (by rintro ds k d ⟨x, as, v, b, rfl, _⟩; rfl)) (fun cdv A outer s H vs Q E hr h => ⟨_, (pss_cons (ps_set (i := 2) sc_is_assignment_of.nd rfl (Or.inl rfl) (pe_callB (k_len (K := K) rfl) rfl T.b_len (by decide +kernel) (pa_cons (pv 1) pa_nil)))
      (pss_one (ps_ret (pe_and (pe_cal c_is_assignment (hr.mono (by decide)) rfl pass0 (pa_cons (pv 0) (pa_cons (pv 2) (pa_cons (pe_callB (k_sum (K := K) rfl rfl) rfl T.b_sum (by decide +kernel) (pa_cons (pv 1) pa_nil)) pa_nil)))) (pe_one (pe_cmpR (k_eq (K := K) rfl (rUnits hr)) (pe_cal c_allocation_of (hr.mono (by decide)) rfl pass0 (pa_cons (pv 0) (pa_cons (pv 2) pa_nil))) (pv 1) (nomark _))))))), run_pure (N := n_is_assignment_of) (fun ds k d hp => ?_) h⟩)
  obtain ⟨x, as, v, b, rfl, hs, ha, v1, v5, b20, rfl, rfl⟩ := hp
  have al := ha.len
  refine q_asg (d := .int v) ((d_lenT (d_var rfl)).to (by rw [List.length_map, al])) ?_
  have e1 : Ev (pc K) (tCall (sp_is_assignment K) [] E0 (tCons (tVar 0) (tCons (tVar 2) (tCons (tCB (rSumA K) (tCons (tVar 1) tNil)) tNil)))) ([some (.v x), some (.v (tupD as)), some (.v (.int v))]) .v (.bool (isAsgB x v as.sum)) := d_call (k := .v) (a_cons (d_var rfl) (a_cons (d_var rfl) (a_cons (e_sumT (d_var rfl)) a_nil))) ⟨x, v, as.sum, rfl, hs, rfl, rfl⟩
  unfold asoB
  rw [al]
  cases q : isAsgB x v as.sum with
  | false =>
    rw [q] at e1
    exact s_ret (d_andV (b := decide (countsI (intsD x) v = as)) e1 fun w => by cases w) (.inr ⟨rfl, rfl⟩) (.inl rfl)
  | true =>
    rw [q] at e1
    have q' := q
    unfold isAsgB at q'
    rw [Bool.and_eq_true, decide_eq_true_eq] at q'
    obtain ⟨r, rfl, hr⟩ := areInts_ints q'.1
    have hr' : Asg r v := by
      refine ⟨?_, fun n hn => by have := hr n hn; omega⟩
      have := q'.2
      rw [lenT_ints, ha.sum] at this
      omega
    exact s_ret ((d_andV (b := decide (countsI r v = as)) e1 fun _ => e_eqTT (d_call (k := .v) (a_cons (d_var rfl) (a_cons (d_var rfl) a_nil)) ⟨r, v, rfl, hr', v1, v5, rfl, rfl⟩) (d_var rfl)).to (by rw [show intsD (.tuple (r.map .int)) = r from intsD_tup r])) (.inr ⟨rfl, rfl⟩) (.inl rfl)

theorem ok_are_assignments_of {P : Program} {w : World} {K : PySem.W.Frag} {mg : Str → Option Value} {base : Heap} {f : Addr} {fd : FuncData} (F : Fun K "are_assignments_of" "are_assignments_of" s_are_assignments_of f fd) (T : Txt mg) (c_is_assignment_of : Cal P w K mg base CX0 6 "is_assignment_of" p_is_assignment_of (sp_is_assignment_ofB K)) :
    FnOk P w K mg base CX0 7 f fd p_are_assignments_of (sp_are_assignments_ofB K) := by
  refine F.ok sc_are_assignments_of (fun vs H Q E h => spD_len h (by rintro ds k d ⟨x, A, v, b, rfl, _⟩; rfl)) (fun cdv A outer s H vs Q E hr h => ⟨_, (pss_cons (ps_if (PW.pt (pw_or (pt_not (pt_val (pe_callB (k_isi (K := K) rfl) rfl T.b_isinstance (by decide +kernel) (pa_cons (pv 0) (pa_cons (pe_ty (n := "tuple") rfl T.b_tuple (by decide +kernel)) pa_nil))))) (pw_or1 (pt_cmpR (k_ne (K := K) rfl (rUnits hr)) (pe_callB (k_len (K := K) rfl) rfl T.b_len (by decide +kernel) (pa_cons (pv 0) pa_nil)) (pe_callB (k_len (K := K) rfl) rfl T.b_len (by decide +kernel) (pa_cons (pv 1) pa_nil)) (nomark _))))) (pss_one (ps_ret pe_bl)) pss_nil)
      (pss_one (ps_ret (pe_callB (k_all (K := K) rfl rfl) rfl T.b_all (by decide +kernel) (pa_cons (pe_lc rfl sc_are_assignments_of.nd (k_zip (K := K) rfl rfl T.b_zip (pa_cons (pv 0) (pa_cons (pv 1) pa_nil))) (blkOk_by (own := [("part", 2), ("allocation", 3)]) (N := n_are_assignments_of) (sc := defScope s_are_assignments_of) (by decide +kernel)) (fun _ _ _ _ _ => by exact (k_tup (K := K) (n := 2) rfl rfl (pgs_cons (pg_name (i := 2) sc_are_assignments_of.nd rfl (Or.inl rfl)) (pgs_cons (pg_name (i := 3) sc_are_assignments_of.nd rfl (Or.inl rfl)) pgs_nil)))) (fun _ _ _ _ _ => by exact pts_nil) (fun _ _ _ _ _ => by exact (pe_cal c_is_assignment_of (hr.mono (by decide)) rfl pass0 (pa_cons (pv 2) (pa_cons (pv 3) pa_nil))))) pa_nil))))), run_pure (N := n_are_assignments_of) (fun ds k d hp => ?_) h⟩)
  obtain ⟨x, A, v, b, rfl, hs, hA, lA, v1, v5, b20, rfl, rfl⟩ := hp
  cases x with
  | tuple es =>
    obtain ⟨le, hsm⟩ := hs es rfl
    by_cases hl : es.length = A.length
    · refine q_no (EvT.to (t_or (a := false) (b := false) (EvT.to (t_not (t_B (e_isi (d_var rfl) rfl))) rfl) fun _ => EvT.to (t_test (e_neI (d_lenT (d_var rfl)) (d_lenT (d_var rfl)))) (by rw [List.length_map, hl]; simp)) rfl) ?_
      refine s_ret ((d_all (d_lcB (l := es.zip A) (en := fun p => Im.t [.d p.1, .d (tupD p.2)]) (fun p => asoB p.1 p.2) (by
        have := i_zipT (c := pc K) (Γ := [some (.v (.tuple es)), some (.v (.tuple (A.map tupD))), none, none]) (a_consV (d_var (n := 0) rfl) (a_consV (d_var (n := 1) rfl) a_nil))
        rw [show zipD es (A.map tupD) = (es.zip A).map fun p => Im.t [.d p.1, .d (tupD p.2)] from by
          unfold zipD
          rw [List.zip_map_right, List.map_map]
          rfl] at this
        exact this) (by rw [List.length_zip]; omega) fun p hp => ?_)).to ?_) (.inr ⟨rfl, rfl⟩) (.inl rfl)
      · have m1 := (List.of_mem_zip hp).1
        have m2 := (List.of_mem_zip hp).2
        exact ⟨_, _, g_tup rfl (g_cons g_name (g_cons g_name g_nil)), fun j hj => hj, .v, d_call (k := .v) (a_cons (d_var rfl) (a_cons (d_var rfl) a_nil)) ⟨p.1, p.2, v, b, rfl, (hsm _ m1).t, hA _ m2, v1, v5, b20, rfl, rfl⟩⟩
      · show PyData.bool _ = .bool (decide (es.length = A.length) && (es.zip A).all fun p => asoB p.1 p.2)
        rw [decide_eq_true hl, Bool.true_and, List.all_map]
        rfl
    · have e : asosB (.tuple es) A = false := by
        show (decide (es.length = A.length) && _) = false
        rw [decide_eq_false hl, Bool.false_and]
      rw [e]
      exact q_if (a := true) (EvT.to (t_or (a := false) (b := true) (EvT.to (t_not (t_B (e_isi (d_var rfl) rfl))) rfl) fun _ => EvT.to (t_test (e_neI (d_lenT (d_var rfl)) (d_lenT (d_var rfl)))) (by rw [List.length_map]; simp; omega)) rfl) (fun _ => q_ret d_bl (.inr ⟨rfl, rfl⟩) (.inl rfl)) fun z => by cases z
  | _ => exact q_if (a := true) (EvT.to (t_or (a := true) (b := true) (EvT.to (t_not (t_B (e_isi (d_var rfl) (kit_tuple _)))) rfl) fun w => by cases w) rfl) (fun _ => q_ret d_bl (.inr ⟨rfl, rfl⟩) (.inl rfl)) fun z => by cases z

theorem ok_churn {P : Program} {w : World} {K : PySem.W.Frag} {mg : Str → Option Value} {base : Heap} {f : Addr} {fd : FuncData} (F : Fun K "churn" "churn" s_churn f fd) (T : Txt mg) (c_moves : Cal P w K mg base CX0 6 "moves" p_moves (sp_moves K)) :
    FnOk P w K mg base CX0 7 f fd p_churn (sp_churn K) := by
  refine F.ok sc_churn (fun vs H Q E h => spD_len h (by rintro ds k d ⟨ns, ms, rfl, _⟩; rfl)) (fun cdv A outer s H vs Q E hr h => ⟨_, (pss_one (ps_ret (pe_callB (k_len (K := K) rfl) rfl T.b_len (by decide +kernel) (pa_cons (pe_cal c_moves (hr.mono (by decide)) rfl pass0 (pa_cons (pv 0) (pa_cons (pv 1) pa_nil))) pa_nil)))), run_pure (N := n_churn) (fun ds k d hp => ?_) h⟩)
  obtain ⟨ns, ms, rfl, hn, hm, hl, rfl, rfl⟩ := hp
  exact s_ret ((d_lenL (d_call (k := .o) (d := .list (movesD ns ms)) (a_cons (d_var rfl) (a_cons (d_var rfl) a_nil)) ⟨ns, ms, rfl, hn, hm, hl, rfl, rfl⟩)).to (by rw [movesD_len hl])) (.inr ⟨rfl, rfl⟩) (.inl rfl)

theorem ok_moves {P : Program} {w : World} {K : PySem.W.Frag} {mg : Str → Option Value} {base : Heap} {f : Addr} {fd : FuncData} (F : Fun K "moves" "moves" s_moves f fd) (T : Txt mg) (c_check_pair : Cal P w K mg base CX0 5 "check_pair" p_check_pair (sp_check_pair K)) :
    FnOk P w K mg base CX0 6 f fd p_moves (sp_moves K) := by
  refine F.ok sc_moves (fun vs H Q E h => spD_len h (by rintro ds k d ⟨ns, ms, rfl, _⟩; rfl)) (fun cdv A outer s H vs Q E hr h => ⟨_, (pss_cons (ps_expr (pe_cal c_check_pair (hr.mono (by decide)) rfl pass0 (pa_cons (pv 0) (pa_cons (pv 1) pa_nil))))
      (pss_one (ps_ret (pe_lc rfl sc_moves.nd (k_enumZ (K := K) rfl rfl T.b_enumerate rfl T.b_zip (pa_cons (pv 0) (pa_cons (pv 1) pa_nil))) (blkOk_by (own := [("bucket", 2), ("old", 3), ("new", 4)]) (N := n_moves) (sc := defScope s_moves) (by decide +kernel)) (fun _ _ _ _ _ => by exact (k_tup (K := K) (n := 2) rfl rfl (pgs_cons (pg_name (i := 2) sc_moves.nd rfl (Or.inl rfl)) (pgs_cons (k_tup (K := K) (n := 2) rfl rfl (pgs_cons (pg_name (i := 3) sc_moves.nd rfl (Or.inl rfl)) (pgs_cons (pg_name (i := 4) sc_moves.nd rfl (Or.inl rfl)) pgs_nil))) pgs_nil)))) (fun _ _ _ _ _ => by exact (pts_one (pt_cmpR (k_ne (K := K) rfl (rUnits hr)) (pv 3) (pv 4) (nomark _)))) (fun _ _ _ _ _ => by exact (pe_tupN (pa_cons (pv 2) (pa_cons (pv 3) (pa_cons (pv 4) pa_nil))))))))), run_pure (N := n_moves) (fun ds k d hp => ?_) h⟩)
  obtain ⟨ns, ms, rfl, hn, hm, hl, rfl, rfl⟩ := hp
  refine q_drop (d_call (a_cons (d_var rfl) (a_cons (d_var rfl) a_nil)) ⟨ns, ms, rfl, hn, hm, hl, rfl, rfl⟩) ?_
  exact s_ret (d_lc (l := (ns.zip ms).zipIdx) (en := ezI) (fun p => !decide (p.1.1 = p.1.2)) mvT (i_enumZ hl (a_consV (d_var rfl) (a_consV (d_var rfl) a_nil))) (by simp; have := hn.len; omega) fun p _ => ⟨_, _, g_tup rfl (g_cons g_name (g_cons (g_tup rfl (g_cons g_name (g_cons g_name g_nil))) g_nil)), fun j hj => hj, t_test (e_neI (d_var rfl) (d_var rfl)), fun _ => (d_tup (a_consV (d_var rfl) (a_consV (d_var rfl) (a_consV (d_var rfl) a_nil))) (by simp)).fo rfl⟩) (.inl rfl) (.inl rfl)

theorem ok_buckets_of {P : Program} {w : World} {K : PySem.W.Frag} {mg : Str → Option Value} {base : Heap} {f : Addr} {fd : FuncData} (F : Fun K "buckets_of" "buckets_of" s_buckets_of f fd) (T : Txt mg) (c_check_assignment : Cal P w K mg base CX0 4 "check_assignment" p_check_assignment (sp_check_assignment K)) (c_require : Cal P w K mg base CX0 1 "require" p_require (sp_require K)) (c_is_integer : Cal P w K mg base CX0 1 "is_integer" p_is_integer (sp_is_integer K)) :
    FnOk P w K mg base CX0 5 f fd p_buckets_of (sp_buckets_of K) := by
  refine F.ok sc_buckets_of (fun vs H Q E h => spD_len h (by rintro ds k d ⟨ns, v, rfl, _⟩; rfl)) (fun cdv A outer s H vs Q E hr h => ⟨_, (pss_cons (ps_expr (pe_cal c_check_assignment (hr.mono (by decide)) rfl pass0 (pa_cons (pv 0) (pa_cons pe_str pa_nil))))
      (pss_cons (ps_expr (pe_cal c_require (hr.mono (by decide)) rfl pass0 (pa_cons (pe_cal c_is_integer (hr.mono (by decide)) rfl pass0 (pa_cons (pv 1) (pa_cons pe_int (pa_cons (pe_op op_sub (pe_const rfl T.k_MOST_VARIANTS) pe_int) pa_nil)))) (pa_cons pe_str pa_nil))))
      (pss_one (ps_ret (pe_lc rfl sc_buckets_of.nd (k_enum (K := K) rfl rfl T.b_enumerate (pa_cons (pv 0) pa_nil)) (blkOk_by (own := [("bucket", 2), ("own", 3)]) (N := n_buckets_of) (sc := defScope s_buckets_of) (by decide +kernel)) (fun _ _ _ _ _ => by exact (k_tup (K := K) (n := 2) rfl rfl (pgs_cons (pg_name (i := 2) sc_buckets_of.nd rfl (Or.inl rfl)) (pgs_cons (pg_name (i := 3) sc_buckets_of.nd rfl (Or.inl rfl)) pgs_nil)))) (fun _ _ _ _ _ => by exact (pts_one (pt_cmpR (k_eq (K := K) rfl (rUnits hr)) (pv 3) (pv 1) (nomark _)))) (fun _ _ _ _ _ => by exact (pv 2))))))), run_pure (N := n_buckets_of) (fun ds k d hp => ?_) h⟩)
  obtain ⟨ns, v, rfl, ha, h0, h4, rfl, rfl⟩ := hp
  refine q_drop (d_call (a_cons (d_var rfl) (a_cons d_str a_nil)) ⟨_, _, rfl, ha.small, ha.bAsg (Int.le_refl _), rfl, rfl⟩) ?_
  refine q_drop (d_call (a_cons (d_call (a_cons (d_var rfl) (a_cons d_int (a_cons (d_sub d_int d_int) a_nil))) ⟨.int v, 0, 4, rfl, rfl, rfl⟩) (a_cons d_str a_nil)) ⟨"variant", ?_, rfl, rfl⟩) ?_
  · simp [isIntD, h0, h4]
  refine s_ret (d_lcPI (l := ns.zipIdx) (en := pairI) (fun p => decide (p.1 = v)) (fun p => ((p.2 : Nat) : Int)) (i_enumTI (a_consV (d_var rfl) a_nil)) (by simp; have := ha.len; omega) fun p _ => ⟨_, _, g_tup rfl (g_cons g_name (g_cons g_name g_nil)), fun j hj => hj, t_test (e_eqI (d_var rfl) (d_var rfl)), fun _ => ⟨_, d_var rfl⟩⟩) (.inl rfl) (.inl rfl)

theorem ok_surplus {P : Program} {w : World} {K : PySem.W.Frag} {mg : Str → Option Value} {base : Heap} {f : Addr} {fd : FuncData} (F : Fun K "surplus" "surplus" s_surplus f fd) (T : Txt mg) (c_medians : Cal P w K mg base CX0 5 "medians" p_medians (sp_medians K)) :
    FnOk P w K mg base CX0 6 f fd p_surplus (sp_surplus K) := by
  refine F.ok sc_surplus (fun vs H Q E h => spD_len h (by rintro ds k d ⟨as, bs, cs, v, b, rfl, _⟩; rfl)) (fun cdv A outer s H vs Q E hr h => ⟨_, (pss_one (ps_ret (pe_op op_sub (pe_callB (k_sum (K := K) rfl rfl) rfl T.b_sum (by decide +kernel) (pa_cons (pe_cal c_medians (hr.mono (by decide)) rfl pass0 (pa_cons (pv 0) (pa_cons (pv 1) (pa_cons (pv 2) pa_nil)))) pa_nil)) (pe_callB (k_sum (K := K) rfl rfl) rfl T.b_sum (by decide +kernel) (pa_cons (pv 0) pa_nil))))), run_pure (N := n_surplus) (fun ds k d hp => ?_) h⟩)
  obtain ⟨as, bs, cs, v, b, rfl, ha, hb, hc, h1, h5, h20, rfl, rfl⟩ := hp
  exact s_ret (d_sub (e_sumT (d_call (k := .v) (a_cons (d_var rfl) (a_cons (d_var rfl) (a_cons (d_var rfl) a_nil))) ⟨as, bs, cs, v, b, rfl, ha, hb, hc, h1, h5, h20, rfl, rfl⟩)) (e_sumT (d_var rfl))) (.inr ⟨rfl, rfl⟩) (.inl rfl)

theorem ok_excess {P : Program} {w : World} {K : PySem.W.Frag} {mg : Str → Option Value} {base : Heap} {f : Addr} {fd : FuncData} (F : Fun K "excess" "excess" s_excess f fd) (T : Txt mg) (c_surplus : Cal P w K mg base CX0 6 "surplus" p_surplus (sp_surplus K)) :
    FnOk P w K mg base CX0 7 f fd p_excess (sp_excess K) := by
  refine F.ok sc_excess (fun vs H Q E h => spD_len h (by rintro ds k d ⟨as, bs, cs, v, b, rfl, _⟩; rfl)) (fun cdv A outer s H vs Q E hr h => ⟨_, (pss_one (ps_ret (pe_callB (call_max2 rfl) rfl T.b_max (by decide +kernel) (pa_cons (pe_cal c_surplus (hr.mono (by decide)) rfl pass0 (pa_cons (pv 0) (pa_cons (pv 1) (pa_cons (pv 2) pa_nil)))) (pa_cons pe_int pa_nil))))), run_pure (N := n_excess) (fun ds k d hp => ?_) h⟩)
  obtain ⟨as, bs, cs, v, b, rfl, ha, hb, hc, h1, h5, h20, rfl, rfl⟩ := hp
  exact s_ret (e_max2 (d_call (k := .v) (a_cons (d_var rfl) (a_cons (d_var rfl) (a_cons (d_var rfl) a_nil))) ⟨as, bs, cs, v, b, rfl, ha, hb, hc, h1, h5, h20, rfl, rfl⟩) d_int) (.inr ⟨rfl, rfl⟩) (.inl rfl)

theorem ok_laid_out {P : Program} {w : World} {K : PySem.W.Frag} {mg : Str → Option Value} {base : Heap} {f : Addr} {fd : FuncData} (F : Fun K "laid_out" "laid_out" s_laid_out f fd) (T : Txt mg) :
    FnOk P w K mg base CX0 1 f fd p_laid_out (sp_laid_out K) := by
  refine F.ok sc_laid_out (fun vs H Q E h => spD_len h (by rintro ds k d ⟨as, cs, v, b, x, rfl, _⟩; rfl)) (fun cdv A outer s H vs Q E hr h => ⟨_, (pss_cons (ps_set (i := 2) sc_laid_out.nd rfl (Or.inl rfl) (pe_lst pa_nil))
      (pss_cons (ps_set (i := 3) sc_laid_out.nd rfl (Or.inl rfl) (pe_lst pa_nil))
      (pss_cons (ps_for PassesOwn.never rfl (k_enum (K := K) rfl rfl T.b_enumerate (pa_cons (pv 1) pa_nil)) (k_tup (K := K) (n := 2) rfl rfl (pgs_cons (pg_name (i := 4) sc_laid_out.nd rfl (Or.inl rfl)) (pgs_cons (pg_name (i := 5) sc_laid_out.nd rfl (Or.inl rfl)) pgs_nil))) (pss_cons (ps_set (i := 6) sc_laid_out.nd rfl (Or.inl rfl) (pe_ix (k_ix (K := K) rfl) (pv 0) (pv 4) (fun _ _ => rfl)))
      (pss_cons (ps_expr (k_bm (K := K) rfl PySem.F.plainAttrs_list PySem.F.slot_list_extend PySem.F.type_list_extend mt_extend (pv 2) (pa_cons (pe_op (k_add (K := K) rfl) (pe_op op_mulA (pe_lst (pa_cons (pv 4) pa_nil)) (pe_callB (call_min2 rfl) rfl T.b_min (by decide +kernel) (pa_cons (pv 6) (pa_cons (pv 5) pa_nil)))) (pe_op op_mulA (pe_lst (pa_cons pe_non pa_nil)) (pe_op op_sub (pv 5) (pv 6)))) pa_nil)))
      (pss_one (ps_expr (k_bm (K := K) rfl PySem.F.plainAttrs_list PySem.F.slot_list_extend PySem.F.type_list_extend mt_extend (pv 3) (pa_cons (pe_op op_mulA (pe_lst (pa_cons (pv 4) pa_nil)) (pe_op op_sub (pv 6) (pv 5))) pa_nil)))))))
      (pss_cons (ps_expr (k_bm (K := K) rfl PySem.F.plainAttrs_list PySem.F.slot_list_extend PySem.F.type_list_extend mt_extend (pv 2) (pa_cons (pe_op op_mulA (pe_lst (pa_cons pe_non pa_nil)) (pe_op op_sub (pe_callB (k_sum (K := K) rfl rfl) rfl T.b_sum (by decide +kernel) (pa_cons (pv 0) pa_nil)) (pe_callB (k_len (K := K) rfl) rfl T.b_len (by decide +kernel) (pa_cons (pv 2) pa_nil)))) pa_nil)))
      (pss_cons (ps_for PassesOwn.never rfl (pi_range1 rfl T.b_range (pa_cons (pe_callB (k_len (K := K) rfl) rfl T.b_len (by decide +kernel) (pa_cons (pv 2) pa_nil)) pa_nil)) (pg_name (i := 7) sc_laid_out.nd rfl (Or.inl rfl)) (pss_one (ps_if (pt_cmpR op_isN (pe_ix (k_ix (K := K) rfl) (pv 2) (pv 7) (fun _ _ => rfl)) pe_non (nomark _)) (pss_one (ps_asg (k_bm (K := K) rfl PySem.F.plainAttrs_list PySem.F.slot_list_pop PySem.F.type_list_pop mt_popAt (pv 3) (pa_cons pe_int pa_nil)) (pg_sub (pv 2) (pv 7) set_list))) pss_nil)))
      (pss_one (ps_ret (pe_callTy (k_tuple (K := K) rfl) rfl T.b_tuple (by decide +kernel) (pa_cons (pv 2) pa_nil))))))))), run_pure (N := n_laid_out) (fun ds k d hp => ?_) h⟩)
  obtain ⟨as, cs, v, b, x, rfl, hx, h, v1, v5, b20, rfl, rfl⟩ := hp
  have la := h.a.len
  have lc := h.len
  have ln : (as.zip cs).length = as.length := by rw [List.length_zip]; omega
  have as20 : ∀ n ∈ as, 0 ≤ n ∧ n ≤ 20 := fun n hn => ⟨h.a.nn n hn, by have := h.a.le n hn; omega⟩
  have cs20 : ∀ n ∈ cs, 0 ≤ n ∧ n ≤ 20 := fun n hn => ⟨h.nn n hn, by have := le_sum h.nn n hn; have := h.le; omega⟩
  have hfull := h.full
  have hbal := h.bal
  have b0 := h.a.b0
  have hsum := h.a.sum
  have prl : ∀ n, ((preR ((as.zip cs).take n) 0).length : Int) ≤ 20 := fun n => by
    have l := pre_len (z := (as.zip cs).take n) (i := 0) fun p hp => zip_nn h.a.nn h.nn p (List.mem_of_mem_take hp)
    have s2 : ((as.zip cs).map (·.2)).sum = (((as.zip cs).take n).map (·.2)).sum + (((as.zip cs).drop n).map (·.2)).sum := by rw [← List.sum_append, ← List.map_append, List.take_append_drop]
    have nn := sum_nn (ns := ((as.zip cs).drop n).map (·.2)) fun m hm => by
      obtain ⟨p, hp, rfl⟩ := List.mem_map.mp hm
      exact (zip_nn h.a.nn h.nn p (List.mem_of_mem_drop hp)).2
    rw [zip_2 lc.symm] at s2
    have := h.le
    omega
  have ovl : ∀ n, ((overR ((as.zip cs).take n) 0).length : Int) ≤ 20 := fun n => by
    have l := over_len (z := (as.zip cs).take n) (i := 0)
    have l2 := over_len (z := as.zip cs) (i := 0)
    have s2 : ((as.zip cs).map fun p => max (p.1 - p.2) 0).sum = (((as.zip cs).take n).map fun p => max (p.1 - p.2) 0).sum + (((as.zip cs).drop n).map fun p => max (p.1 - p.2) 0).sum := by rw [← List.sum_append, ← List.map_append, List.take_append_drop]
    have nn := sum_nn (ns := ((as.zip cs).drop n).map fun p => max (p.1 - p.2) 0) fun m hm => by
      obtain ⟨p, _, rfl⟩ := List.mem_map.mp hm
      omega
    have c1 : (fullR (as.zip cs) as.sum.toNat).count none ≤ (fullR (as.zip cs) as.sum.toNat).length := List.count_le_length
    omega
  have it : ∀ {Γ : List (Option Rs)}, Γ[1]? = some (some (.v x)) → EvI (pc K) (iEnumA K (tCons (tVar 1) tNil)) Γ true (cs.zipIdx.map pairI) := fun hΓ => by
    rcases hx with rfl | rfl
    · exact i_enumTI (a_consV (d_var hΓ) a_nil)
    · exact i_enumL' (d_var hΓ) kv_ne (enumI_ints cs)
  refine q_asgO (d := .list (([] : List (Option Int)).map pnD)) (d_lst (kv := false) (ds := []) a_nil rfl (by decide)) ?_
  refine q_asgO (d := .list (([] : List Int).map .int)) (d_lst (kv := false) (ds := []) a_nil rfl (by decide)) ?_
  refine q_for (it rfl) (fun n Γ1 => ∃ t4 t5 t6 t7, Γ1 = [some (.v (tupD as)), some (.v x), some (.o (.list ((preR ((as.zip cs).take n) 0).map pnD))), some (.o (.list ((overR ((as.zip cs).take n) 0).map .int))), t4, t5, t6, t7]) ⟨_, _, _, _, rfl⟩ (fun n a Γ1 hn' hI => ?_) (fun Γ1 hI => ?_)
  · obtain ⟨t4, t5, t6, t7, rfl⟩ := hI
    have hn : n < cs.length := by have := (List.getElem?_eq_some_iff.mp hn').1; simpa using this
    have ea : a = pairI (cs[n], n) := by
      rw [List.getElem?_map, List.getElem?_zipIdx, List.getElem?_eq_getElem hn] at hn'
      simpa using hn'.symm
    subst ea
    have ha : n < as.length := by omega
    have zt : (as.zip cs).take (n + 1) = (as.zip cs).take n ++ [(as[n], cs[n])] := by
      rw [List.take_add_one, List.getElem?_eq_getElem (by rw [ln]; exact ha)]
      simp
    have tl : ((as.zip cs).take n).length = n := by rw [List.length_take, ln]; omega
    have ps := pre_snoc (z := (as.zip cs).take n) (s := as[n]) (c := cs[n]) (i := 0)
    have os := over_snoc (z := (as.zip cs).take n) (s := as[n]) (c := cs[n]) (i := 0)
    rw [tl, Nat.zero_add] at ps os
    have p1 := prl n
    have o1 := ovl n
    have a20 := as20 _ (List.getElem_mem ha)
    have c20 := cs20 _ (List.getElem_mem hn)
    have atA : atI (as.map PyData.int) (n : Int) = some (.int as[n]) := atI_nat (by simp [ha])
    rw [zt, ps, os]
    generalize (as.zip cs).take n = z at p1 o1
    generalize as[n] = s at a20 atA
    generalize cs[n] = co at c20
    refine ⟨_, _, g_tup rfl (g_cons g_name (g_cons g_name g_nil)), ?_⟩
    refine q_asg (d := .int s) (e_ixT (d_var rfl) (d_var rfl) atA rfl) ?_
    refine s_seq1 (s_ext (n := 2) (es := (List.replicate (min s co).toNat (some (n : Int)) ++ List.replicate (co - s).toNat none).map pnD) rfl ((e_catL (e_rep (i := if co < s then co else s) (d_lst (kv := false) (ds := [.int (n : Int)]) (a_cons (d_var rfl) a_nil) rfl (by simp)) rfl (e_min2 (d_var rfl) (d_var rfl)) (by split <;> omega) (by split <;> omega) (by simp only [List.length_cons, List.length_nil]; split <;> omega)) (fl_rep rfl) (e_rep (i := co - s) (d_lst (kv := false) (ds := [.none]) (a_cons d_non a_nil) rfl (by simp)) rfl (d_sub (d_var rfl) (d_var rfl)) (by omega) (by omega) (by simp only [List.length_cons, List.length_nil]; omega)) (fl_rep rfl) (by rw [rep1, rep1, List.length_replicate, List.length_replicate]; split <;> omega)).to (by rw [rep1, rep1, List.map_append, List.map_replicate, List.map_replicate, min_py]; rfl)) (pn_flat _) (by simp only [List.length_map, List.length_append, List.length_replicate]; omega) rfl) ?_
    refine s_ext (n := 3) (es := (List.replicate (s - co).toNat (n : Int)).map .int) rfl ((e_rep (i := s - co) (d_lst (kv := false) (ds := [.int (n : Int)]) (a_cons (d_var rfl) a_nil) rfl (by simp)) rfl (d_sub (d_var rfl) (d_var rfl)) (by omega) (by omega) (by simp only [List.length_cons, List.length_nil]; omega)).to (by rw [rep1, List.map_replicate])) (flatAll_ints _) (by simp only [List.length_map, List.length_replicate]; omega) (.inl ⟨_, .inl rfl, some (.v (.int (n : Int))), some (.v (.int co)), some (.v (.int s)), t7, ?_⟩)
    rw [List.map_append (f := pnD) (l₁ := preR z 0), List.map_append (f := PyData.int) (l₁ := overR z 0)]
    rfl
  · obtain ⟨t4, t5, t6, t7, rfl⟩ := hI
    rw [List.take_of_length_le (by rw [ln]; simp; omega)]
    have pl : ((preR (as.zip cs) 0).length : Int) ≤ b := by rw [hfull.2]; exact h.le
    refine s_seq1 (s_ext (n := 2) (es := (List.replicate (as.sum.toNat - (preR (as.zip cs) 0).length) none).map pnD) rfl ((e_rep (i := as.sum - ((preR (as.zip cs) 0).map pnD).length) (d_lst (kv := false) (ds := [.none]) (a_cons d_non a_nil) rfl (by simp)) rfl (d_sub (e_sumT (d_var rfl)) (d_lenL (d_varO rfl))) (by rw [List.length_map]; omega) (by rw [List.length_map]; omega) (by rw [List.length_map]; simp only [List.length_cons, List.length_nil]; omega)).to (by
      rw [rep1, List.map_replicate, List.length_map]
      congr 2
      omega)) (pn_flat _) (by simp only [List.length_map, List.length_replicate]; omega) rfl) ?_
    have el : (fullR (as.zip cs) as.sum.toNat).length ≤ 20 := by omega
    have e0 : (preR (as.zip cs) 0).map pnD ++ (List.replicate (as.sum.toNat - (preR (as.zip cs) 0).length) none).map pnD = (([] : List Int).map .int) ++ ((fullR (as.zip cs) as.sum.toNat).drop 0).map pnD := by
      rw [← List.map_append]
      rfl
    have hlay : ([] : List Int) ++ fillR ((fullR (as.zip cs) as.sum.toNat).drop 0) (overR (as.zip cs) 0) = layI as cs := rfl
    have hcnt : ((fullR (as.zip cs) as.sum.toNat).drop 0).count none = (overR (as.zip cs) 0).length := hbal
    rw [e0]
    have eflen : ((([] : List Int).map PyData.int) ++ ((fullR (as.zip cs) as.sum.toNat).drop 0).map pnD).length = (fullR (as.zip cs) as.sum.toNat).length := by simp
    generalize fullR (as.zip cs) as.sum.toNat = F at el hlay hcnt eflen
    generalize overR (as.zip cs) 0 = ov0 at hlay hcnt
    refine q_for (i_rngN (n := F.length) (a_cons ((d_lenL (d_varO rfl)).to (by rw [eflen])) a_nil) (by omega))
      (fun n Γ1 => ∃ t4 t5 t6 t7 fl ov, Γ1 = [some (.v (tupD as)), some (.v x), some (.o (.list (fl.map .int ++ (F.drop n).map pnD))), some (.o (.list (ov.map .int))), t4, t5, t6, t7] ∧ fl.length = n ∧ fl ++ fillR (F.drop n) ov = layI as cs ∧ (F.drop n).count none = ov.length) ⟨t4, t5, t6, t7, [], ov0, rfl, rfl, hlay, hcnt⟩ (fun n a Γ1 hn' hI => ?_) (fun Γ1 hI => ?_)
    · obtain ⟨t4, t5, t6, t7, fl, ov, rfl, hfl, hl2, hc2⟩ := hI
      obtain ⟨hn, rfl⟩ := rngN_at hn'
      have dF : F.drop n = F[n] :: F.drop (n + 1) := List.drop_eq_getElem_cons hn
      have atR : atI (fl.map PyData.int ++ (F.drop n).map pnD) (n : Int) = some (pnD F[n]) := by
        refine atI_nat ?_
        rw [List.getElem?_append_right (by simp [hfl]), dF]
        have e9 : n - (fl.map PyData.int).length = 0 := by simp [hfl]
        rw [e9]
        rfl
      have fl2 : flatAll (fl.map PyData.int ++ (F.drop n).map pnD) = true := flatAll_mem fun d hd => by
        rcases List.mem_append.mp hd with w | w
        · exact flatAll_one (flatAll_ints fl) w
        · exact flatAll_one (pn_flat _) w
      have setE : ∀ o : Int, (fl.map PyData.int ++ (F.drop n).map pnD).set n (.int o) = (fl ++ [o]).map PyData.int ++ (F.drop (n + 1)).map pnD := fun o => by
        have e9 : n - (fl.map PyData.int).length = 0 := by simp [hfl]
        rw [List.set_append_right _ _ (by simp [hfl]), dF, e9, List.map_cons, List.set_cons_zero, List.map_append, List.append_assoc]
        rfl
      have lenR : (fl.map PyData.int ++ (F.drop n).map pnD).length = F.length := by simp [hfl]; omega
      have e1 : Ev (pc K) (tOp (rIx K) (tVar 2) (tVar 7)) ([some (.v (tupD as)), some (.v x), some (.o (.list (fl.map .int ++ (F.drop n).map pnD))), some (.o (.list (ov.map .int))), t4, t5, t6, some (.v (.int (n : Int)))]) .v (pnD F[n]) := e_ixL (d_varO rfl) (d_var rfl) atR (by cases F[n] <;> rfl)
      refine ⟨_, _, g_name, ?_⟩
      cases hF : F[n] with
      | some y =>
        rw [hF] at e1
        rw [dF, hF] at hl2 hc2
        refine s_no (t_test ((d_isN e1).to (y := .bool false) rfl)) (s_next (.inl ⟨_, .inl rfl, t4, t5, t6, some (.v (.int (n : Int))), fl ++ [y], ov, ?_, by simp [hfl], by rw [← hl2]; simp [fillR], by simpa using hc2⟩))
        rw [dF, hF]
        simp [pnD]
      | none =>
        rw [hF] at e1
        rw [dF, hF] at hl2 hc2
        cases ov with
        | nil => simp at hc2
        | cons o ov =>
          refine s_yes (t_test ((d_isN e1).to (y := .bool true) rfl)) (s_popSet (n := 2) (m := 3) (i := 0) (t := n) (j := (n : Int)) rfl rfl (by decide) fl2 (flatAll_ints (o :: ov)) d_int (by simp) (by
            have c1 : F.count none ≤ F.length := List.count_le_length
            have c2 : (F.drop (n + 1)).count none ≤ (F.drop (n + 1)).length := List.count_le_length
            simp at hc2 c2 ⊢
            omega) (fun Γ2 e2 => by subst e2; exact d_var rfl) (ixN_at rfl (by rw [lenR]; exact hn)) (.inl ⟨_, .inl rfl, t4, t5, t6, some (.v (.int (n : Int))), fl ++ [o], ov, ?_, by simp [hfl], by rw [← hl2]; simp [fillR], by simpa using hc2⟩))
          show _ = _
          have eg : ((o :: ov).map PyData.int).getD 0 .none = .int o := rfl
          rw [eg, setE]
          rfl
    · obtain ⟨t4, t5, t6, t7, fl, ov, rfl, hfl, hl2, hc2⟩ := hI
      have dn : F.drop (((List.range F.length).map fun i : Nat => Im.d (.int (i : Int))).length) = [] := by simp
      rw [dn] at hl2 ⊢
      have : fl = layI as cs := by simpa [fillR] using hl2
      subst this
      exact s_ret ((d_tuple (d_varO rfl) (by simp [flatAll_ints])).to (by simp)) (.inr ⟨rfl, flatT _⟩) (.inl rfl)

theorem ok_table_of_three {P : Program} {w : World} {K : PySem.W.Frag} {mg : Str → Option Value} {base : Heap} {f : Addr} {fd : FuncData} (F : Fun K "table_of_three" "table_of_three" s_table_of_three f fd) (T : Txt mg) (c_medians : Cal P w K mg base CX0 5 "medians" p_medians (sp_medians K)) (c_surplus : Cal P w K mg base CX0 6 "surplus" p_surplus (sp_surplus K)) (c_laid_out : Cal P w K mg base CX0 1 "laid_out" p_laid_out (sp_laid_out K)) :
    FnOk P w K mg base CX0 7 f fd p_table_of_three (sp_table_of_three K) := by
  refine F.ok sc_table_of_three (fun vs H Q E h => spD_len h (by rintro ds k d ⟨as, bs, cs, v, b, rfl, _⟩; rfl)) (fun cdv A outer s H vs Q E hr h => ⟨_, (pss_cons (ps_if (pt_cmpR op_gt (pe_cal c_surplus (hr.mono (by decide)) rfl pass0 (pa_cons (pv 0) (pa_cons (pv 1) (pa_cons (pv 2) pa_nil)))) pe_int (nomark _)) (pss_one (ps_ret pe_non)) pss_nil)
      (pss_cons (ps_set (i := 3) sc_table_of_three.nd rfl (Or.inl rfl) (pe_cal c_medians (hr.mono (by decide)) rfl pass0 (pa_cons (pv 0) (pa_cons (pv 1) (pa_cons (pv 2) pa_nil)))))
      (pss_one (ps_ret (pe_tupN (pa_cons (pe_cal c_laid_out (hr.mono (by decide)) rfl pass0 (pa_cons (pv 0) (pa_cons (pv 3) pa_nil))) (pa_cons (pe_cal c_laid_out (hr.mono (by decide)) rfl pass0 (pa_cons (pv 1) (pa_cons (pv 3) pa_nil))) (pa_cons (pe_cal c_laid_out (hr.mono (by decide)) rfl pass0 (pa_cons (pv 2) (pa_cons (pv 3) pa_nil))) pa_nil)))))))), run_pure (N := n_table_of_three) (fun ds k d hp => ?_) h⟩)
  obtain ⟨as, bs, cs, v, b, rfl, ha, hb, hc, v1, v5, b20, rfl, rfl⟩ := hp
  refine q_if (t_test (d_gt (d_call (k := .v) (a_cons (d_var rfl) (a_cons (d_var rfl) (a_cons (d_var rfl) a_nil))) ⟨as, bs, cs, v, b, rfl, ha, hb, hc, v1, v5, b20, rfl, rfl⟩) d_int)) (fun w => ?_) fun w => q_next ?_
  · have w := of_decide_eq_true w
    have e : t3D as bs cs = .none := by unfold t3D; rw [if_pos w]
    rw [e]
    exact q_ret d_non (.inr ⟨rfl, rfl⟩) (.inl rfl)
  · have w := of_decide_eq_false w
    have e : t3D as bs cs = .tuple [tupD (layI as (medI as bs cs)), tupD (layI bs (medI as bs cs)), tupD (layI cs (medI as bs cs))] := by unfold t3D; rw [if_neg w]
    rw [e]
    obtain ⟨c1, c2, c3⟩ := Crs.med ha hb hc (by omega)
    refine q_asg (d_call (k := .v) (a_cons (d_var rfl) (a_cons (d_var rfl) (a_cons (d_var rfl) a_nil))) ⟨as, bs, cs, v, b, rfl, ha, hb, hc, v1, v5, b20, rfl, rfl⟩) ?_
    exact s_ret (d_tup (a_consV (d_call (k := .v) (a_cons (d_var rfl) (a_cons (d_var rfl) a_nil)) ⟨as, medI as bs cs, v, b, _, rfl, .inl rfl, c1, v1, v5, b20, rfl, rfl⟩) (a_consV (d_call (k := .v) (a_cons (d_var rfl) (a_cons (d_var rfl) a_nil)) ⟨bs, medI as bs cs, v, b, _, rfl, .inl rfl, c2, v1, v5, b20, rfl, rfl⟩) (a_consV (d_call (k := .v) (a_cons (d_var rfl) (a_cons (d_var rfl) a_nil)) ⟨cs, medI as bs cs, v, b, _, rfl, .inl rfl, c3, v1, v5, b20, rfl, rfl⟩) a_nil))) (by simp)) (.inr ⟨rfl, fl_rows [layI as (medI as bs cs), layI bs (medI as bs cs), layI cs (medI as bs cs)]⟩) (.inl rfl)

theorem ok_all_different {P : Program} {w : World} {K : PySem.W.Frag} {mg : Str → Option Value} {base : Heap} {f : Addr} {fd : FuncData} (F : Fun K "all_different" "all_different" s_all_different f fd) (T : Txt mg) (c_surplus : Cal P w K mg base CX0 6 "surplus" p_surplus (sp_surplus K)) :
    FnOk P w K mg base CX0 7 f fd p_all_different (sp_all_different K) := by
  refine F.ok sc_all_different (fun vs H Q E h => spD_len h (by rintro ds k d ⟨as, bs, cs, v, b, rfl, _⟩; rfl)) (fun cdv A outer s H vs Q E hr h => ⟨_, (pss_cons (ps_set (i := 3) sc_all_different.nd rfl (Or.inl rfl) (pe_cal c_surplus (hr.mono (by decide)) rfl pass0 (pa_cons (pv 0) (pa_cons (pv 1) (pa_cons (pv 2) pa_nil)))))
      (pss_cons (ps_if (pt_cmpR op_gt (pv 3) pe_int (nomark _)) (pss_one (ps_ret pe_non)) pss_nil)
      (pss_one (ps_ret (pe_un un_neg (pv 3)))))), run_pure (N := n_all_different) (fun ds k d hp => ?_) h⟩)
  obtain ⟨as, bs, cs, v, b, rfl, ha, hb, hc, v1, v5, b20, rfl, rfl⟩ := hp
  refine q_asg (d_call (k := .v) (a_cons (d_var rfl) (a_cons (d_var rfl) (a_cons (d_var rfl) a_nil))) ⟨as, bs, cs, v, b, rfl, ha, hb, hc, v1, v5, b20, rfl, rfl⟩) ?_
  refine q_if (t_test (d_gt (d_var rfl) d_int)) (fun w => ?_) fun w => q_next ?_
  · have w := of_decide_eq_true w
    have e : a3D as bs cs = .none := by unfold a3D; rw [if_pos w]
    rw [e]
    exact q_ret d_non (.inr ⟨rfl, rfl⟩) (.inl rfl)
  · have w := of_decide_eq_false w
    have e : a3D as bs cs = .int (-(suI as bs cs)) := by unfold a3D; rw [if_neg w]
    rw [e]
    exact s_ret (e_neg (d_var rfl)) (.inr ⟨rfl, rfl⟩) (.inl rfl)

theorem ok_is_least {P : Program} {w : World} {K : PySem.W.Frag} {mg : Str → Option Value} {base : Heap} {f : Addr} {fd : FuncData} (F : Fun K "is_least" "is_least" s_is_least f fd) (T : Txt mg) (c_churn : Cal P w K mg base CX0 7 "churn" p_churn (sp_churn K)) (c_transfer : Cal P w K mg base CX0 5 "transfer" p_transfer (sp_transfer K)) :
    FnOk P w K mg base CX0 8 f fd p_is_least (sp_is_least K) := by
  refine F.ok sc_is_least (fun vs H Q E h => spD_len h (by rintro ds k d ⟨as, bs, f, g, v, b, rfl, _⟩; rfl)) (fun cdv A outer s H vs Q E hr h => ⟨_, (pss_one (ps_ret (pe_cmpR (k_eq (K := K) rfl (rUnits hr)) (pe_cal c_churn (hr.mono (by decide)) rfl pass0 (pa_cons (pv 2) (pa_cons (pv 3) pa_nil))) (pe_cal c_transfer (hr.mono (by decide)) rfl pass0 (pa_cons (pv 0) (pa_cons (pv 1) pa_nil))) (nomark _)))), run_pure (N := n_is_least) (fun ds k d hp => ?_) h⟩)
  obtain ⟨as, bs, f, g, v, b, rfl, ha, hb, hf, hg, hl, v1, v5, b20, rfl, rfl⟩ := hp
  exact s_ret (e_eqI (d_call (k := .v) (a_cons (d_var rfl) (a_cons (d_var rfl) a_nil)) ⟨f, g, rfl, hf.wide v5, hg.wide v5, hl, rfl, rfl⟩) (d_call (k := .v) (a_cons (d_var rfl) (a_cons (d_var rfl) a_nil)) ⟨as, bs, v, b, rfl, ha, hb, v1, v5, b20, rfl, rfl⟩)) (.inr ⟨rfl, rfl⟩) (.inl rfl)

theorem ok_is_table_of_three {P : Program} {w : World} {K : PySem.W.Frag} {mg : Str → Option Value} {base : Heap} {f : Addr} {fd : FuncData} (F : Fun K "is_table_of_three" "is_table_of_three" s_is_table_of_three f fd) (T : Txt mg) (c_are_assignments_of : Cal P w K mg base CX0 7 "are_assignments_of" p_are_assignments_of (sp_are_assignments_ofB K)) (c_is_least : Cal P w K mg base CX0 8 "is_least" p_is_least (sp_is_least K)) :
    FnOk P w K mg base CX0 9 f fd p_is_table_of_three (sp_is_table_of_three K) := by
  refine F.ok sc_is_table_of_three (fun vs H Q E h => spD_len h (by rintro ds k d ⟨as, bs, cs, v, b, x, rfl, _⟩; rfl)) (fun cdv A outer s H vs Q E hr h => ⟨_, (pss_cons (ps_if (pt_not (pt_val (pe_cal c_are_assignments_of (hr.mono (by decide)) rfl pass0 (pa_cons (pv 1) (pa_cons (pv 0) pa_nil))))) (pss_one (ps_ret pe_bl)) pss_nil)
      (pss_one (ps_ret (pe_callB (k_all (K := K) rfl rfl) rfl T.b_all (by decide +kernel) (pa_cons (pe_lc rfl sc_is_table_of_three.nd (k_seq (K := K) rfl (pe_tupN (pa_cons (pe_tupN (pa_cons pe_int (pa_cons pe_int pa_nil))) (pa_cons (pe_tupN (pa_cons pe_int (pa_cons pe_int pa_nil))) (pa_cons (pe_tupN (pa_cons pe_int (pa_cons pe_int pa_nil))) pa_nil))))) (blkOk_by (own := [("i", 2), ("j", 3)]) (N := n_is_table_of_three) (sc := defScope s_is_table_of_three) (by decide +kernel)) (fun _ _ _ _ _ => by exact (k_tup (K := K) (n := 2) rfl rfl (pgs_cons (pg_name (i := 2) sc_is_table_of_three.nd rfl (Or.inl rfl)) (pgs_cons (pg_name (i := 3) sc_is_table_of_three.nd rfl (Or.inl rfl)) pgs_nil)))) (fun _ _ _ _ _ => by exact pts_nil) (fun _ _ _ _ _ => by exact (pe_cal c_is_least (hr.mono (by decide)) rfl pass0 (pa_cons (pe_ix (k_ix (K := K) rfl) (pv 0) (pv 2) (fun _ _ => rfl)) (pa_cons (pe_ix (k_ix (K := K) rfl) (pv 0) (pv 3) (fun _ _ => rfl)) (pa_cons (pe_ix (k_ix (K := K) rfl) (pv 1) (pv 2) (fun _ _ => rfl)) (pa_cons (pe_ix (k_ix (K := K) rfl) (pv 1) (pv 3) (fun _ _ => rfl)) pa_nil))))))) pa_nil))))), run_pure (N := n_is_table_of_three) (fun ds k d hp => ?_) h⟩)
  obtain ⟨as, bs, cs, v, b, x, rfl, ha, hb, hc, v1, v5, b20, hs, rfl, rfl⟩ := hp
  refine q_if (t_not (t_B (d_call (k := .v) (d := .bool (asosB x [as, bs, cs])) (a_cons (d_var rfl) (a_cons (d_var rfl) a_nil)) ⟨x, [as, bs, cs], v, b, rfl, hs, by
    intro a ha'
    simp only [List.mem_cons, List.not_mem_nil, or_false] at ha'
    rcases ha' with rfl | rfl | rfl <;> assumption, by simp, v1, v5, b20, rfl, rfl⟩))) (fun w => ?_) fun w => q_next ?_
  · have e : tab3B as bs cs x = false := by
      unfold tab3B
      rw [show asosB x [as, bs, cs] = false by simpa using w]; rfl
    rw [e]
    exact q_ret d_bl (.inr ⟨rfl, rfl⟩) (.inl rfl)
  · have w : asosB x [as, bs, cs] = true := by simpa using w
    obtain ⟨f, g, h, rfl, ⟨f1, f2, f3⟩, ⟨g1, g2, g3⟩, ⟨h1, h2, h3⟩⟩ := asos3 ha hb hc b20 w
    have e : tab3B as bs cs (.tuple [tupD f, tupD g, tupD h]) = (decide (zs ne1 f g = trI as bs) && (decide (zs ne1 f h = trI as cs) && decide (zs ne1 g h = trI bs cs))) := by
      unfold tab3B
      rw [w, Bool.true_and]
      rw [show intsD (itD (.tuple [tupD f, tupD g, tupD h]) 0) = f from intsD_tup f, show intsD (itD (.tuple [tupD f, tupD g, tupD h]) 1) = g from intsD_tup g, show intsD (itD (.tuple [tupD f, tupD g, tupD h]) 2) = h from intsD_tup h]
    rw [e]
    have tp : ∀ {Γ : List (Option Rs)} (i j : Int), Ev (pc K) (tTupN (tCons (tC (.int i)) (tCons (tC (.int j)) tNil))) Γ .v (.tuple [.int i, .int j]) := fun i j => d_tup (a_consV d_int (a_consV d_int a_nil)) (by simp)
    refine s_ret ((d_all (d_lcB (l := [((0 : Int), (1 : Int), (as, bs), (f, g)), (0, 2, (as, cs), (f, h)), (1, 2, (bs, cs), (g, h))]) (en := fun p => Im.d (.tuple [.int p.1, .int p.2.1])) (fun p => decide (zs ne1 p.2.2.2.1 p.2.2.2.2 = trI p.2.2.1.1 p.2.2.1.2)) (by exact i_seqT (ds := [.tuple [.int 0, .int 1], .tuple [.int 0, .int 2], .tuple [.int 1, .int 2]]) (d_tup (a_consV (tp 0 1) (a_consV (tp 0 2) (a_consV (tp 1 2) a_nil))) (by simp)) kv_ne) (by simp) fun p hp => ?_)).to (by
      show PyData.bool (_ && (_ && (_ && true))) = _
      simp)) (.inr ⟨rfl, rfl⟩) (.inl rfl)
    have key : atI [tupD as, tupD bs, tupD cs] p.1 = some (tupD p.2.2.1.1) ∧ atI [tupD as, tupD bs, tupD cs] p.2.1 = some (tupD p.2.2.1.2) ∧ atI [tupD f, tupD g, tupD h] p.1 = some (tupD p.2.2.2.1) ∧ atI [tupD f, tupD g, tupD h] p.2.1 = some (tupD p.2.2.2.2) ∧ Alc p.2.2.1.1 v b ∧ Alc p.2.2.1.2 v b ∧ Asg p.2.2.2.1 v ∧ Asg p.2.2.2.2 v ∧ p.2.2.2.1.length = p.2.2.2.2.length := by
      simp only [List.mem_cons, List.not_mem_nil, or_false] at hp
      rcases hp with rfl | rfl | rfl
      · exact ⟨rfl, rfl, rfl, rfl, ha, hb, f1, g1, by simp only; omega⟩
      · exact ⟨rfl, rfl, rfl, rfl, ha, hc, f1, h1, by simp only; omega⟩
      · exact ⟨rfl, rfl, rfl, rfl, hb, hc, g1, h1, by simp only; omega⟩
    obtain ⟨k1, k2, k3, k4, k5, k6, k7, k8, k9⟩ := key
    exact ⟨_, _, g_tupD rfl (g_cons g_name (g_cons g_name g_nil)), fun j hj => hj, .v, d_call (k := .v) (a_cons (e_ixT (d_var rfl) (d_var rfl) k1 (flatT _)) (a_cons (e_ixT (d_var rfl) (d_var rfl) k2 (flatT _)) (a_cons (e_ixT (d_var rfl) (d_var rfl) k3 (flatT _)) (a_cons (e_ixT (d_var rfl) (d_var rfl) k4 (flatT _)) a_nil)))) ⟨p.2.2.1.1, p.2.2.1.2, p.2.2.2.1, p.2.2.2.2, v, b, rfl, k5, k6, k7, k8, k9, v1, v5, b20, rfl, rfl⟩⟩

theorem ok_accepts_three {P : Program} {w : World} {K : PySem.W.Frag} {mg : Str → Option Value} {base : Heap} {f : Addr} {fd : FuncData} (F : Fun K "accepts_three" "accepts_three" s_accepts_three f fd) (T : Txt mg) (c_medians : Cal P w K mg base CX0 5 "medians" p_medians (sp_medians K)) (c_is_table_of_three : Cal P w K mg base CX0 9 "is_table_of_three" p_is_table_of_three (sp_is_table_of_three K)) (c_are_integers : Cal P w K mg base CX0 2 "are_integers" p_are_integers (sp_are_integers K)) :
    FnOk P w K mg base CX0 10 f fd p_accepts_three (sp_accepts_three K) := by
  refine F.ok sc_accepts_three (fun vs H Q E h => spD_len h (by rintro ds k d ⟨as, bs, cs, v, b, x, rfl, _⟩; rfl)) (fun cdv A outer s H vs Q E hr h => ⟨_, (pss_cons (ps_set (i := 4) sc_accepts_three.nd rfl (Or.inl rfl) (pe_cal c_medians (hr.mono (by decide)) rfl pass0 (pa_cons (pv 0) (pa_cons (pv 1) (pa_cons (pv 2) pa_nil)))))
      (pss_cons (ps_if (PW.pt (pw_or (pt_not (pt_val (pe_callB (k_isi (K := K) rfl) rfl T.b_isinstance (by decide +kernel) (pa_cons (pv 3) (pa_cons (pe_ty (n := "tuple") rfl T.b_tuple (by decide +kernel)) pa_nil))))) (pw_or1 (pt_cmpR (k_ne (K := K) rfl (rUnits hr)) (pe_callB (k_len (K := K) rfl) rfl T.b_len (by decide +kernel) (pa_cons (pv 3) pa_nil)) pe_int (nomark _))))) (pss_one (ps_ret pe_bl)) pss_nil)
      (pss_cons (ps_asg (pv 3) (k_tupA (K := K) (n := 2) rfl rfl (pgs_cons (pg_name (i := 5) sc_accepts_three.nd rfl (Or.inl rfl)) (pgs_cons (pg_name (i := 6) sc_accepts_three.nd rfl (Or.inl rfl)) pgs_nil))))
      (pss_cons (ps_if (pt_cmpR (k_eq (K := K) rfl (rUnits hr)) (pv 5) pe_str (nomark _)) (pss_one (ps_ret (pe_and (pe_cal c_are_integers (hr.mono (by decide)) rfl pass0 (pa_cons (pv 6) (pa_cons pe_int (pa_cons (pe_const rfl T.k_MOST_BUCKETS) pa_nil)))) (pe_and (pe_cmpR (k_eq (K := K) rfl (rUnits hr)) (pv 6) (pv 4) (nomark _)) (pe_one (pe_cmpR op_gt (pe_callB (k_sum (K := K) rfl rfl) rfl T.b_sum (by decide +kernel) (pa_cons (pv 4) pa_nil)) (pe_callB (k_sum (K := K) rfl rfl) rfl T.b_sum (by decide +kernel) (pa_cons (pv 0) pa_nil)) (nomark _))))))) pss_nil)
      (pss_one (ps_ret (pe_and (pe_cmpR (k_eq (K := K) rfl (rUnits hr)) (pv 5) pe_str (nomark _)) (pe_one (pe_cal c_is_table_of_three (hr.mono (by decide)) rfl pass0 (pa_cons (pe_tupN (pa_cons (pv 0) (pa_cons (pv 1) (pa_cons (pv 2) pa_nil)))) (pa_cons (pv 6) pa_nil))))))))))), run_pure (N := n_accepts_three) (fun ds k d hp => ?_) h⟩)
  obtain ⟨as, bs, cs, v, b, x, rfl, ha, hb, hc, v1, v5, b20, rfl, hx⟩ := hp
  refine q_asg (d := tupD (medI as bs cs)) (d_call (k := .v) (a_cons (d_var rfl) (a_cons (d_var rfl) (a_cons (d_var rfl) a_nil))) ⟨as, bs, cs, v, b, rfl, ha, hb, hc, v1, v5, b20, rfl, rfl⟩) ?_
  rcases hx with ⟨w, y, sv, rfl, hw, hwb, hy, rfl⟩ | ⟨hn, hsm, rfl⟩
  · refine q_no (EvT.to (t_or (a := false) (b := false) (EvT.to (t_not (t_B (e_isi (d_var rfl) rfl))) rfl) fun _ => EvT.to (t_test (e_neI (d_lenT (d_var rfl)) d_int)) rfl) rfl) ?_
    refine q_unpV (m := 2) (fun d => d = .tuple [w, y]) rfl (d_var rfl).n ?_
    rintro d rfl
    refine ⟨_, _, _, rfl, rfl, g_cons g_name (g_cons g_name g_nil), ?_⟩
    have e1 : ∀ {Γ : List (Option Rs)} (s : Str), Γ[5]? = some (some (.v w)) → Ev (pc K) (tOp (rEqA K) (tVar 5) (tC (.str s))) Γ .v (.bool (decide (sv = .str s))) := fun s h => e_eqS (d_var h) d_str hw rfl (by cases sv <;> first | rfl | cases hwb) rfl
    unfold a3v
    by_cases q : sv = .str "medians"
    · rw [if_pos q]
      refine q_if (t_test (e1 "medians" rfl)) (fun _ => ?_) fun z => absurd q (of_decide_eq_false z)
      have e2 : Ev (pc K) (tCall (sp_are_integers K) [] E0 (tCons (tVar 6) (tCons (tC (.int 0)) (tCons (tC (.int 20)) tNil)))) ([some (.v (tupD as)), some (.v (tupD bs)), some (.v (tupD cs)), some (.v (.tuple [w, y])), some (.v (tupD (medI as bs cs))), some (.v w), some (.v y)]) .v (.bool (areInts y 0 20)) := d_call (k := .v) (a_cons (d_var rfl) (a_cons d_int (a_cons d_int a_nil))) ⟨y, 0, 20, rfl, hy.t', rfl, rfl⟩
      unfold medB
      cases z : areInts y 0 20 with
      | false =>
        rw [z] at e2
        exact q_ret (d_andV (b := (decide (intsD y = medI as bs cs) && decide (as.sum < (medI as bs cs).sum))) e2 fun w => by cases w) (.inr ⟨rfl, rfl⟩) (.inl rfl)
      | true =>
        rw [z] at e2
        obtain ⟨r, rfl, _⟩ := areInts_ints z
        exact q_ret (d_andV e2 fun _ => d_andV ((e_eqTT (d_var rfl) (d_var rfl)).to (by rw [show intsD (.tuple (r.map .int)) = r from intsD_tup r])) fun _ => d_gt (e_sumT (d_var rfl)) (e_sumT (d_var rfl))) (.inr ⟨rfl, rfl⟩) (.inl rfl)
    · rw [if_neg q]
      refine q_if (t_test (e1 "medians" rfl)) (fun z => absurd (of_decide_eq_true z) q) fun _ => q_next ?_
      exact s_ret (d_andV (e1 "table" rfl) fun _ => d_call (k := .v) (a_cons (d_tup (a_consV (d_var rfl) (a_consV (d_var rfl) (a_consV (d_var rfl) a_nil))) (by simp)) (a_cons (d_var rfl) a_nil)) ⟨as, bs, cs, v, b, y, rfl, ha, hb, hc, v1, v5, b20, hy, rfl, rfl⟩) (.inr ⟨rfl, rfl⟩) (.inl rfl)
  · cases x with
    | tuple es =>
      have hl : ¬ es.length = 2 := by simpa [nt2] using hn
      exact q_if (a := true) (EvT.to (t_or (a := false) (b := true) (EvT.to (t_not (t_B (e_isi (d_var rfl) rfl))) rfl) fun _ => EvT.to (t_test (e_neI (d_lenT (d_var rfl)) d_int)) (by simp; omega)) rfl) (fun _ => q_ret d_bl (.inr ⟨rfl, rfl⟩) (.inl rfl)) fun z => by cases z
    | _ => exact q_if (a := true) (EvT.to (t_or (a := true) (b := true) (EvT.to (t_not (t_B (e_isi (d_var rfl) (kit_tuple _)))) rfl) fun w => by cases w) rfl) (fun _ => q_ret d_bl (.inr ⟨rfl, rfl⟩) (.inl rfl)) fun z => by cases z

theorem ok_return_cost {P : Program} {w : World} {K : PySem.W.Frag} {mg : Str → Option Value} {base : Heap} {f : Addr} {fd : FuncData} (F : Fun K "return_cost" "return_cost" s_return_cost f fd) (T : Txt mg) (c_excess : Cal P w K mg base CX0 7 "excess" p_excess (sp_excess K)) (c_transfer : Cal P w K mg base CX0 5 "transfer" p_transfer (sp_transfer K)) :
    FnOk P w K mg base CX0 8 f fd p_return_cost (sp_return_cost K) := by
  refine F.ok sc_return_cost (fun vs H Q E h => spD_len h (by rintro ds k d ⟨as, bs, cs, v, b, rfl, _⟩; rfl)) (fun cdv A outer s H vs Q E hr h => ⟨_, (pss_cons (ps_set (i := 3) sc_return_cost.nd rfl (Or.inl rfl) (pe_cal c_excess (hr.mono (by decide)) rfl pass0 (pa_cons (pv 0) (pa_cons (pv 1) (pa_cons (pv 2) pa_nil)))))
      (pss_one (ps_ret (pe_op (k_add (K := K) rfl) (pe_cal c_transfer (hr.mono (by decide)) rfl pass0 (pa_cons (pv 0) (pa_cons (pv 2) pa_nil))) (pv 3))))), run_pure (N := n_return_cost) (fun ds k d hp => ?_) h⟩)
  obtain ⟨as, bs, cs, v, b, rfl, ha, hb, hc, v1, v5, b20, rfl, rfl⟩ := hp
  refine q_asg (d_call (k := .v) (a_cons (d_var rfl) (a_cons (d_var rfl) (a_cons (d_var rfl) a_nil))) ⟨as, bs, cs, v, b, rfl, ha, hb, hc, v1, v5, b20, rfl, rfl⟩) ?_
  exact s_ret (e_add (d_call (k := .v) (a_cons (d_var rfl) (a_cons (d_var rfl) a_nil)) ⟨as, cs, v, b, rfl, ha, hc, v1, v5, b20, rfl, rfl⟩) (d_var rfl)) (.inr ⟨rfl, rfl⟩) (.inl rfl)

theorem ok_returning_cores {P : Program} {w : World} {K : PySem.W.Frag} {mg : Str → Option Value} {base : Heap} {f : Addr} {fd : FuncData} (F : Fun K "returning_cores" "returning_cores" s_returning_cores f fd) (T : Txt mg) (c_excess : Cal P w K mg base CX0 7 "excess" p_excess (sp_excess K)) (c_medians : Cal P w K mg base CX0 5 "medians" p_medians (sp_medians K)) :
    FnOk P w K mg base CX0 8 f fd p_returning_cores (sp_returning_cores K) := by
  refine F.ok sc_returning_cores (fun vs H Q E h => spD_len h (by rintro ds k d ⟨as, bs, cs, v, b, rfl, _⟩; rfl)) (fun cdv A outer s H vs Q E hr h => ⟨_, (pss_cons (ps_set (i := 3) sc_returning_cores.nd rfl (Or.inl rfl) (pe_cal c_excess (hr.mono (by decide)) rfl pass0 (pa_cons (pv 0) (pa_cons (pv 1) (pa_cons (pv 2) pa_nil)))))
      (pss_cons (ps_set (i := 4) sc_returning_cores.nd rfl (Or.inl rfl) (pe_lst pa_nil))
      (pss_cons (ps_for PassesOwn.never rfl (k_enum (K := K) rfl rfl T.b_enumerate (pa_cons (pe_cal c_medians (hr.mono (by decide)) rfl pass0 (pa_cons (pv 0) (pa_cons (pv 1) (pa_cons (pv 2) pa_nil)))) pa_nil)) (k_tup (K := K) (n := 2) rfl rfl (pgs_cons (pg_name (i := 5) sc_returning_cores.nd rfl (Or.inl rfl)) (pgs_cons (pg_name (i := 6) sc_returning_cores.nd rfl (Or.inl rfl)) pgs_nil))) (pss_cons (ps_set (i := 7) sc_returning_cores.nd rfl (Or.inl rfl) (pe_callB (call_min2 rfl) rfl T.b_min (by decide +kernel) (pa_cons (pv 3) (pa_cons (pe_callB (call_max2 rfl) rfl T.b_max (by decide +kernel) (pa_cons (pe_op op_sub (pv 6) (pe_ix (k_ix (K := K) rfl) (pv 1) (pv 5) (fun _ _ => rfl))) (pa_cons pe_int pa_nil))) pa_nil))))
      (pss_cons (ps_expr (k_bm (K := K) rfl PySem.F.plainAttrs_list PySem.F.slot_list_append PySem.F.type_list_append mt_append (pv 4) (pa_cons (pe_op op_sub (pv 6) (pv 7)) pa_nil)))
      (pss_one (ps_aug (i := 3) sc_returning_cores.nd rfl (Or.inl rfl) (pv 7) ip_sub)))))
      (pss_one (ps_ret (pv 4)))))), run_pure (N := n_returning_cores) (fun ds k d hp => ?_) h⟩)
  obtain ⟨as, bs, cs, v, b, rfl, ha, hb, hc, v1, v5, b20, rfl, rfl⟩ := hp
  have la := ha.len
  have l1 := ha.lens hb
  have ml : (medI as bs cs).length = as.length := med_len
  refine q_asg (d := .int (exI as bs cs)) (d_call (k := .v) (a_cons (d_var rfl) (a_cons (d_var rfl) (a_cons (d_var rfl) a_nil))) ⟨as, bs, cs, v, b, rfl, ha, hb, hc, v1, v5, b20, rfl, rfl⟩) ?_
  refine q_asgO (d := .list (([] : List Int).map .int)) (d_lst (kv := false) (ds := []) a_nil rfl (by decide)) ?_
  refine q_for (i_enumTI (a_consV (d_call (k := .v) (d := tupD (medI as bs cs)) (a_cons (d_var rfl) (a_cons (d_var rfl) (a_cons (d_var rfl) a_nil))) ⟨as, bs, cs, v, b, rfl, ha, hb, hc, v1, v5, b20, rfl, rfl⟩) a_nil))
    (fun n Γ1 => ∃ t5 t6 t7 o acc, Γ1 = [some (.v (tupD as)), some (.v (tupD bs)), some (.v (tupD cs)), some (.v (.int o)), some (.o (.list (acc.map .int))), t5, t6, t7] ∧ acc.length = n ∧ acc ++ crsI o ((medI as bs cs).drop n) (bs.drop n) = retC as bs cs) ⟨_, _, _, exI as bs cs, [], rfl, rfl, rfl⟩ (fun n a Γ1 hn' hI => ?_) (fun Γ1 hI => ?_)
  · obtain ⟨t5, t6, t7, o, acc, rfl, hacc, heq⟩ := hI
    have hn : n < (medI as bs cs).length := by have := (List.getElem?_eq_some_iff.mp hn').1; simpa using this
    have ea : a = pairI ((medI as bs cs)[n], n) := by
      rw [List.getElem?_map, List.getElem?_zipIdx, List.getElem?_eq_getElem hn] at hn'
      simpa using hn'.symm
    subst ea
    have hnb : n < bs.length := by omega
    rw [List.drop_eq_getElem_cons hn, List.drop_eq_getElem_cons hnb] at heq
    have atB : atI (bs.map PyData.int) (n : Int) = some (.int bs[n]) := atI_nat (by simp [hnb])
    generalize (medI as bs cs)[n] = m at heq
    generalize bs[n] = s at heq atB
    refine ⟨_, _, g_tup rfl (g_cons g_name (g_cons g_name g_nil)), ?_⟩
    refine q_asg (d := .int (min o (max (m - s) 0))) ((e_min2 (d_var rfl) (e_max2 (d_sub (d_var rfl) (e_ixT (d_var rfl) (d_var rfl) atB rfl)) d_int)).to (by rw [max_py, min_py])) ?_
    refine s_seq1 (s_app (n := 4) rfl (d_sub (d_var rfl) (d_var rfl)) rfl (by simp; omega) rfl) ?_
    refine s_aug (n := 3) (f := fun i j => i - j) rfl (d_var rfl) (.inl ⟨_, .inl rfl, some (.v (.int (n : Int))), some (.v (.int m)), some (.v (.int (min o (max (m - s) 0)))), o - min o (max (m - s) 0), acc ++ [m - min o (max (m - s) 0)], ?_, by simp [hacc], ?_⟩)
    · rw [List.map_append]
      rfl
    · rw [← heq, List.append_assoc]
      rfl
  · obtain ⟨t5, t6, t7, o, acc, rfl, hacc, heq⟩ := hI
    have e : (medI as bs cs).drop (((medI as bs cs).zipIdx.map pairI).length) = [] := by simp
    rw [e] at heq
    have : acc = retC as bs cs := by rw [← heq]; simp [crsI]
    subst this
    exact s_retO rfl (.inl rfl)

theorem ok_returned {P : Program} {w : World} {K : PySem.W.Frag} {mg : Str → Option Value} {base : Heap} {f : Addr} {fd : FuncData} (F : Fun K "returned" "returned" s_returned f fd) (T : Txt mg) (c_returning_cores : Cal P w K mg base CX0 8 "returning_cores" p_returning_cores (sp_returning_cores K)) (c_require : Cal P w K mg base CX0 1 "require" p_require (sp_require K)) (c_is_assignment_of : Cal P w K mg base CX0 6 "is_assignment_of" p_is_assignment_of (sp_is_assignment_ofB K)) (c_laid_out : Cal P w K mg base CX0 1 "laid_out" p_laid_out (sp_laid_out K)) (c_buckets_of : Cal P w K mg base CX0 5 "buckets_of" p_buckets_of (sp_buckets_of K)) :
    FnOk P w K mg base CX0 9 f fd p_returned (sp_returned K) := by
  refine F.ok sc_returned (fun vs H Q E h => spD_len h (by rintro ds k d ⟨as, bs, cs, f, v, b, rfl, _⟩; rfl)) (fun cdv A outer s H vs Q E hr h => ⟨_, (pss_cons (ps_set (i := 4) sc_returned.nd rfl (Or.inl rfl) (pe_cal c_returning_cores (hr.mono (by decide)) rfl pass0 (pa_cons (pv 0) (pa_cons (pv 1) (pa_cons (pv 2) pa_nil)))))
      (pss_cons (ps_expr (pe_cal c_require (hr.mono (by decide)) rfl pass0 (pa_cons (pe_cal c_is_assignment_of (hr.mono (by decide)) rfl pass0 (pa_cons (pv 3) (pa_cons (pv 0) pa_nil))) (pa_cons pe_str pa_nil))))
      (pss_cons (ps_asg (pe_tupN (pa_cons (pe_cal c_laid_out (hr.mono (by decide)) rfl pass0 (pa_cons (pv 0) (pa_cons (pv 4) pa_nil))) (pa_cons (pe_cal c_laid_out (hr.mono (by decide)) rfl pass0 (pa_cons (pv 1) (pa_cons (pv 4) pa_nil))) (pa_cons (pe_cal c_laid_out (hr.mono (by decide)) rfl pass0 (pa_cons (pv 2) (pa_cons (pv 4) pa_nil))) pa_nil)))) (k_tupA (K := K) (n := 3) rfl rfl (pgs_cons (pg_name (i := 5) sc_returned.nd rfl (Or.inr rfl)) (pgs_cons (pg_name (i := 6) sc_returned.nd rfl (Or.inr rfl)) (pgs_cons (pg_name (i := 7) sc_returned.nd rfl (Or.inr rfl)) pgs_nil)))))
      (pss_cons (ps_set (i := 8) sc_returned.nd rfl (Or.inr rfl) (pe_lc rfl sc_returned.nd (pi_range1 rfl T.b_range (pa_cons (pe_callB (k_len (K := K) rfl) rfl T.b_len (by decide +kernel) (pa_cons (pv 0) pa_nil)) pa_nil)) (blkOk_by (own := [("variant", 9)]) (N := n_returned) (sc := defScope s_returned) (by decide +kernel)) (fun _ _ _ _ _ => by exact (pg_name (i := 9) sc_returned.nd rfl (Or.inl rfl))) (fun _ _ _ _ _ => by exact pts_nil) (fun _ _ _ _ _ => by exact (pe_cal c_buckets_of (hr.mono (by decide)) rfl pass0 (pa_cons (pv 5) (pa_cons (pv 9) pa_nil))))))
      (pss_cons (ps_setLc (i := 10) rfl sc_returned.nd rfl rfl (sw_true rfl rfl rfl (by decide +kernel)) (k_seq (K := K) rfl (pv 3)) (blkOk_by (own := [("variant", 9)]) (N := n_returned) (sc := defScope s_returned) (by decide +kernel)) (fun _ _ _ _ _ => by exact (pg_name (i := 9) sc_returned.nd rfl (Or.inl rfl))) (fun _ _ _ _ _ => by exact pts_nil) (fun _ _ _ _ _ => by exact (k_bm (K := K) rfl PySem.F.plainAttrs_list PySem.F.slot_list_pop PySem.F.type_list_pop mt_popAt (pe_ix (k_ix (K := K) rfl) (pv 8) (pv 9) (fun _ _ => rfl)) (pa_cons pe_int pa_nil))))
      (pss_one (ps_ret (pe_tupN (pa_cons (pe_callTy (k_tuple (K := K) rfl) rfl T.b_tuple (by decide +kernel) (pa_cons (pe_lc rfl sc_returned.nd (k_seq (K := K) rfl (pv 10)) (blkOk_by (own := [("place", 11)]) (N := n_returned) (sc := defScope s_returned) (by decide +kernel)) (fun _ _ _ _ _ => by exact (pg_name (i := 11) sc_returned.nd rfl (Or.inl rfl))) (fun _ _ _ _ _ => by exact pts_nil) (fun _ _ _ _ _ => by exact (pe_ix (k_ix (K := K) rfl) (pv 6) (pv 11) (fun _ _ => rfl)))) pa_nil)) (pa_cons (pe_callTy (k_tuple (K := K) rfl) rfl T.b_tuple (by decide +kernel) (pa_cons (pe_lc rfl sc_returned.nd (k_seq (K := K) rfl (pv 10)) (blkOk_by (own := [("place", 11)]) (N := n_returned) (sc := defScope s_returned) (by decide +kernel)) (fun _ _ _ _ _ => by exact (pg_name (i := 11) sc_returned.nd rfl (Or.inl rfl))) (fun _ _ _ _ _ => by exact pts_nil) (fun _ _ _ _ _ => by exact (pe_ix (k_ix (K := K) rfl) (pv 7) (pv 11) (fun _ _ => rfl)))) pa_nil)) pa_nil)))))))))), run_pure (N := n_returned) (fun ds k d hp => ?_) h⟩)
  obtain ⟨as, bs, cs, f, v, b, rfl, ha, hb, hc, v1, v5, b20, hf, hfl, hfc, rfl, rfl⟩ := hp
  have la := ha.len
  obtain ⟨c1, c2, c3⟩ := Crs.ret ha hb hc
  have o1 := lay_ok c1 b20 (by omega)
  have n1 := lay_len c1
  have n2 := lay_len c2
  have n3 := lay_len c3
  obtain ⟨po, pord, _⟩ := plc_ok ha hb hc v1 b20 hf hfl hfc
  refine q_asgO (d := .list ((retC as bs cs).map .int)) (d_call (k := .o) (a_cons (d_var rfl) (a_cons (d_var rfl) (a_cons (d_var rfl) a_nil))) ⟨as, bs, cs, v, b, rfl, ha, hb, hc, v1, v5, b20, rfl, rfl⟩) ?_
  refine q_drop (d_call (k := .v) (a_cons ((d_call (k := .v) (a_cons (d_var rfl) (a_cons (d_var rfl) a_nil)) ⟨tupD f, as, v, b, rfl, hf.small, ha, v1, v5, b20, rfl, rfl⟩).to (y := .bool true) (by rw [aso_tup ha, decide_eq_true ⟨hfl, hf.rng, hfc⟩])) (a_cons d_str a_nil)) ⟨"assignment", rfl, rfl, rfl⟩) ?_
  refine s_freeze (n := 4) rfl ?_
  have lay : ∀ {Γ : List (Option Rs)} {i : Nat} {xs : List Int}, Γ[i]? = some (some (.v (tupD xs))) → Γ[4]? = some (some (.v (.list ((retC as bs cs).map .int)))) → Crs xs (retC as bs cs) v b → Ev (pc K) (tCall (sp_laid_out K) [] E0 (tCons (tVar i) (tCons (tVar 4) tNil))) Γ .v (tupD (layI xs (retC as bs cs))) := fun h1 h2 hx => d_call (k := .v) (a_cons (d_var h1) (a_cons (d_var h2) a_nil)) ⟨_, retC as bs cs, v, b, _, rfl, .inr rfl, hx, v1, v5, b20, rfl, rfl⟩
  refine q_unp (fun d => d = .tuple [tupD (layI as (retC as bs cs)), tupD (layI bs (retC as bs cs)), tupD (layI cs (retC as bs cs))]) (d_tup (a_consV (lay rfl rfl c1) (a_consV (lay rfl rfl c2) (a_consV (lay rfl rfl c3) a_nil))) (by simp)).n ?_
  rintro d rfl
  refine ⟨_, _, _, .inl rfl, fl_rows [layI as (retC as bs cs), layI bs (retC as bs cs), layI cs (retC as bs cs)], rfl, g_cons g_name (g_cons g_name (g_cons g_name g_nil)), ?_⟩
  show Sd (pc K) _ [some (.v (tupD as)), some (.v (tupD bs)), some (.v (tupD cs)), some (.v (tupD f)), some (.v (.list ((retC as bs cs).map .int))), some (.v (tupD (layI as (retC as bs cs)))), some (.v (tupD (layI bs (retC as bs cs)))), some (.v (tupD (layI cs (retC as bs cs)))), none, none, none, none] _
  refine q_asgO (d := .list ((wtL (layI as (retC as bs cs)) as.length).map fun r => .list (r.map .int))) ((d_lcA (l := List.range as.length) (en := fun i : Nat => Im.d (.int (i : Int))) (fun i : Nat => .list ((placesI (layI as (retC as bs cs)) (i : Int)).map .int)) (i_rngN (n := as.length) (a_cons ((d_lenT (d_var rfl)).to (by rw [List.length_map])) a_nil) (by omega)) (by simp; omega) fun i hi => ⟨_, _, g_name, fun j hj => hj, d_call (k := .o) (a_cons (d_var rfl) (a_cons (d_var rfl) a_nil)) ⟨layI as (retC as bs cs), (i : Int), rfl, o1.1.wide v5, by omega, by have := List.mem_range.mp hi; omega, rfl, rfl⟩⟩).to (by unfold wtL; rw [List.map_map]; rfl)) ?_
  refine q_popRows (m := 8) (s := 3) (j := 9) (n := 10) rfl rfl rfl (by decide) (by decide) (by simp) po (by have := hf.len; omega) ?_
  show Sd (pc K) _ [some (.v (tupD as)), some (.v (tupD bs)), some (.v (tupD cs)), some (.v (tupD f)), some (.v (.list ((retC as bs cs).map .int))), some (.v (tupD (layI as (retC as bs cs)))), some (.v (tupD (layI bs (retC as bs cs)))), some (.v (tupD (layI cs (retC as bs cs)))), none, none, some (.o (.list ((plcX as bs cs f).map .int))), none] _
  have pl : (plcX as bs cs f).length = b.toNat := by have := pord.len; have := ha.b0; omega
  have row : ∀ {i : Nat} {G : List Int}, (i = 6 ∨ i = 7) → [some (Rs.v (tupD as)), some (.v (tupD bs)), some (.v (tupD cs)), some (.v (tupD f)), some (.v (.list ((retC as bs cs).map .int))), some (.v (tupD (layI as (retC as bs cs)))), some (.v (tupD (layI bs (retC as bs cs)))), some (.v (tupD (layI cs (retC as bs cs)))), none, none, some (.o (.list ((plcX as bs cs f).map .int))), none][i]? = some (some (.v (tupD G))) → (G.length : Int) = b →
      Ev (pc K) (tCB (rTuple K) (tCons (tLc (iSeq K (tVar 10)) (gName 11) tYes (tOp (rIx K) (tVar i) (tVar 11)) [11]) tNil)) [some (Rs.v (tupD as)), some (.v (tupD bs)), some (.v (tupD cs)), some (.v (tupD f)), some (.v (.list ((retC as bs cs).map .int))), some (.v (tupD (layI as (retC as bs cs)))), some (.v (tupD (layI bs (retC as bs cs)))), some (.v (tupD (layI cs (retC as bs cs)))), none, none, some (.o (.list ((plcX as bs cs f).map .int))), none] .v (tupD (rtd as bs cs f G)) := fun {i G} hi hG lG => by
    refine d_tuple (ds := (rtd as bs cs f G).map .int) (d_lcI (l := plcX as bs cs f) (en := imI) (fun q => G.getD q.toNat 0) (i_seqLIB (d_varO rfl)) (by omega) fun q hq => ?_) (flatAll_ints _)
    have rq := pord.rng q hq
    obtain ⟨j, rfl⟩ := Int.eq_ofNat_of_zero_le rq.1
    have at1 : atI (G.map PyData.int) (j : Int) = some (.int (G.getD (j : Int).toNat 0)) := at_ints (by omega)
    refine ⟨_, _, g_name, fun j hj => hj, .v, e_ixT (ds := G.map .int) (d_var ?_) (d_var rfl) at1 rfl⟩
    rcases hi with rfl | rfl <;> exact hG
  exact s_ret (d_tup (a_consV (row (.inl rfl) rfl n2) (a_consV (row (.inr rfl) rfl n3) a_nil)) (by simp)) (.inr ⟨rfl, fl_rows [rtd as bs cs f (layI bs (retC as bs cs)), rtd as bs cs f (layI cs (retC as bs cs))]⟩) (.inl rfl)

theorem ok_accepts_return {P : Program} {w : World} {K : PySem.W.Frag} {mg : Str → Option Value} {base : Heap} {f : Addr} {fd : FuncData} (F : Fun K "accepts_return" "accepts_return" s_accepts_return f fd) (T : Txt mg) (c_return_cost : Cal P w K mg base CX0 8 "return_cost" p_return_cost (sp_return_cost K)) (c_are_assignments_of : Cal P w K mg base CX0 7 "are_assignments_of" p_are_assignments_of (sp_are_assignments_ofB K)) (c_churn : Cal P w K mg base CX0 7 "churn" p_churn (sp_churn K)) (c_is_least : Cal P w K mg base CX0 8 "is_least" p_is_least (sp_is_least K)) :
    FnOk P w K mg base CX0 9 f fd p_accepts_return (sp_accepts_return K) := by
  refine F.ok sc_accepts_return (fun vs H Q E h => spD_len h (by rintro ds k d ⟨as, bs, cs, v, b, x, rfl, _⟩; rfl)) (fun cdv A outer s H vs Q E hr h => ⟨_, (pss_cons (ps_set (i := 4) sc_accepts_return.nd rfl (Or.inl rfl) (pe_cal c_return_cost (hr.mono (by decide)) rfl pass0 (pa_cons (pv 0) (pa_cons (pv 1) (pa_cons (pv 2) pa_nil)))))
      (pss_cons (ps_if (pt_not (pt_val (pe_cal c_are_assignments_of (hr.mono (by decide)) rfl pass0 (pa_cons (pv 3) (pa_cons (pe_tupN (pa_cons (pv 0) (pa_cons (pv 1) (pa_cons (pv 2) pa_nil)))) pa_nil))))) (pss_one (ps_ret pe_bl)) pss_nil)
      (pss_cons (ps_asg (pv 3) (k_tupA (K := K) (n := 3) rfl rfl (pgs_cons (pg_name (i := 5) sc_accepts_return.nd rfl (Or.inl rfl)) (pgs_cons (pg_name (i := 6) sc_accepts_return.nd rfl (Or.inl rfl)) (pgs_cons (pg_name (i := 7) sc_accepts_return.nd rfl (Or.inl rfl)) pgs_nil)))))
      (pss_cons (ps_if (PW.pt (pw_or (pt_not (pt_val (pe_cal c_is_least (hr.mono (by decide)) rfl pass0 (pa_cons (pv 0) (pa_cons (pv 1) (pa_cons (pv 5) (pa_cons (pv 6) pa_nil))))))) (pw_or1 (pt_not (pt_val (pe_cal c_is_least (hr.mono (by decide)) rfl pass0 (pa_cons (pv 1) (pa_cons (pv 2) (pa_cons (pv 6) (pa_cons (pv 7) pa_nil)))))))))) (pss_one (ps_ret pe_bl)) pss_nil)
      (pss_one (ps_ret (pe_cmpR (k_eq (K := K) rfl (rUnits hr)) (pe_cal c_churn (hr.mono (by decide)) rfl pass0 (pa_cons (pv 5) (pa_cons (pv 7) pa_nil))) (pv 4) (nomark _)))))))), run_pure (N := n_accepts_return) (fun ds k d hp => ?_) h⟩)
  obtain ⟨as, bs, cs, v, b, x, rfl, ha, hb, hc, v1, v5, b20, hs, rfl, rfl⟩ := hp
  refine q_asg (d := .int (trI as cs + exI as bs cs)) (d_call (k := .v) (a_cons (d_var rfl) (a_cons (d_var rfl) (a_cons (d_var rfl) a_nil))) ⟨as, bs, cs, v, b, rfl, ha, hb, hc, v1, v5, b20, rfl, rfl⟩) ?_
  refine q_if (t_not (t_B (d_call (k := .v) (d := .bool (asosB x [as, bs, cs])) (a_cons (d_var rfl) (a_cons (d_tup (a_consV (d_var rfl) (a_consV (d_var rfl) (a_consV (d_var rfl) a_nil))) (by simp)) a_nil)) ⟨x, [as, bs, cs], v, b, rfl, hs, by
    intro a ha'
    simp only [List.mem_cons, List.not_mem_nil, or_false] at ha'
    rcases ha' with rfl | rfl | rfl <;> assumption, by simp, v1, v5, b20, rfl, rfl⟩))) (fun w => ?_) fun w => q_next ?_
  · have e : accRB as bs cs x = false := by
      unfold accRB
      rw [show asosB x [as, bs, cs] = false by simpa using w]; rfl
    rw [e]
    exact q_ret d_bl (.inr ⟨rfl, rfl⟩) (.inl rfl)
  · have w : asosB x [as, bs, cs] = true := by simpa using w
    obtain ⟨f, g, h, rfl, ⟨f1, f2, f3⟩, ⟨g1, g2, g3⟩, ⟨h1, h2, h3⟩⟩ := asos3 ha hb hc b20 w
    have e : accRB as bs cs (.tuple [tupD f, tupD g, tupD h]) = ((decide (zs ne1 f g = trI as bs) && decide (zs ne1 g h = trI bs cs)) && decide (zs ne1 f h = trI as cs + exI as bs cs)) := by
      unfold accRB
      rw [w, Bool.true_and]
      rw [show intsD (itD (.tuple [tupD f, tupD g, tupD h]) 0) = f from intsD_tup f, show intsD (itD (.tuple [tupD f, tupD g, tupD h]) 1) = g from intsD_tup g, show intsD (itD (.tuple [tupD f, tupD g, tupD h]) 2) = h from intsD_tup h]
    rw [e]
    refine q_unp (fun d => d = .tuple [tupD f, tupD g, tupD h]) (d_var rfl).n ?_
    rintro d rfl
    refine ⟨_, _, _, .inl rfl, fl_rows [f, g, h], rfl, g_cons g_name (g_cons g_name (g_cons g_name g_nil)), ?_⟩
    refine q_if (t_or (a := !decide (zs ne1 f g = trI as bs)) (b := !decide (zs ne1 g h = trI bs cs)) (t_not (t_B (d_call (k := .v) (a_cons (d_var rfl) (a_cons (d_var rfl) (a_cons (d_var rfl) (a_cons (d_var rfl) a_nil)))) ⟨as, bs, f, g, v, b, rfl, ha, hb, f1, g1, by omega, v1, v5, b20, rfl, rfl⟩))) fun _ => t_not (t_B (d_call (k := .v) (a_cons (d_var rfl) (a_cons (d_var rfl) (a_cons (d_var rfl) (a_cons (d_var rfl) a_nil)))) ⟨bs, cs, g, h, v, b, rfl, hb, hc, g1, h1, by omega, v1, v5, b20, rfl, rfl⟩))) (fun q => ?_) fun q => q_next ?_
    · have e2 : ((decide (zs ne1 f g = trI as bs) && decide (zs ne1 g h = trI bs cs)) && decide (zs ne1 f h = trI as cs + exI as bs cs)) = false := by
        revert q
        cases decide (zs ne1 f g = trI as bs) <;> cases decide (zs ne1 g h = trI bs cs) <;> simp
      rw [e2]
      exact q_ret d_bl (.inr ⟨rfl, rfl⟩) (.inl rfl)
    · have e2 : ((decide (zs ne1 f g = trI as bs) && decide (zs ne1 g h = trI bs cs)) && decide (zs ne1 f h = trI as cs + exI as bs cs)) = decide (zs ne1 f h = trI as cs + exI as bs cs) := by
        revert q
        cases decide (zs ne1 f g = trI as bs) <;> cases decide (zs ne1 g h = trI bs cs) <;> simp
      rw [e2]
      exact s_ret (e_eqI (d_call (k := .v) (a_cons (d_var rfl) (a_cons (d_var rfl) a_nil)) ⟨f, h, rfl, f1.wide v5, h1.wide v5, by omega, rfl, rfl⟩) (d_var rfl)) (.inr ⟨rfl, rfl⟩) (.inl rfl)

theorem ok_lies_between {P : Program} {w : World} {K : PySem.W.Frag} {mg : Str → Option Value} {base : Heap} {f : Addr} {fd : FuncData} (F : Fun K "lies_between" "lies_between" s_lies_between f fd) (T : Txt mg) (c_check_allocation : Cal P w K mg base CX0 4 "check_allocation" p_check_allocation (sp_check_allocation K)) (c_check_alike : Cal P w K mg base CX0 4 "check_alike" p_check_alike (sp_check_alike K)) (c_transfer : Cal P w K mg base CX0 5 "transfer" p_transfer (sp_transfer K)) :
    FnOk P w K mg base CX0 6 f fd p_lies_between (sp_lies_between K) := by
  refine F.ok sc_lies_between (fun vs H Q E h => spD_len h (by rintro ds k d ⟨m, x, y, v, b, rfl, _⟩; rfl)) (fun cdv A outer s H vs Q E hr h => ⟨_, (pss_cons (ps_expr (pe_cal c_check_allocation (hr.mono (by decide)) rfl pass0 (pa_cons (pv 0) (pa_cons pe_str pa_nil))))
      (pss_cons (ps_expr (pe_cal c_check_alike (hr.mono (by decide)) rfl pass0 (pa_cons (pv 1) (pa_cons (pv 0) (pa_cons pe_str pa_nil)))))
      (pss_cons (ps_expr (pe_cal c_check_alike (hr.mono (by decide)) rfl pass0 (pa_cons (pv 2) (pa_cons (pv 0) (pa_cons pe_str pa_nil)))))
      (pss_one (ps_ret (pe_cmpR (k_eq (K := K) rfl (rUnits hr)) (pe_op (k_add (K := K) rfl) (pe_cal c_transfer (hr.mono (by decide)) rfl pass0 (pa_cons (pv 1) (pa_cons (pv 0) pa_nil))) (pe_cal c_transfer (hr.mono (by decide)) rfl pass0 (pa_cons (pv 0) (pa_cons (pv 2) pa_nil)))) (pe_cal c_transfer (hr.mono (by decide)) rfl pass0 (pa_cons (pv 1) (pa_cons (pv 2) pa_nil))) (nomark _))))))), run_pure (N := n_lies_between) (fun ds k d hp => ?_) h⟩)
  obtain ⟨m, x, y, v, b, rfl, hm, hx, hy, h1, h5, h20, rfl, rfl⟩ := hp
  refine q_drop (d_call (a_cons (d_var rfl) (a_cons d_str a_nil)) ⟨m, v, b, "middle", rfl, hm, h1, h5, h20, rfl, rfl⟩) ?_
  refine q_drop (d_call (a_cons (d_var rfl) (a_cons (d_var rfl) (a_cons d_str a_nil))) ⟨x, m, v, b, "first", rfl, hx, hm, by omega, rfl, rfl⟩) ?_
  refine q_drop (d_call (a_cons (d_var rfl) (a_cons (d_var rfl) (a_cons d_str a_nil))) ⟨y, m, v, b, "second", rfl, hy, hm, by omega, rfl, rfl⟩) ?_
  exact s_ret (e_eqI (e_add (d_call (k := .v) (a_cons (d_var rfl) (a_cons (d_var rfl) a_nil)) ⟨x, m, v, b, rfl, hx, hm, h1, h5, h20, rfl, rfl⟩) (d_call (k := .v) (a_cons (d_var rfl) (a_cons (d_var rfl) a_nil)) ⟨m, y, v, b, rfl, hm, hy, h1, h5, h20, rfl, rfl⟩)) (d_call (k := .v) (a_cons (d_var rfl) (a_cons (d_var rfl) a_nil)) ⟨x, y, v, b, rfl, hx, hy, h1, h5, h20, rfl, rfl⟩)) (.inr ⟨rfl, rfl⟩) (.inl rfl)

theorem ok_bridge {P : Program} {w : World} {K : PySem.W.Frag} {mg : Str → Option Value} {base : Heap} {f : Addr} {fd : FuncData} (F : Fun K "bridge" "bridge" s_bridge f fd) (T : Txt mg) (c_medians : Cal P w K mg base CX0 5 "medians" p_medians (sp_medians K)) (c_surplus : Cal P w K mg base CX0 6 "surplus" p_surplus (sp_surplus K)) :
    FnOk P w K mg base CX0 7 f fd p_bridge (sp_bridge K) := by
  refine F.ok sc_bridge (fun vs H Q E h => spD_len h (by rintro ds k d ⟨as, bs, cs, v, b, rfl, _⟩; rfl)) (fun cdv A outer s H vs Q E hr h => ⟨_, (pss_cons (ps_if (pt_cmpR (k_ne (K := K) rfl (rUnits hr)) (pe_cal c_surplus (hr.mono (by decide)) rfl pass0 (pa_cons (pv 0) (pa_cons (pv 1) (pa_cons (pv 2) pa_nil)))) pe_int (nomark _)) (pss_one (ps_ret pe_non)) pss_nil)
      (pss_one (ps_ret (pe_cal c_medians (hr.mono (by decide)) rfl pass0 (pa_cons (pv 0) (pa_cons (pv 1) (pa_cons (pv 2) pa_nil))))))), run_pure (N := n_bridge) (fun ds k d hp => ?_) h⟩)
  obtain ⟨as, bs, cs, v, b, rfl, ha, hb, hc, h1, h5, h20, rfl, rfl⟩ := hp
  refine q_if (t_test (e_neI (d_call (k := .v) (a_cons (d_var rfl) (a_cons (d_var rfl) (a_cons (d_var rfl) a_nil))) ⟨as, bs, cs, v, b, rfl, ha, hb, hc, h1, h5, h20, rfl, rfl⟩) d_int)) (fun w => ?_) fun w => q_next ?_
  · have w' : ¬ suI as bs cs = 0 := by simpa using w
    refine q_ret (d_non.to ?_) (.inr ⟨rfl, ?_⟩) (.inl rfl)
    · unfold brD; rw [if_neg w']
    · unfold brD; rw [if_neg w']; rfl
  · have w' : suI as bs cs = 0 := by simpa using w
    refine s_ret ((d_call (k := .v) (a_cons (d_var rfl) (a_cons (d_var rfl) (a_cons (d_var rfl) a_nil))) ⟨as, bs, cs, v, b, rfl, ha, hb, hc, h1, h5, h20, rfl, rfl⟩).to ?_) (.inr ⟨rfl, ?_⟩) (.inl rfl)
    · unfold brD; rw [if_pos w']
    · unfold brD; rw [if_pos w']; exact flatT _

theorem ok__law_stream {P : Program} {w : World} {K : PySem.W.Frag} {mg : Str → Option Value} {base : Heap} {f : Addr} {fd : FuncData} (F : Fun K "_law_stream" "_law_stream" s__law_stream f fd) (T : Txt mg) :
    FnOk P w K mg base CX0 1 f fd p__law_stream (sp__law_stream K) := by
  refine F.ok sc__law_stream (fun vs H Q E h => by obtain ⟨a, ns, rfl, _⟩ := h; rfl) (fun cdv A outer s H vs Q E hr h => ⟨_, (pss_one (ps_ret (pe_lst (pa_cons (pe_callTy (k_list (K := K) rfl) rfl T.b_list (by decide +kernel) (pa_cons (pv 0) pa_nil)) (pa_cons pe_int (pa_cons pe_int pa_nil)))))), ?_⟩)
  obtain ⟨a, ns, rfl, hS, hl, k⟩ := h
  refine ⟨_, rfl, a, _, rfl, .inl hS, fun l hl => ⟨(by show 3 ≤ sizeLine; decide), fun st hst => ?_⟩⟩
  have nls : l ≠ st := fun z => by rw [z, upd_same] at hst; cases hst
  have hs0 : H st = none := by rw [← upd_ne (H := H) (o := .lst (ns.map V.int)) nls.symm]; exact hst
  refine k st l _ (fun b o z => ?_) hs0 ⟨ns, 0, 0, upd_same, by rw [upd_ne nls, upd_same], nls, by decide⟩
  rw [upd_ne (ne_of_none z hs0), upd_ne (ne_of_none z hl)]
  exact z

theorem ok__law_next {P : Program} {w : World} {K : PySem.W.Frag} {mg : Str → Option Value} {base : Heap} {f : Addr} {fd : FuncData} (F : Fun K "_law_next" "_law_next" s__law_next f fd) (T : Txt mg) :
    FnOk P w K mg base CX0 1 f fd p__law_next (sp__law_next K) := by
  refine F.ok sc__law_next (fun vs H Q E h => spS_len h (by rintro ds k P ⟨m, rfl, _⟩; rfl)) (fun cdv A outer s H vs Q E hr h => ⟨_, (Evl.pss_cut (ps_if (pt_cmpR (k_eq (K := K) rfl (rUnits hr)) (pe_ix (k_ix (K := K) rfl) (pv 0) pe_int (fun _ _ => rfl)) pe_int (nomark _)) (pss_cons (ps_set (i := 2) sc__law_next.nd rfl (Or.inl rfl) (pe_ix (k_ix (K := K) rfl) (pv 0) pe_int (fun _ _ => rfl)))
      (pss_cons (ps_set (i := 3) sc__law_next.nd rfl (Or.inl rfl) (pe_op (k_add (K := K) rfl) pe_int (pv 2)))
      (Evl.pss_cut (ps_if (pt_cmpR op_lt (pv 2) (pe_callB (k_len (K := K) rfl) rfl T.b_len (by decide +kernel) (pa_cons (pe_ix (k_ix (K := K) rfl) (pv 0) pe_int (fun _ _ => rfl)) pa_nil)) (nomark _)) (pss_one (ps_set (i := 3) sc__law_next.nd rfl (Or.inl rfl) (pe_callB call_abs rfl T.b_abs (by decide +kernel) (pa_cons (pe_ix (k_ix (K := K) rfl) (pe_ix (k_ix (K := K) rfl) (pv 0) pe_int (fun _ _ => rfl)) (pv 2) (fun _ _ => rfl)) pa_nil)))) pss_nil)
      (Evl.pss_cut (ps_if (pt_cmpR op_lt (pv 3) (pe_op op_pow pe_int pe_int) (nomark _)) (pss_cons (ps_set (i := 3) sc__law_next.nd rfl (Or.inl rfl) (pe_op op_mod (pe_callTy call_int1 rfl T.b_int (by decide +kernel) (pa_cons (pe_op (k_add (K := K) rfl) (pe_op (k_add (K := K) rfl) (pe_op op_mulA (pv 3) pe_int) (pe_op op_mulA (pv 2) pe_int)) pe_int) pa_nil)) pe_int))
      (pss_one (ps_set (i := 3) sc__law_next.nd rfl (Or.inl rfl) (pe_op (k_add (K := K) rfl) (pe_op op_mulA (pe_op op_mod (pe_callTy call_int1 rfl T.b_int (by decide +kernel) (pa_cons (pe_op (k_add (K := K) rfl) (pe_op op_mulA (pv 3) pe_int) pe_int) pa_nil)) pe_int) pe_int) (pv 3))))) pss_nil)
      (pss_cons (ps_asg (pv 3) (pg_sub (pv 0) pe_int set_list))
      (pss_one (ps_asg (pe_op (k_add (K := K) rfl) (pv 2) pe_int) (pg_sub (pv 0) pe_int set_list)))))))) pss_nil)
      (pss_cons (ps_set (i := 4) sc__law_next.nd rfl (Or.inl rfl) (pe_op op_mod (pe_callTy call_int1 rfl T.b_int (by decide +kernel) (pa_cons (pe_ix (k_ix (K := K) rfl) (pv 0) pe_int (fun _ _ => rfl)) pa_nil)) (pv 1)))
      (pss_cons (ps_asg (pe_op op_fdiv (pe_ix (k_ix (K := K) rfl) (pv 0) pe_int (fun _ _ => rfl)) (pv 1)) (pg_sub (pv 0) pe_int set_list))
      (pss_one (ps_ret (pv 4)))))), ?_⟩)
  obtain ⟨st, l, vs', ds, kd, P', rfl, hst, hb, ⟨m, rfl, hm, hm2, rfl, rfl⟩, hq⟩ := h
  obtain ⟨mv, rfl, bm⟩ := hb.one
  have em := bm.int'
  subst em
  obtain ⟨ns, x, k, h1, h2, h3, h4⟩ := hst
  -- behind the first if the stream's cell is any int
  refine ⟨fun σ H1 => ∃ (a b c : Option V) (x k : Int), σ = [some (.ref st), some (.int m), a, b, c] ∧ H1 st = some (.lst [.ref l, .int x, .int k]) ∧ H1 l = some (.lst (ns.map V.int)) ∧ 0 ≤ k ∧ ∀ a o, a ≠ st → H a = some o → H1 a = some o, ?_, ?_⟩
  · refine ⟨_, rfl, .inl ⟨st, _, 1, .int x, rfl, rfl, .inl (.inl h1), rfl, .inl ⟨rfl, _, rfl, ?_⟩⟩⟩
    refine ite2 (fun _ => ?_) (fun _ => ⟨_, _, _, x, k, rfl, h1, h2, h4, fun _ _ _ z => z⟩)
    refine ⟨_, rfl, .inl ⟨st, _, 2, .int k, rfl, rfl, .inl (.inl h1), rfl, ?_⟩⟩
    refine ⟨_, rfl, .inl ⟨7, k, rfl, rfl, ?_⟩⟩
    refine ⟨fun σ H1 => H1 = H ∧ ∃ z : Int, σ = [some (.ref st), some (.int m), some (.int k), some (.int z), none], ?_, ?_⟩
    · refine ⟨_, rfl, _, rfl, .inl ⟨st, _, 0, .ref l, rfl, rfl, .inl (.inl h1), rfl, ⟨l, _, rfl, .inl (.inl (.inl h2)), k, _, rfl, rfl, _, rfl, ?_⟩⟩⟩
      refine ite2 (fun hk => ?_) (fun _ => ⟨rfl, _, rfl⟩)
      have hk' : k < (ns.length : Int) := by simpa using of_decide_eq_true hk
      obtain ⟨j, rfl⟩ := Int.eq_ofNat_of_zero_le h4
      have hj : j < ns.length := by omega
      have hat : atI (ns.map V.int) (j : Int) = some (.int ns[j]) := atI_nat (by simp [hj])
      exact ⟨_, rfl, .inl ⟨st, _, 0, .ref l, rfl, rfl, .inl (.inl h1), rfl, _, rfl, .inl ⟨l, _, (j : Int), _, rfl, rfl, .inl (.inl h2), hat, _, rfl, rfl, _, rfl⟩⟩⟩
    · rintro σ H1 ⟨rfl, z, rfl⟩
      refine ⟨fun σ H1' => H1' = H1 ∧ ∃ z : Int, σ = [some (.ref st), some (.int m), some (.int k), some (.int z), none], ?_, ?_⟩
      · refine ⟨_, rfl, 10, 18, rfl, rfl, ⟨by decide, by decide, by decide⟩, z, _, rfl, rfl, _, rfl, ?_⟩
        refine ite2 (fun _ => ?_) (fun _ => ⟨rfl, _, rfl⟩)
        refine ⟨_, rfl, .inl ⟨z, 48271, rfl, rfl, .inr ⟨by decide, by decide⟩, _, rfl, .inl ⟨k, 69621, rfl, rfl, .inr ⟨by decide, by decide⟩, .inl ⟨_, _, rfl, rfl, .inl ⟨_, _, rfl, rfl, .inl ⟨_, rfl, _, _, rfl, rfl, (by show (0 : Int) < 2147483647; decide), ?_⟩⟩⟩⟩⟩⟩
        refine ⟨_, rfl, .inl ⟨_, 16807, rfl, rfl, .inr ⟨by decide, by decide⟩, .inl ⟨_, _, rfl, rfl, .inl ⟨_, rfl, _, _, rfl, rfl, (by show (0 : Int) < 2147483647; decide), .inl ⟨_, 65537, rfl, rfl, .inr ⟨by decide, by decide⟩, _, rfl, .inl ⟨_, _, rfl, rfl, rfl, _, rfl⟩⟩⟩⟩⟩⟩
      · rintro σ H1' ⟨rfl, z, rfl⟩
        refine ⟨_, rfl, _, rfl, st, _, 1, 1, rfl, rfl, h1, rfl, ?_⟩
        refine ⟨_, rfl, .inl ⟨k, 1, rfl, rfl, _, rfl, st, _, 2, 2, rfl, rfl, upd_same, rfl, ?_⟩⟩
        refine ⟨_, _, _, z, k + 1, rfl, upd_same, by rw [upd_ne h3, upd_ne h3]; exact h2, by omega, fun a o na ha => by rw [upd_ne na, upd_ne na]; exact ha⟩
  · rintro σ H1 ⟨a, b, c, x, k, rfl, g1, g2, g4, g5⟩
    refine ⟨_, rfl, .inl ⟨st, _, 1, .int x, rfl, rfl, .inl (.inl g1), rfl, .inl ⟨x, rfl, _, rfl, x, m, rfl, rfl, hm, ?_⟩⟩⟩
    refine ⟨_, rfl, .inl ⟨st, _, 1, .int x, rfl, rfl, .inl (.inl g1), rfl, _, rfl, x, m, rfl, rfl, ⟨hm, hm2⟩, _, rfl, st, _, 1, 1, rfl, rfl, g1, rfl, ?_⟩⟩
    refine ⟨_, rfl, hq _ (.int (x % m)) _ ⟨x % m, rfl, Int.emod_nonneg _ (by omega), Int.emod_lt_of_pos _ hm⟩ ⟨fun a o na ha => ?_, fun _ st' l' e => ?_⟩ ⟨rfl, .int _⟩⟩
    · have : a ≠ st := na st l rfl
      rw [upd_ne this]
      exact g5 a o this ha
    · cases e
      exact Str1.put g2 h3 g4

theorem ok__law_is_integer {P : Program} {w : World} {K : PySem.W.Frag} {mg : Str → Option Value} {base : Heap} {f : Addr} {fd : FuncData} (F : Fun K "_law_is_integer" "_law_is_integer" s__law_is_integer f fd) (T : Txt mg) :
    FnOk P w K mg base CX0 1 f fd p__law_is_integer (sp__law_is_integer K) := by
  refine F.ok sc__law_is_integer (fun vs H Q E h => spD_len h (by rintro ds k d ⟨x, rfl, _⟩; rfl)) (fun cdv A outer s H vs Q E hr h => ⟨_, (pss_one (ps_ret (pe_and (pe_callB (k_isi (K := K) rfl) rfl T.b_isinstance (by decide +kernel) (pa_cons (pv 0) (pa_cons (pe_ty (n := "int") rfl T.b_int (by decide +kernel)) pa_nil))) (pe_one (pe_not (pe_callB (k_isi (K := K) rfl) rfl T.b_isinstance (by decide +kernel) (pa_cons (pv 0) (pa_cons (pe_ty (n := "bool") rfl T.b_bool (by decide +kernel)) pa_nil)))))))), run_pure (N := n__law_is_integer) (fun ds k d hp => ?_) h⟩)
  obtain ⟨x, rfl, rfl, rfl⟩ := hp
  refine s_ret ((d_andV (e_isi (d_var rfl) (kit_int x)) fun _ => d_notV (e_isi (d_var rfl) (kit_bool x))).to ?_) (.inr ⟨rfl, rfl⟩) (.inl rfl)
  cases x <;> rfl

theorem ok_eq {P : Program} {w : World} {K : PySem.W.Frag} {mg : Str → Option Value} {base : Heap} {f : Addr} {fd : FuncData} (F : Fun K "_law_equal" "_law_equal" s__law_equal f fd) (T : Txt mg) (c_int : Cal P w K mg base CX0 1 "_law_is_integer" p__law_is_integer (sp__law_is_integer K)) (n : Nat)
    (c_eq : Cal P w K mg base CX0 (n + 1) "_law_equal" p__law_equal (spEq K n)) : FnOk P w K mg base CX0 (n + 2) f fd p__law_equal (spEq K (n + 1)) := by
  refine F.ok sc__law_equal (fun vs H Q E h => spD_len (E := E) h (by rintro ds k d ⟨x, rfl, _⟩; rfl)) (fun cdv A outer s H vs Q E hr h => ⟨_, (pss_cons (ps_if (pt_cmpR op_isN (pv 1) pe_non (nomark _)) (pss_one (ps_ret (pe_cmpR op_isN (pv 0) pe_non (nomark _)))) pss_nil)
      (pss_cons (ps_if (pt_val (pe_callB (k_isi (K := K) rfl) rfl T.b_isinstance (by decide +kernel) (pa_cons (pv 1) (pa_cons (pe_ty (n := "bool") rfl T.b_bool (by decide +kernel)) pa_nil)))) (pss_one (ps_ret (pe_and (pe_callB (k_isi (K := K) rfl) rfl T.b_isinstance (by decide +kernel) (pa_cons (pv 0) (pa_cons (pe_ty (n := "bool") rfl T.b_bool (by decide +kernel)) pa_nil))) (pe_one (pe_cmpR (k_eq (K := K) rfl (rUnits hr)) (pv 0) (pv 1) (nomark _)))))) pss_nil)
      (pss_cons (ps_if (pt_val (pe_callB (k_isi (K := K) rfl) rfl T.b_isinstance (by decide +kernel) (pa_cons (pv 1) (pa_cons (pe_ty (n := "int") rfl T.b_int (by decide +kernel)) pa_nil)))) (pss_one (ps_ret (pe_and (pe_cal c_int (hr.mono (by omega)) rfl pass0 (pa_cons (pv 0) pa_nil)) (pe_one (pe_cmpR (k_eq (K := K) rfl (rUnits hr)) (pv 0) (pv 1) (nomark _)))))) pss_nil)
      (pss_cons (ps_if (pt_val (pe_callB (k_isi (K := K) rfl) rfl T.b_isinstance (by decide +kernel) (pa_cons (pv 1) (pa_cons (pe_ty (n := "str") rfl T.b_str (by decide +kernel)) pa_nil)))) (pss_one (ps_ret (pe_and (pe_callB (k_isi (K := K) rfl) rfl T.b_isinstance (by decide +kernel) (pa_cons (pv 0) (pa_cons (pe_ty (n := "str") rfl T.b_str (by decide +kernel)) pa_nil))) (pe_one (pe_cmpR (k_eq (K := K) rfl (rUnits hr)) (pv 0) (pv 1) (nomark _)))))) pss_nil)
      (pss_cons (ps_if (PW.pt (pw_and (pt_val (pe_callB (k_isi (K := K) rfl) rfl T.b_isinstance (by decide +kernel) (pa_cons (pv 1) (pa_cons (pe_ty (n := "tuple") rfl T.b_tuple (by decide +kernel)) pa_nil)))) (pw_and1 (pt_not (pt_val (pe_callB (k_isi (K := K) rfl) rfl T.b_isinstance (by decide +kernel) (pa_cons (pv 0) (pa_cons (pe_ty (n := "tuple") rfl T.b_tuple (by decide +kernel)) pa_nil)))))))) (pss_one (ps_ret pe_bl)) pss_nil)
      (pss_cons (ps_if (PW.pt (pw_and (pt_val (pe_callB (k_isi (K := K) rfl) rfl T.b_isinstance (by decide +kernel) (pa_cons (pv 1) (pa_cons (pe_ty (n := "list") rfl T.b_list (by decide +kernel)) pa_nil)))) (pw_and1 (pt_not (pt_val (pe_callB (k_isi (K := K) rfl) rfl T.b_isinstance (by decide +kernel) (pa_cons (pv 0) (pa_cons (pe_ty (n := "list") rfl T.b_list (by decide +kernel)) pa_nil)))))))) (pss_one (ps_ret pe_bl)) pss_nil)
      (pss_cons (ps_if (pt_cmpR (k_ne (K := K) rfl (rUnits hr)) (pe_callB (k_len (K := K) rfl) rfl T.b_len (by decide +kernel) (pa_cons (pv 0) pa_nil)) (pe_callB (k_len (K := K) rfl) rfl T.b_len (by decide +kernel) (pa_cons (pv 1) pa_nil)) (nomark _)) (pss_one (ps_ret pe_bl)) pss_nil)
      (pss_one (ps_ret (pe_callB (k_all (K := K) rfl rfl) rfl T.b_all (by decide +kernel) (pa_cons (pe_lc rfl sc__law_equal.nd (pi_range1 rfl T.b_range (pa_cons (pe_callB (k_len (K := K) rfl) rfl T.b_len (by decide +kernel) (pa_cons (pv 1) pa_nil)) pa_nil)) (blkOk_by (own := [("at", 2)]) (N := n__law_equal) (sc := defScope s__law_equal) (by decide +kernel)) (fun _ _ _ _ _ => by exact (pg_name (i := 2) sc__law_equal.nd rfl (Or.inl rfl))) (fun _ _ _ _ _ => by exact pts_nil) (fun _ _ _ _ _ => by exact (pe_cal c_eq hr rfl pass0 (pa_cons (pe_ix (k_ix (K := K) rfl) (pv 0) (pv 2) (fun _ _ => rfl)) (pa_cons (pe_ix (k_ix (K := K) rfl) (pv 1) (pv 2) (fun _ _ => rfl)) pa_nil))))) pa_nil))))))))))), run_pure (E := E) (N := n__law_equal) (fun ds k d hp => ?_) h⟩)
  obtain ⟨x, rfl, hx, rfl, rfl⟩ := hp
  have flatB : flatD (.bool true) = true := rfl
  have isN : ∀ (a : Bool), isNoneD x = a → EvT (pc K) (tTest (tOp (fun x y H Q => y = .non ∧ Q (.bl (decide (x = .non))) H) (tVar 1) (tC .non))) (argsG [x, x] n__law_equal.length) a := fun a h => (t_test (d_isN (d_var rfl))).to h
  cases hx with
  | non => exact q_if (isN true rfl) (fun _ => q_ret ((d_isN (d_var (d := .none) rfl)).to rfl) (.inr ⟨rfl, flatB⟩) (.inl rfl)) fun e => nomatch e
  | bl b =>
    refine q_no (isN false rfl) (q_if ((t_B (e_isi (d_var rfl) (kit_bool (.bool b)))).to (b := true) rfl) (fun _ => ?_) fun e => nomatch e)
    exact q_ret ((d_andV (b := true) (e_isi (d_var rfl) (kit_bool (.bool b))) fun _ => e_eqS (d_var rfl) (d_var rfl) rfl rfl rfl (decide_eq_true rfl)).to rfl) (.inr ⟨rfl, flatB⟩) (.inl rfl)
  | int i =>
    refine q_no (isN false rfl) (q_no ((t_B (e_isi (d_var rfl) (kit_bool (.int i)))).to rfl) (q_if ((t_B (e_isi (d_var rfl) (kit_int (.int i)))).to (b := true) rfl) (fun _ => ?_) fun e => nomatch e))
    exact q_ret ((d_andV (b := true) (d_call (a_cons (d_var rfl) a_nil) ⟨.int i, rfl, rfl, rfl⟩) fun _ => e_eqS (d_var rfl) (d_var rfl) rfl rfl rfl (decide_eq_true rfl)).to rfl) (.inr ⟨rfl, flatB⟩) (.inl rfl)
  | str z =>
    refine q_no (isN false rfl) (q_no ((t_B (e_isi (d_var rfl) (kit_bool (.str z)))).to rfl) (q_no ((t_B (e_isi (d_var rfl) (kit_int (.str z)))).to rfl) (q_if ((t_B (e_isi (d_var rfl) (kit_str (.str z)))).to (b := true) rfl) (fun _ => ?_) fun e => nomatch e)))
    exact q_ret ((d_andV (b := true) (e_isi (d_var rfl) (kit_str (.str z))) fun _ => e_eqS (d_var rfl) (d_var rfl) rfl rfl rfl (decide_eq_true rfl)).to rfl) (.inr ⟨rfl, flatB⟩) (.inl rfl)
  | @lst m xs hl hxs =>
    refine q_no (isN false rfl) (q_no ((t_B (e_isi (d_var rfl) (kit_bool (.list xs)))).to rfl) (q_no ((t_B (e_isi (d_var rfl) (kit_int (.list xs)))).to rfl) (q_no ((t_B (e_isi (d_var rfl) (kit_str (.list xs)))).to rfl) ?_)))
    refine q_no ((t_and (b := false) ((t_B (e_isi (d_var rfl) (kit_tuple (.list xs)))).to (b := false) rfl) fun e => nomatch e).to rfl) ?_
    refine q_no ((t_and (b := false) ((t_B (e_isi (d_var rfl) (kit_list (.list xs)))).to (b := true) rfl) fun _ => (t_not ((t_B (e_isi (d_var rfl) (kit_list (.list xs)))).to (b := true) rfl)).to rfl).to rfl) ?_
    refine q_no ((t_test (e_neI (d_lenL (d_var rfl)) (d_lenL (d_var rfl)))).to (by simp)) ?_
    refine s_ret ((d_all (d_lcB (fun _ => true) (i_rng1 (a_cons (d_lenL (d_var rfl)) a_nil) (by omega) (by omega)) (by simp [upI]; omega) fun i hi => ?_)).to (by simp)) (.inr ⟨rfl, flatB⟩) (.inl rfl)
    obtain ⟨j, hj, rfl⟩ := List.mem_map.mp hi
    have hj' : j < xs.length := by simpa using hj
    have hg : xs[j]? = some xs[j] := List.getElem?_eq_getElem hj'
    exact ⟨_, _, g_name, fun j hj => hj, _, d_call (a_cons (e_ixLv (d_var rfl) (d_var rfl) (atI_i hg)) (a_cons (e_ixLv (d_var rfl) (d_var rfl) (atI_i hg)) a_nil)) ⟨_, rfl, hxs _ (List.getElem_mem hj'), rfl, rfl⟩⟩
  | @tup m xs hl hxs =>
    refine q_no (isN false rfl) (q_no ((t_B (e_isi (d_var rfl) (kit_bool (.tuple xs)))).to rfl) (q_no ((t_B (e_isi (d_var rfl) (kit_int (.tuple xs)))).to rfl) (q_no ((t_B (e_isi (d_var rfl) (kit_str (.tuple xs)))).to rfl) ?_)))
    refine q_no ((t_and (b := false) ((t_B (e_isi (d_var rfl) (kit_tuple (.tuple xs)))).to (b := true) rfl) fun _ => (t_not ((t_B (e_isi (d_var rfl) (kit_tuple (.tuple xs)))).to (b := true) rfl)).to rfl).to rfl) ?_
    refine q_no ((t_and (b := false) ((t_B (e_isi (d_var rfl) (kit_list (.tuple xs)))).to (b := false) rfl) fun e => nomatch e).to rfl) ?_
    refine q_no ((t_test (e_neI (d_lenT (d_var rfl)) (d_lenT (d_var rfl)))).to (by simp)) ?_
    refine s_ret ((d_all (d_lcB (fun _ => true) (i_rng1 (a_cons (d_lenT (d_var rfl)) a_nil) (by omega) (by omega)) (by simp [upI]; omega) fun i hi => ?_)).to (by simp)) (.inr ⟨rfl, flatB⟩) (.inl rfl)
    obtain ⟨j, hj, rfl⟩ := List.mem_map.mp hi
    have hj' : j < xs.length := by simpa using hj
    have hg : xs[j]? = some xs[j] := List.getElem?_eq_getElem hj'
    exact ⟨_, _, g_name, fun j hj => hj, _, d_call (a_cons (e_ixTv (d_var rfl) (d_var rfl) (atI_i hg)) (a_cons (e_ixTv (d_var rfl) (d_var rfl) (atI_i hg)) a_nil)) ⟨_, rfl, hxs _ (List.getElem_mem hj'), rfl, rfl⟩⟩
theorem ok__law_equal {P : Program} {w : World} {K : PySem.W.Frag} {mg : Str → Option Value} {base : Heap} {f : Addr} {fd : FuncData} (F : Fun K "_law_equal" "_law_equal" s__law_equal f fd) (T : Txt mg) (c_int : Cal P w K mg base CX0 1 "_law_is_integer" p__law_is_integer (sp__law_is_integer K))
    (mgf : mg "_law_equal" = some (.ref f)) (bd : Binds K fd p__law_equal []) : FnOk P w K mg base CX0 10 f fd p__law_equal (sp__law_equal K) := by
  have all : ∀ n, FnOk P w K mg base CX0 (n + 1) f fd p__law_equal (spEq K n) := by
    intro n
    induction n with
    | zero => exact ⟨fun _ _ _ _ h => h.elim, fun _ _ _ _ _ _ _ _ _ _ _ _ _ h => h.elim⟩
    | succ n ih => exact ok_eq F T c_int n ⟨f, fd, ih, mgf, F.kp, bd⟩
  exact (all 8).mono (by decide)

theorem ok__law_sizes {P : Program} {w : World} {K : PySem.W.Frag} {mg : Str → Option Value} {base : Heap} {f : Addr} {fd : FuncData} (F : Fun K "_law_sizes" "_law_sizes" s__law_sizes f fd) (T : Txt mg) (c__law_next : Cal P w K mg base CX0 1 "_law_next" p__law_next (sp__law_next K)) :
    FnOk P w K mg base CX0 2 f fd p__law_sizes (sp__law_sizesT K) := by
  refine F.ok sc__law_sizes (fun vs H Q E h => spS_len h (by rintro ds k P ⟨rfl, _⟩; rfl)) (fun cdv A outer s H vs Q E hr h => ⟨_, (pss_cons (ps_asg (pe_ix (k_ix (K := K) rfl) (pe_lst (pa_cons (pe_tupN (pa_cons pe_int (pa_cons pe_int pa_nil))) (pa_cons (pe_tupN (pa_cons pe_int (pa_cons pe_int pa_nil))) (pa_cons (pe_tupN (pa_cons pe_int (pa_cons pe_int pa_nil))) (pa_cons (pe_tupN (pa_cons pe_int (pa_cons pe_int pa_nil))) (pa_cons (pe_tupN (pa_cons pe_int (pa_cons pe_int pa_nil))) (pa_cons (pe_tupN (pa_cons pe_int (pa_cons pe_int pa_nil))) pa_nil))))))) (pe_cal c__law_next (hr.mono (by decide)) rfl pass0 (pa_cons (pv 0) (pa_cons pe_int pa_nil))) (fun _ _ => rfl)) (k_tupA (K := K) (n := 2) rfl rfl (pgs_cons (pg_name (i := 1) sc__law_sizes.nd rfl (Or.inl rfl)) (pgs_cons (pg_name (i := 2) sc__law_sizes.nd rfl (Or.inl rfl)) pgs_nil))))
      (pss_one (ps_ret (pe_tupN (pa_cons (pv 1) (pa_cons (pe_cal c__law_next (hr.mono (by decide)) rfl pass0 (pa_cons (pv 0) (pa_cons (pe_op (k_add (K := K) rfl) (pv 2) pe_int) pa_nil))) pa_nil)))))), run_str (N := n__law_sizes) (fun st l ds k P' hp => ?_) h⟩)
  obtain ⟨rfl, rfl, rfl⟩ := hp
  have tp : ∀ i j : Int, Ev (sc K st l) (tTupN (tCons (tC (.int i)) (tCons (tC (.int j)) tNil))) (some (.r (.ref st)) :: (([] : List PyData).map (fun d => some (.v d)) ++ List.replicate (n__law_sizes.length - (([] : List PyData).length + 1)) none)) .v (.tuple [.int i, .int j]) := fun i j => d_tup (a_consV d_int (a_consV d_int a_nil)) (by simp)
  refine q_unp (fun d => ∃ v m : Int, d = .tuple [.int v, .int m] ∧ 1 ≤ v ∧ v ≤ 5 ∧ 0 ≤ m ∧ m ≤ 4 ∧ (v = 5 → m ≤ 2) ∧ (v = 4 → m ≤ 3)) (n_ixL (Pa := fun d => d = .list [.tuple [.int 1, .int 4], .tuple [.int 2, .int 4], .tuple [.int 3, .int 4], .tuple [.int 3, .int 3], .tuple [.int 4, .int 3], .tuple [.int 5, .int 2]]) (Q := fun i => 0 ≤ i ∧ i < 6) ((d_lst (kv := false) ?_ rfl (by simp)).n) (n_call (st := st) (l := l) rfl rfl (a_cons d_int a_nil) ⟨6, rfl, by decide, by decide, rfl, rfl⟩) (fun x i hx hi => ?_)) ?_
  · exact a_cons (tp _ _) (a_cons (tp _ _) (a_cons (tp _ _) (a_cons (tp _ _) (a_cons (tp _ _) (a_cons (tp _ _) a_nil)))))
  · subst hx
    obtain ⟨j, rfl⟩ := Int.eq_ofNat_of_zero_le hi.1
    have hj : j < 6 := by omega
    refine ⟨_, _, rfl, atI_nat (List.getElem?_eq_getElem (by simpa using hj)), ?_⟩
    match j, hj with
    | 0, _ => exact ⟨rfl, _, _, rfl, by decide, by decide, by decide, by decide, by decide, by decide⟩
    | 1, _ => exact ⟨rfl, _, _, rfl, by decide, by decide, by decide, by decide, by decide, by decide⟩
    | 2, _ => exact ⟨rfl, _, _, rfl, by decide, by decide, by decide, by decide, by decide, by decide⟩
    | 3, _ => exact ⟨rfl, _, _, rfl, by decide, by decide, by decide, by decide, by decide, by decide⟩
    | 4, _ => exact ⟨rfl, _, _, rfl, by decide, by decide, by decide, by decide, by decide, by decide⟩
    | 5, _ => exact ⟨rfl, _, _, rfl, by decide, by decide, by decide, by decide, by decide, by decide⟩
  · rintro d ⟨v, m, rfl, v1, v5, m0, m4, e5, e4⟩
    refine ⟨_, _, _, .inl rfl, rfl, rfl, g_cons g_name (g_cons g_name g_nil), ?_⟩
    refine s_retN (fun d => ∃ b : Int, d = .tuple [.int v, .int b] ∧ 0 ≤ b ∧ b ≤ m) ((n_tup2 (c := sc K st l) (x := .int v) (d_var rfl) (n_call (P := SomeI fun i => 0 ≤ i ∧ i < m + 1) (st := st) (l := l) rfl rfl (a_cons (e_add (d_var rfl) d_int) a_nil) ⟨m + 1, rfl, by omega, by omega, rfl, rfl⟩)).imp ?_) (.inr ⟨rfl, ?_⟩) ?_
    · rintro d ⟨z, rfl, b, rfl, b0, b1⟩
      exact ⟨b, rfl, b0, by omega⟩
    · rintro d ⟨b, rfl, _⟩
      rfl
    · rintro d ⟨b, rfl, b0, b1⟩
      exact ⟨_, rfl, v, b, rfl, v1, v5, b0, by omega, fun q => by have := e5 q; omega, fun q => by have := e4 q; omega⟩

theorem ok__law_count {P : Program} {w : World} {K : PySem.W.Frag} {mg : Str → Option Value} {base : Heap} {f : Addr} {fd : FuncData} (F : Fun K "_law_count" "_law_count" s__law_count f fd) (T : Txt mg) :
    FnOk P w K mg base CX0 1 f fd p__law_count (sp__law_count K) := by
  refine F.ok sc__law_count (fun vs H Q E h => spD_len h (by rintro ds k d ⟨ns, v, rfl, _⟩; rfl)) (fun cdv A outer s H vs Q E hr h => ⟨_, (pss_one (ps_ret (pe_callTy (k_tuple (K := K) rfl) rfl T.b_tuple (by decide +kernel) (pa_cons (pe_lc rfl sc__law_count.nd (pi_range1 rfl T.b_range (pa_cons (pv 1) pa_nil)) (blkOk_by (own := [("variant", 3)]) (N := n__law_count) (sc := defScope s__law_count) (by decide +kernel)) (fun _ _ _ _ _ => by exact (pg_name (i := 3) sc__law_count.nd rfl (Or.inr rfl))) (fun _ _ _ _ _ => by exact pts_nil) (fun _ _ _ _ _ => by exact (pe_callB (k_sum (K := K) rfl rfl) rfl T.b_sum (by decide +kernel) (pa_cons (pe_lc rfl sc__law_count.nd (k_seq (K := K) rfl (pv 0)) (show BlkOk n__law_count (L2.relS _ (defScope s__law_count)) _ [("one", 2)] from blkOk_by (by decide +kernel)) (fun _ _ _ _ _ => by exact (pg_name (i := 2) sc__law_count.nd rfl (Or.inl rfl))) (fun _ _ _ _ _ => by exact pts_nil) (fun _ _ _ _ _ => by exact (pe_callTy call_int1 rfl T.b_int (by decide +kernel) (pa_cons (pe_cmpR (k_eq (K := K) rfl (rUnits hr)) (pv 2) (pv 3) (nomark _)) pa_nil)))) pa_nil)))) pa_nil)))), run_pure (N := n__law_count) (fun ds k d hp => ?_) h⟩)
  obtain ⟨ns, v, rfl, hl, h0, h1, rfl, rfl⟩ := hp
  refine s_ret (d_tuple (d_lcI (fun i => (ns.count i : Int)) (i_rng1 (a_cons (d_var rfl) a_nil) (by omega) (by omega)) (by simp [upI]; omega) fun i _ => ⟨_, _, g_name, fun j hj => hj, .v, ?_⟩) (flatAll_ints _)) (.inr ⟨rfl, flatT _⟩) (.inl rfl)
  exact (e_sumL (d_lcI (l := ns) (en := imI) (fun n => if (decide (n = i)) = true then (1 : Int) else 0) (i_seqTI (d_var rfl) kv_ne) (by omega) fun n _ => ⟨_, _, g_name, fun j hj => hj, .v, e_intB (e_eqI (d_var rfl) (d_var rfl))⟩)).to (by rw [sum_is])

theorem ok__law_drawn {P : Program} {w : World} {K : PySem.W.Frag} {mg : Str → Option Value} {base : Heap} {f : Addr} {fd : FuncData} (F : Fun K "_law_drawn" "_law_drawn" s__law_drawn f fd) (T : Txt mg) (c__law_next : Cal P w K mg base CX0 1 "_law_next" p__law_next (sp__law_next K)) :
    FnOk P w K mg base CX0 2 f fd p__law_drawn (sp__law_drawn K) := by
  refine F.ok sc__law_drawn (fun vs H Q E h => spS_len h (by rintro ds k P ⟨v, b, rfl, _⟩; rfl)) (fun cdv A outer s H vs Q E hr h => ⟨_, (pss_one (ps_ret (pe_callTy (k_tuple (K := K) rfl) rfl T.b_tuple (by decide +kernel) (pa_cons (pe_lc rfl sc__law_drawn.nd (pi_range1 rfl T.b_range (pa_cons (pv 2) pa_nil)) (blkOk_by (own := [("k", 3)]) (N := n__law_drawn) (sc := defScope s__law_drawn) (by decide +kernel)) (fun _ _ _ _ _ => by exact (pg_name (i := 3) sc__law_drawn.nd rfl (Or.inl rfl))) (fun _ _ _ _ _ => by exact pts_nil) (fun _ _ _ _ _ => by exact (pe_cal c__law_next (hr.mono (by decide)) rfl pass0 (pa_cons (pv 0) (pa_cons (pv 1) pa_nil))))) pa_nil)))), run_str (N := n__law_drawn) (fun st l ds k P' hp => ?_) h⟩)
  obtain ⟨v, b, rfl, h1, h2, h3, h4, rfl, rfl⟩ := hp
  refine s_retN _ (n_tuple (n_draws (fun n => 0 ≤ n ∧ n < v) (i_rng1 (a_cons (d_var rfl) a_nil) (by omega) (by omega)) (by simp [upI]; omega) fun a ha => ?_) ?_) (.inr ⟨rfl, ?_⟩) ?_
  · obtain ⟨i, _, rfl⟩ := List.mem_map.mp ha
    exact ⟨_, _, g_name, fun j hj => hj, _, n_call (st := st) (l := l) rfl rfl (a_cons (d_var rfl) a_nil) ⟨v, rfl, by omega, by omega, rfl, rfl⟩⟩
  · rintro ds ⟨ns, rfl, _⟩
    exact flatAll_ints ns
  · rintro d ⟨ds, rfl, ns, rfl, _⟩
    exact flatT ns
  · rintro d ⟨ds, rfl, ns, rfl, hn, hq⟩
    refine ⟨_, rfl, ns, rfl, ?_, hq⟩
    rw [hn]
    simp [upI]
    omega

theorem ok__law_allocation {P : Program} {w : World} {K : PySem.W.Frag} {mg : Str → Option Value} {base : Heap} {f : Addr} {fd : FuncData} (F : Fun K "_law_allocation" "_law_allocation" s__law_allocation f fd) (T : Txt mg) (c__law_count : Cal P w K mg base CX0 1 "_law_count" p__law_count (sp__law_count K)) (c__law_drawn : Cal P w K mg base CX0 2 "_law_drawn" p__law_drawn (sp__law_drawn K)) :
    FnOk P w K mg base CX0 3 f fd p__law_allocation (sp__law_allocation K) := by
  refine F.ok sc__law_allocation (fun vs H Q E h => spS_len h (by rintro ds k P ⟨v, b, rfl, _⟩; rfl)) (fun cdv A outer s H vs Q E hr h => ⟨_, (pss_one (ps_ret (pe_cal c__law_count (hr.mono (by decide)) rfl pass0 (pa_cons (pe_cal c__law_drawn (hr.mono (by decide)) rfl pass0 (pa_cons (pv 0) (pa_cons (pv 1) (pa_cons (pv 2) pa_nil)))) (pa_cons (pv 1) pa_nil))))), run_str (N := n__law_allocation) (fun st l ds k P' hp => ?_) h⟩)
  obtain ⟨v, b, rfl, h1, h2, h3, h4, rfl, rfl⟩ := hp
  refine s_retN (fun d => ∃ ns : List Int, d = .tuple (ns.map .int) ∧ Alc ns v b) (n_pure (n_call (st := st) (l := l) rfl rfl (a_cons (d_var rfl) (a_cons (d_var rfl) a_nil)) ⟨v, b, rfl, h1, h2, h3, h4, rfl, rfl⟩) (d_var rfl) ?_) (.inr ⟨rfl, ?_⟩) ?_
  · rintro x ⟨ns, rfl, hl, hr⟩
    exact ⟨.tuple ((countsI ns v).map .int), ⟨ns, v, rfl, by omega, by omega, by omega, rfl, rfl⟩, countsI ns v, rfl, by have := alc_counts hr (by omega); rw [hl] at this; exact this⟩
  · rintro d ⟨ns, rfl, _⟩
    exact flatT ns
  · rintro d ⟨ns, rfl, h⟩
    exact ⟨_, rfl, ns, rfl, h⟩

theorem ok__law_three {P : Program} {w : World} {K : PySem.W.Frag} {mg : Str → Option Value} {base : Heap} {f : Addr} {fd : FuncData} (F : Fun K "_law_three" "_law_three" s__law_three f fd) (T : Txt mg) (c__law_allocation : Cal P w K mg base CX0 3 "_law_allocation" p__law_allocation (sp__law_allocation K)) :
    FnOk P w K mg base CX0 4 f fd p__law_three (sp__law_three K) := by
  refine F.ok sc__law_three (fun vs H Q E h => spS_len h (by rintro ds k P ⟨v, b, rfl, _⟩; rfl)) (fun cdv A outer s H vs Q E hr h => ⟨_, (pss_one (ps_ret (pe_lc rfl sc__law_three.nd (pi_range1 rfl T.b_range (pa_cons pe_int pa_nil)) (blkOk_by (own := [("k", 3)]) (N := n__law_three) (sc := defScope s__law_three) (by decide +kernel)) (fun _ _ _ _ _ => by exact (pg_name (i := 3) sc__law_three.nd rfl (Or.inl rfl))) (fun _ _ _ _ _ => by exact pts_nil) (fun _ _ _ _ _ => by exact (pe_cal c__law_allocation (hr.mono (by decide)) rfl pass0 (pa_cons (pv 0) (pa_cons (pv 1) (pa_cons (pv 2) pa_nil)))))))), run_str (N := n__law_three) (fun st l ds k P' hp => ?_) h⟩)
  obtain ⟨v, b, rfl, h1, h2, h3, h4, rfl, rfl⟩ := hp
  refine s_retN _ (n_drawsP (fun d => ∃ ns : List Int, d = .tuple (ns.map .int) ∧ Alc ns v b) (by rintro d ⟨ns, rfl, _⟩; exact flatT ns) (i_rng1 (a_cons d_int a_nil) (by decide) (by decide)) (by decide) fun a ha => ?_) (.inl rfl) ?_
  · obtain ⟨i, _, rfl⟩ := List.mem_map.mp ha
    exact ⟨_, _, g_name, fun j hj => hj, _, n_call (st := st) (l := l) rfl rfl (a_cons (d_var rfl) (a_cons (d_var rfl) a_nil)) ⟨v, b, rfl, h1, h2, h3, by omega, rfl, rfl⟩⟩
  · rintro d ⟨acc, rfl, hlen, hacc⟩
    obtain ⟨x, y, z, rfl⟩ : ∃ x y z, acc = [x, y, z] := match acc, hlen with | [x, y, z], _ => ⟨x, y, z, rfl⟩
    obtain ⟨f, rfl, hf⟩ := hacc x (by simp)
    obtain ⟨g, rfl, hg⟩ := hacc y (by simp)
    obtain ⟨h, rfl, hh⟩ := hacc z (by simp)
    exact ⟨_, rfl, f, g, h, rfl, hf, hg, hh⟩

theorem ok__law_all {P : Program} {w : World} {K : PySem.W.Frag} {mg : Str → Option Value} {base : Heap} {f : Addr} {fd : FuncData} (F : Fun K "_law_all" "_law_all" s__law_all f fd) (T : Txt mg) :
    FnOk P w K mg base CX0 1 f fd p__law_all (sp__law_all K) := by
  refine F.ok sc__law_all (fun vs H Q E h => spD_len h (by rintro ds k d ⟨v, b, rfl, _⟩; rfl)) (fun cdv A outer s H vs Q E hr h => ⟨_, (pss_cons (ps_set (i := 2) sc__law_all.nd rfl (Or.inl rfl) (pe_lst (pa_cons (pe_tupN pa_nil) pa_nil)))
      (pss_cons (ps_for PassesOwn.never rfl (pi_range1 rfl T.b_range (pa_cons (pv 1) pa_nil)) (pg_name (i := 3) sc__law_all.nd rfl (Or.inl rfl)) (pss_cons (ps_set (i := 4) sc__law_all.nd rfl (Or.inl rfl) (pe_lst pa_nil))
      (pss_cons (ps_for PassesOwn.never rfl (k_seq (K := K) rfl (pv 2)) (pg_name (i := 5) sc__law_all.nd rfl (Or.inl rfl)) (pss_one (ps_for PassesOwn.never rfl (pi_range1 rfl T.b_range (pa_cons (pv 0) pa_nil)) (pg_name (i := 6) sc__law_all.nd rfl (Or.inl rfl)) (pss_one (ps_expr (k_bm (K := K) rfl PySem.F.plainAttrs_list PySem.F.slot_list_append PySem.F.type_list_append mt_append (pv 4) (pa_cons (pe_op (k_add (K := K) rfl) (pv 5) (pe_tupN (pa_cons (pv 6) pa_nil))) pa_nil)))))))
      (pss_one (ps_set (i := 2) sc__law_all.nd rfl (Or.inl rfl) (pv 4))))))
      (pss_one (ps_ret (pv 2))))), run_pure (N := n__law_all) (fun ds k d hp => ?_) h⟩)
  obtain ⟨v, b, rfl, h1, h5, h0, h6, rfl, rfl⟩ := hp
  refine q_asgO (d := .list ((allL v 0).map tupD)) (d_lst (kv := false) (a_cons (d_tup a_nil (by simp)) a_nil) rfl (by simp [allL])) ?_
  refine q_for (i_rng1 (a_cons (d_var rfl) a_nil) (by omega) (by omega))
    (fun n Γ1 => ∃ t3 t4 t5 t6, Γ1 = [some (.v (.int v)), some (.v (.int b)), some (.o (.list ((allL v n).map tupD))), t3, t4, t5, t6]) ⟨_, _, _, _, rfl⟩ (fun n a Γ1 hn' hI => ?_) (fun Γ1 hI => ?_)
  · obtain ⟨t3, t4, t5, t6, rfl⟩ := hI
    obtain ⟨hnb, rfl⟩ := upI_at hn'
    have small2 := allL_small5 (v := v) (n := n + 1) h5 (by omega)
    refine ⟨_, _, g_name, ?_⟩
    refine q_asgO (d_lst (kv := false) (ds := []) a_nil rfl (by decide)) ?_
    refine s_freeze (n := 2) rfl ?_
    refine q_for (i_seqL (d_var rfl) kv_ne)
      (fun m Γ1 => ∃ lg t5 t6, Γ1 = [some (.v (.int v)), some (.v (.int b)), some (.v (.list ((allL v n).map tupD))), some (.v (.int (n : Int))), some (.o (.list lg)), t5, t6] ∧ lg = (((allL v n).take m).flatMap fun r => (upI 0 v.toNat).map fun x => r ++ [x]).map tupD) ⟨_, _, _, rfl, rfl⟩ (fun m a Γ1 hm' hI => ?_) (fun Γ1 hI => ?_)
    · obtain ⟨lg, t5, t6, rfl, hlg⟩ := hI
      have hml : m < (allL v n).length := by have := (List.getElem?_eq_some_iff.mp hm').1; simpa using this
      have ha : a = .d (tupD (allL v n)[m]) := by
        rw [List.map_map, List.getElem?_map, List.getElem?_eq_getElem hml] at hm'
        exact (Option.some.inj hm').symm
      subst ha
      have hr := (mem_allL (by omega) n _).mp (List.getElem_mem hml)
      have tk : (allL v n).take (m + 1) = (allL v n).take m ++ [(allL v n)[m]] := by rw [List.take_add_one, List.getElem?_eq_getElem hml]; rfl
      have le : (((allL v n).take (m + 1)).flatMap fun r => (upI 0 v.toNat).map fun x => r ++ [x]).length ≤ 15625 := by
        have e : allL v (n + 1) = (((allL v n).take (m + 1)).flatMap fun r => (upI 0 v.toNat).map fun x => r ++ [x]) ++ (((allL v n).drop (m + 1)).flatMap fun r => (upI 0 v.toNat).map fun x => r ++ [x]) := by
          rw [← List.flatMap_append, List.take_append_drop]
          rfl
        rw [e, List.length_append] at small2
        omega
      rw [tk, List.flatMap_append, List.flatMap_singleton, List.length_append] at le
      generalize (allL v n)[m] = r at hr tk le
      refine ⟨_, _, g_name, s_for (i_rng1 (a_cons (d_var rfl) a_nil) (by omega) (by omega))
        (fun m' Γ1 => ∃ t6, Γ1 = [some (.v (.int v)), some (.v (.int b)), some (.v (.list ((allL v n).map tupD))), some (.v (.int (n : Int))), some (.o (.list (lg ++ ((upI 0 m').map fun x => tupD (r ++ [x]))))), some (.v (tupD r)), t6]) ⟨t6, by simp [upI]⟩ (fun m' a Γ1 hm2 hI => ?_) (fun Γ1 hI => ?_)⟩
      · obtain ⟨t6, rfl⟩ := hI
        obtain ⟨hmv, rfl⟩ := upI_at hm2
        have up1 : upI 0 (m' + 1) = upI 0 m' ++ [(m' : Int)] := by simp [upI, List.range_succ]
        refine ⟨_, _, g_name, s_app rfl (((e_catT (d_var rfl) (d_tup (a_consV (d_var rfl) a_nil) (by simp)) (by simp; omega)).to (y := tupD (r ++ [(m' : Int)])) ?_)) (flatT _) ?_ (.inl ⟨_, .inl rfl, some (.v (.int (m' : Int))), ?_⟩)⟩
        · show PyData.tuple (r.map .int ++ [.int (m' : Int)]) = .tuple ((r ++ [(m' : Int)]).map .int)
          rw [List.map_append]
          rfl
        · rw [hlg]
          simp [upI] at le ⊢
          omega
        · rw [up1, List.map_append, ← List.append_assoc]
          rfl
      · obtain ⟨t6, rfl⟩ := hI
        refine .inl ⟨_, .inl rfl, _, _, _, rfl, ?_⟩
        have el : ((upI 0 v.toNat).map fun i => Im.d (.int i)).length = v.toNat := by simp [upI]
        rw [el, tk, List.flatMap_append, List.flatMap_singleton, List.map_append, List.map_map, hlg]
        rfl
    · obtain ⟨lg, t5, t6, rfl, hlg⟩ := hI
      have hlg2 : lg = (allL v (n + 1)).map tupD := by
        rw [hlg, List.take_of_length_le (by simp)]
        rfl
      subst hlg2
      exact s_mov (n := 4) rfl (by simp) (.inl ⟨_, .inl rfl, _, _, _, _, rfl⟩)
  · obtain ⟨t3, t4, t5, t6, rfl⟩ := hI
    have e : ((upI 0 b.toNat).map fun i => Im.d (.int i)).length = b.toNat := by simp [upI]
    rw [e]
    exact s_retO rfl (.inl rfl)

theorem ok__law_of {P : Program} {w : World} {K : PySem.W.Frag} {mg : Str → Option Value} {base : Heap} {f : Addr} {fd : FuncData} (F : Fun K "_law_of" "_law_of" s__law_of f fd) (T : Txt mg) (c__law_all : Cal P w K mg base CX0 1 "_law_all" p__law_all (sp__law_all K)) (c__law_count : Cal P w K mg base CX0 1 "_law_count" p__law_count (sp__law_count K)) :
    FnOk P w K mg base CX0 2 f fd p__law_of (sp__law_of K) := by
  refine F.ok sc__law_of (fun vs H Q E h => spD_len h (by rintro ds k d ⟨as, v, b, rfl, _⟩; rfl)) (fun cdv A outer s H vs Q E hr h => ⟨_, (pss_one (ps_ret (pe_lc rfl sc__law_of.nd (k_seq (K := K) rfl (pe_cal c__law_all (hr.mono (by decide)) rfl pass0 (pa_cons (pe_callB (k_len (K := K) rfl) rfl T.b_len (by decide +kernel) (pa_cons (pv 0) pa_nil)) (pa_cons (pe_callB (k_sum (K := K) rfl rfl) rfl T.b_sum (by decide +kernel) (pa_cons (pv 0) pa_nil)) pa_nil)))) (blkOk_by (own := [("row", 1)]) (N := n__law_of) (sc := defScope s__law_of) (by decide +kernel)) (fun _ _ _ _ _ => by exact (pg_name (i := 1) sc__law_of.nd rfl (Or.inl rfl))) (fun _ _ _ _ _ => by exact (pts_one (pt_cmpR (k_eq (K := K) rfl (rUnits hr)) (pe_cal c__law_count (hr.mono (by decide)) rfl pass0 (pa_cons (pv 1) (pa_cons (pe_callB (k_len (K := K) rfl) rfl T.b_len (by decide +kernel) (pa_cons (pv 0) pa_nil)) pa_nil))) (pv 0) (nomark _)))) (fun _ _ _ _ _ => by exact (pv 1))))), run_pure (N := n__law_of) (fun ds k d hp => ?_) h⟩)
  obtain ⟨as, v, b, rfl, ha, v1, v5, b6, rfl, rfl⟩ := hp
  have la := ha.len
  have hs := ha.sum
  have b0 := ha.b0
  have small := allL_small5 (v := v) (n := b.toNat) v5 (by omega)
  have e1 : ((as.map PyData.int).length : Int) = v := by simp; omega
  have eo : ofL as = (allL v b.toNat).filter fun r => decide (countsI r v = as) := by unfold ofL; rw [hs, la]
  rw [eo]
  exact s_ret (d_lc (l := allL v b.toNat) (en := tupI) (fun r => decide (countsI r v = as)) tupD (i_rows (d_call (k := .o) (d := .list ((allL v b.toNat).map tupD)) (a_cons (d_lenT (d_var rfl)) (a_cons (e_sumT (d_var rfl)) a_nil)) ⟨v, b, by rw [e1, hs], v1, v5, b0, b6, rfl, rfl⟩) ko_ne) (by omega) fun r hr => ⟨_, _, g_name, fun j hj => hj, t_test (e_eqTT (d_call (k := .v) (a_cons (d_var rfl) (a_cons (d_lenT (d_var rfl)) a_nil)) ⟨r, v, by rw [e1], by have := ((mem_allL (by omega) _ _).mp hr).1; omega, by omega, by omega, rfl, rfl⟩) (d_var rfl)), fun _ => (d_var rfl).fo (flatT _)⟩) (.inl rfl) (.inl rfl)

theorem ok__law_wrong {P : Program} {w : World} {K : PySem.W.Frag} {mg : Str → Option Value} {base : Heap} {f : Addr} {fd : FuncData} (F : Fun K "_law_wrong" "_law_wrong" s__law_wrong f fd) (T : Txt mg) (c__law_next : Cal P w K mg base CX0 1 "_law_next" p__law_next (sp__law_next K)) :
    FnOk P w K mg base CX0 2 f fd p__law_wrong (sp__law_wrong K) := by
  refine F.ok sc__law_wrong (fun vs H Q E h => spS_len h (by rintro ds k P ⟨as, v, b, rfl, _⟩; rfl)) (fun cdv A outer s H vs Q E hr h => ⟨_, (pss_cons (ps_set (i := 2) sc__law_wrong.nd rfl (Or.inl rfl) (pe_op (k_add (K := K) rfl) (pe_slice (k_slT (K := K) rfl) (pv 1) po_none (po_some (pe_un un_neg pe_int))) (pe_tupN (pa_cons (pe_op (k_add (K := K) rfl) (pe_ix (k_ix (K := K) rfl) (pv 1) (pe_un un_neg pe_int) (fun _ _ => rfl)) pe_int) pa_nil))))
      (pss_cons (ps_set (i := 3) sc__law_wrong.nd rfl (Or.inl rfl) (pe_lst (pa_cons (pe_callTy (k_list (K := K) rfl) rfl T.b_list (by decide +kernel) (pa_cons (pv 1) pa_nil)) (pa_cons (pe_op (k_add (K := K) rfl) (pv 1) (pe_tupN (pa_cons pe_int pa_nil))) (pa_cons (pe_slice (k_slT (K := K) rfl) (pv 1) po_none (po_some (pe_un un_neg pe_int))) (pa_cons (pv 2) (pa_cons (pe_op (k_add (K := K) rfl) (pe_slice (k_slT (K := K) rfl) (pv 1) po_none (po_some (pe_un un_neg pe_int))) (pe_tupN (pa_cons (pe_un un_neg pe_int) pa_nil))) (pa_cons (pe_op (k_add (K := K) rfl) (pe_tupN (pa_cons pe_bl pa_nil)) (pe_slice (k_slT (K := K) rfl) (pv 1) (po_some pe_int) po_none)) (pa_cons pe_non (pa_cons (pe_op (k_add (K := K) rfl) (pe_slice (k_slT (K := K) rfl) (pv 1) po_none (po_some (pe_un un_neg pe_int))) (pe_tupN (pa_cons pe_str pa_nil))) (pa_cons (pe_op (k_add (K := K) rfl) (pe_tupN (pa_cons pe_int pa_nil)) (pe_slice (k_slT (K := K) rfl) (pv 1) (po_some pe_int) po_none)) pa_nil)))))))))))
      (pss_one (ps_ret (pe_ix (k_ix (K := K) rfl) (pv 3) (pe_cal c__law_next (hr.mono (by decide)) rfl pass0 (pa_cons (pv 0) (pa_cons pe_int pa_nil))) (fun _ _ => rfl)))))), run_str (N := n__law_wrong) (fun st l ds k P' hp => ?_) h⟩)
  obtain ⟨as, v, b, rfl, ha, v1, v5, b20, rfl, rfl⟩ := hp
  have la := ha.len
  have sa := ha.sum
  obtain ⟨r, x, rfl⟩ : ∃ r x, as = r ++ [x] := by
    have ne : as ≠ [] := fun e => by subst e; simp at la; omega
    exact ⟨as.dropLast, as.getLast ne, (List.dropLast_concat_getLast ne).symm⟩
  have lr : (r.length : Int) + 1 = v := by rw [← la]; simp
  have sr : r.sum + x = b := by rw [← sa]; simp
  have init : ∀ {Γ : List (Option Rs)}, Γ[1]? = some (some (.v (tupD (r ++ [x])))) → Ev (sc K st l) (tSl (rSlN K) (tVar 1) tNoPart (tPart (tUn (rU fun i => .int (-i)) (tC (.int 1))))) Γ .v (tupD r) := fun h => (e_sl (d_var h) o_none (o_some (e_neg d_int))).to (by
    rw [show tupD r = .tuple (r.map .int) from rfl]
    congr 1
    have := cutD_last (ds := (r ++ [x]).map PyData.int)
    rw [this]
    simp)
  have tl : ∀ {Γ : List (Option Rs)}, Γ[1]? = some (some (.v (tupD (r ++ [x])))) → Ev (sc K st l) (tSl (rSlN K) (tVar 1) (tPart (tC (.int 1))) tNoPart) Γ .v (tupD ((r ++ [x]).drop 1)) := fun h => (e_sl (d_var h) (o_some d_int) o_none).to (by
    rw [show Lm.cutD ((r ++ [x]).map PyData.int) (some 1) none = ((r ++ [x]).map PyData.int).drop 1 from cut_dropA (t := 1), ← List.map_drop])
  have cat : ∀ {Γ : List (Option Rs)} {te : TE} {d : PyData} {ds : List PyData}, Γ[1]? = some (some (.v (tupD (r ++ [x])))) → Ev (sc K st l) te Γ .v d → True := fun _ _ => trivial
  have ini : ∀ {Γ : List (Option Rs)} {te : TE} {d : PyData}, Γ[1]? = some (some (.v (tupD (r ++ [x])))) → Ev (sc K st l) te Γ .v d → Ev (sc K st l) (tOp (rAddA K) (tSl (rSlN K) (tVar 1) tNoPart (tPart (tUn (rU fun i => .int (-i)) (tC (.int 1))))) (tTupN (tCons te tNil))) Γ .v (.tuple (r.map .int ++ [d])) := fun h h2 => e_catT (init h) (d_tup (a_consV h2 a_nil) (by simp)) (by simp; omega)
  have fst : ∀ {Γ : List (Option Rs)} {te : TE} {d : PyData}, Γ[1]? = some (some (.v (tupD (r ++ [x])))) → Ev (sc K st l) te Γ .v d → Ev (sc K st l) (tOp (rAddA K) (tTupN (tCons te tNil)) (tSl (rSlN K) (tVar 1) (tPart (tC (.int 1))) tNoPart)) Γ .v (.tuple ([d] ++ ((r ++ [x]).drop 1).map .int)) := fun h h2 => e_catT (d_tup (a_consV h2 a_nil) (by simp)) (tl h) (by simp; omega)
  have lst : ∀ {Γ : List (Option Rs)}, Γ[1]? = some (some (.v (tupD (r ++ [x])))) → Ev (sc K st l) (tOp (rIx K) (tVar 1) (tUn (rU fun i => .int (-i)) (tC (.int 1)))) Γ .v (.int x) := fun h => e_ixT (d_var h) (e_neg d_int) (by
    have := at_lastI (r.map PyData.int) (.int x)
    rw [show r.map PyData.int ++ [.int x] = (r ++ [x]).map PyData.int by simp] at this
    exact this) rfl
  refine q_asg (d := tupD (r ++ [x + 1])) ((ini rfl (e_add (lst rfl) d_int)).to (by show PyData.tuple _ = .tuple _; rw [List.map_append]; rfl)) ?_
  have va : ∀ {Γ : List (Option Rs)}, Γ[1]? = some (some (.v (tupD (r ++ [x])))) → Ev (sc K st l) (tVar 1) Γ .v (tupD (r ++ [x])) := fun h => d_var h
  refine q_asg (d := .list [.list ((r ++ [x]).map .int), tupD (r ++ [x] ++ [0]), tupD r, tupD (r ++ [x + 1]), tupD (r ++ [-1]), .tuple ([.bool true] ++ ((r ++ [x]).drop 1).map .int), .none, .tuple (r.map .int ++ [.str "1"]), .tuple ([.int 21] ++ ((r ++ [x]).drop 1).map .int)]) (e_lstV (a_consV (Ev.frz (e_listT (va rfl) (flatAll_ints _))) (a_consV ((e_catT (va rfl) (d_tup (a_consV d_int a_nil) (by simp)) (by simp; omega)).to (y := tupD (r ++ [x] ++ [0])) (by unfold tupD; rw [List.map_append (l₁ := r ++ [x])]; rfl)) (a_consV (init rfl) (a_consV (d_var rfl) (a_consV ((ini rfl (e_neg d_int)).to (y := tupD (r ++ [-1])) (by unfold tupD; rw [List.map_append]; rfl)) (a_consV (fst rfl d_bl) (a_consV d_non (a_consV (ini rfl d_str) (a_consV (fst rfl d_int) a_nil))))))))) (by simp)) ?_
  have bad : ∀ y ∈ [PyData.list ((r ++ [x]).map .int), tupD (r ++ [x] ++ [0]), tupD r, tupD (r ++ [x + 1]), tupD (r ++ [-1]), .tuple ([.bool true] ++ ((r ++ [x]).drop 1).map .int), .none, .tuple (r.map .int ++ [.str "1"]), .tuple ([.int 21] ++ ((r ++ [x]).drop 1).map .int)], NoAl v b y := fun y hy => by
    simp only [List.mem_cons, List.not_mem_nil, or_false] at hy
    rcases hy with rfl | rfl | rfl | rfl | rfl | rfl | rfl | rfl | rfl
    · exact ⟨smallT_no fun es e => (by cases e), rfl⟩
    · exact noAl_ints (by simp; omega) (by simp; omega)
    · exact noAl_ints (by omega) (by omega)
    · exact noAl_ints (by simp; omega) (by simp; omega)
    · exact noAl_int (by simp; omega) (areInts_neg (ns := r ++ [-1]) (x := -1) (by simp) (.inl (by decide)))
    · exact noAl_int (by simp; omega) (areInts_bad (x := .bool true) (by simp) fun n e => (by cases e))
    · exact ⟨smallT_no fun es e => (by cases e), rfl⟩
    · exact noAl_int (by simp; omega) (areInts_bad (x := .str "1") (by simp) fun n e => (by cases e))
    · exact noAl_int (by simp; omega) (areInts_neg (ns := 21 :: (r ++ [x]).drop 1) (x := 21) (by simp) (.inr (by omega)))
  generalize hL : [PyData.list ((r ++ [x]).map .int), tupD (r ++ [x] ++ [0]), tupD r, tupD (r ++ [x + 1]), tupD (r ++ [-1]), .tuple ([.bool true] ++ ((r ++ [x]).drop 1).map .int), .none, .tuple (r.map .int ++ [.str "1"]), .tuple ([.int 21] ++ ((r ++ [x]).drop 1).map .int)] = L9 at bad
  have l9 : L9.length = 9 := by rw [← hL]; rfl
  refine s_retB (NoAl v b) rfl (n_ixLV (ds := L9) (Q := fun i => 0 ≤ i ∧ i < 9) (d_var rfl) (n_call (st := st) (l := l) rfl rfl (a_cons d_int a_nil) ⟨9, rfl, by decide, by decide, rfl, rfl⟩) fun i hi => ?_) fun d hd => ⟨d, rfl, hd⟩
  obtain ⟨j, rfl⟩ := Int.eq_ofNat_of_zero_le hi.1
  have hj : j < L9.length := by omega
  exact ⟨L9[j], atI_nat (List.getElem?_eq_getElem hj), bad _ (List.getElem_mem hj)⟩

theorem ok_ini_BadValue {P : Program} {w : World} {K : PySem.W.Frag} {mg : Str → Option Value} {base : Heap} {f C cc cda : Addr} {kV doc pm ct oc cl ccl : Value} {an od cdd cld : Option Addr} {osl csl ccs : Array (Option Value)} {vs : Array Value} {file : Str} {tf : Tok}
    (lk : K.lookup f = some ⟨oc, od, .func (PySem.W.ksFn "__init__" "BadValue.__init__" (defArgs s_ini_BadValue) (defBody s_ini_BadValue) (defScope s_ini_BadValue) .none kV doc pm an (.ref cda) ct cc), osl⟩)
    (hcd : PySem.W.codeIn K (.ref cda) "BadValue.__init__" = true) (hcode : K.lookup cda = some ⟨ccl, cdd, .fields vs, ccs⟩) (hvs : vs[2]? = some (.str file tf)) (hfile : ((P.main.file : Str) == file) = true) (hcell : K.lookup cc = some ⟨cl, cld, .cell (some (.ref C)), csl⟩)
    (O : OexC K C) (hno : PySem.W.findIn K (.ref C) "name" = some none) (hsuper : mg "super" = none) (hsub : PySem.W.subIn K (.ref C) (.type "ValueError") = some true) (hop : PySem.W.nsIn K cStatics "thirdparty.any" = some none)
    (hm : PySem.W.ks_superIn K C C "__init__" = some (some (.builtin "ValueError.__init__"))) (htop : (P.main.scope.names.lookup ("super" : Str)).isSome = false) :
    FnOk P w K mg base (L2.CX P w) 1 f (PySem.W.ksFn "__init__" "BadValue.__init__" (defArgs s_ini_BadValue) (defBody s_ini_BadValue) (defScope s_ini_BadValue) .none kV doc pm an (.ref cda) ct cc) ["self", "name"] (spIni C "name") :=
  fn_super (k := 0) (N := ["self", "name"]) (ps := ["self", "name"]) lk hcd ⟨rfl, rfl, rfl, by decide +kernel, rfl, by decide +kernel, by decide +kernel, by decide +kernel, rfl, rfl⟩ rfl rfl hcode hvs hfile hcell O hsuper hsub hop hm htop (fun vs H Q E h => by obtain ⟨a, nm, rfl, _⟩ := h; rfl)
    (fun A outer s H vs Q E hr h => by
      obtain ⟨a, nm, rfl, hz, ha, hq⟩ := h
      exact ⟨a, [.str nm], _, _, rfl, ha, pe_joined (PJ.cons pe_str (PJ.cons (pe_fmt (pv 1)) PJ.nil)), pss_one (ps_ost (pv 0) (pv 1)), run_ini (Q := Q) (by decide) hz O hno rfl rfl ha hq⟩)
end W

namespace W
open PySem PySem.Spec PyProof.Rows L2 Lm
theorem ok_requireX {P : Program} {w : World} {K : PySem.W.Frag} {mg : Str → Option Value} {base : Heap} {f C : Addr} {fd : FuncData} (F : Fun K "require" "require" s_require f fd) (T : Txt mg) (X : Exc1 P w K mg base "BadValue" "name" C) :
    FnOk P w K mg base (L2.CX P w) 4 f fd p_require (spReq C) := by
  obtain ⟨fI, fdI, iC, tI, F1, hb⟩ := X.ini
  refine F.okX sc_require (fun vs H Q E h => by obtain ⟨b, nm, rfl, _⟩ := h; rfl) (fun cdv A outer s H vs Q E hr h => ⟨_, (pss_one (ps_if (pt_not (pt_val (pv 0))) (pss_one (ps_raise rfl (takes_of rfl rfl rfl rfl) (pmk_oex X.O iC tI F1 (hr.mono (by decide)) hb .nil passL rfl X.hC (pa_cons (pv 1) pa_nil)))) pss_nil)), ?_⟩)
  obtain ⟨b, nm, rfl, hz, h1, h2⟩ := h
  cases b with
  | true => exact ⟨.bl true, rfl, true, rfl, h1 rfl⟩
  | false => exact ⟨.bl false, rfl, false, rfl, mkO_req hz (fun Q' q => ⟨_, rfl, q⟩) (h2 rfl)⟩

theorem ok_check_allocationX {P : Program} {w : World} {K : PySem.W.Frag} {mg : Str → Option Value} {base : Heap} {f C : Addr} {fd : FuncData} (F : Fun K "check_allocation" "check_allocation" s_check_allocation f fd) (T : Txt mg) (c_is_bounded_allocation : Cal P w K mg base CX0 3 "is_bounded_allocation" p_is_bounded_allocation (sp_is_bounded_allocationX K)) {fx_require : Addr} {fdx_require : FuncData} (X_require : FnOk P w K mg base (L2.CX P w) 4 fx_require fdx_require p_require (spReq C)) (m_require : mg "require" = some (.ref fx_require)) (k_require : PySem.W.keepIn K (.ref fx_require) = true) (b_require : Binds K fdx_require p_require []) :
    FnOk P w K mg base (L2.CX P w) 5 f fd p_check_allocation (spRef K C RcAl) := by
  refine F.okX sc_check_allocation (fun vs H Q E h => by obtain ⟨ds, nm, hb, hd, _⟩ := h; rw [hb.len, RcAl_len hd]; rfl) (fun cdv A outer s H vs Q E hr h => ⟨_, (pss_one (ps_expr (pe_call X_require (hr.mono (by decide)) rfl m_require k_require b_require .nil (passes_call (E := E) (takes_of rfl rfl rfl rfl) (fun _ _ _ _ h => h)) (pa_cons (pe_cal (cal_up0 c_is_bounded_allocation) (hr.mono (by decide)) rfl passL (pa_cons (pv 0) pa_nil)) (pa_cons (pv 1) pa_nil))))), run_ref (N := n_check_allocation) (C := C) (fun ds nm hd hE => ?_) h⟩)
  obtain ⟨x, rfl, hz, hs, hb⟩ := hd
  exact xl_reqE hz hE (d_call (k := .v) (d := .bool false) (a_cons (d_var rfl) a_nil) ⟨x, rfl, hs, rfl, by rw [hb]⟩) (d_var rfl)

theorem ok_check_alikeX {P : Program} {w : World} {K : PySem.W.Frag} {mg : Str → Option Value} {base : Heap} {f C : Addr} {fd : FuncData} (F : Fun K "check_alike" "check_alike" s_check_alike f fd) (T : Txt mg) (c_is_allocation : Cal P w K mg base CX0 3 "is_allocation" p_is_allocation (sp_is_allocation K)) {fx_require : Addr} {fdx_require : FuncData} (X_require : FnOk P w K mg base (L2.CX P w) 4 fx_require fdx_require p_require (spReq C)) (m_require : mg "require" = some (.ref fx_require)) (k_require : PySem.W.keepIn K (.ref fx_require) = true) (b_require : Binds K fdx_require p_require []) :
    FnOk P w K mg base (L2.CX P w) 5 f fd p_check_alike (spRef K C RcLk) := by
  refine F.okX sc_check_alike (fun vs H Q E h => by obtain ⟨ds, nm, hb, hd, _⟩ := h; rw [hb.len, RcLk_len hd]; rfl) (fun cdv A outer s H vs Q E hr h => ⟨_, (pss_one (ps_expr (pe_call X_require (hr.mono (by decide)) rfl m_require k_require b_require .nil (passes_call (E := E) (takes_of rfl rfl rfl rfl) (fun _ _ _ _ h => h)) (pa_cons (pe_cal (cal_up0 c_is_allocation) (hr.mono (by decide)) rfl passL (pa_cons (pv 0) (pa_cons (pe_callB (k_len (K := K) rfl) rfl T.b_len (by decide +kernel) (pa_cons (pv 1) pa_nil)) (pa_cons (pe_callB (k_sum (K := K) rfl rfl) rfl T.b_sum (by decide +kernel) (pa_cons (pv 1) pa_nil)) pa_nil)))) (pa_cons (pv 2) pa_nil))))), run_ref (N := n_check_alike) (C := C) (fun ds nm hd hE => ?_) h⟩)
  obtain ⟨x, as, v, b, rfl, hz, ha, hs, hb⟩ := hd
  exact xl_reqE hz hE (d_call (k := .v) (d := .bool false) (a_cons (d_var rfl) (a_cons ((d_lenT (d_var rfl)).to (y := .int v) (by rw [List.length_map, ha.len])) (a_cons ((e_sumT (d_var rfl)).to (y := .int b) (by rw [ha.sum])) a_nil))) ⟨x, v, b, rfl, hs, rfl, by rw [hb]⟩) (d_var rfl)

theorem ok_mediansX {P : Program} {w : World} {K : PySem.W.Frag} {mg : Str → Option Value} {base : Heap} {f C : Addr} {fd : FuncData} (F : Fun K "medians" "medians" s_medians f fd) (T : Txt mg) {fx_check_allocation : Addr} {fdx_check_allocation : FuncData} (X_check_allocation : FnOk P w K mg base (L2.CX P w) 5 fx_check_allocation fdx_check_allocation p_check_allocation (spDR K C (sp_check_allocation K) RcAl)) (m_check_allocation : mg "check_allocation" = some (.ref fx_check_allocation)) (k_check_allocation : PySem.W.keepIn K (.ref fx_check_allocation) = true) (b_check_allocation : Binds K fdx_check_allocation p_check_allocation []) {fx_check_alike : Addr} {fdx_check_alike : FuncData} (X_check_alike : FnOk P w K mg base (L2.CX P w) 5 fx_check_alike fdx_check_alike p_check_alike (spDR K C (sp_check_alike K) RcLk)) (m_check_alike : mg "check_alike" = some (.ref fx_check_alike)) (k_check_alike : PySem.W.keepIn K (.ref fx_check_alike) = true) (b_check_alike : Binds K fdx_check_alike p_check_alike []) :
    FnOk P w K mg base (L2.CX P w) 6 f fd p_medians (spRef K C RcM1) := by
  refine F.okX sc_medians (fun vs H Q E h => by obtain ⟨ds, nm, hb, hd, _⟩ := h; rw [hb.len, RcM1_len hd]; rfl) (fun cdv A outer s H vs Q E hr h => ⟨_, (pss_cons (ps_expr (pe_call X_check_allocation (hr.mono (by decide)) rfl m_check_allocation k_check_allocation b_check_allocation .nil (passes_call (E := E) (takes_of rfl rfl rfl rfl) (fun _ _ _ _ h => h)) (pa_cons (pv 0) (pa_cons pe_str pa_nil))))
      (pss_cons (ps_expr (pe_call X_check_alike (hr.mono (by decide)) rfl m_check_alike k_check_alike b_check_alike .nil (passes_call (E := E) (takes_of rfl rfl rfl rfl) (fun _ _ _ _ h => h)) (pa_cons (pv 1) (pa_cons (pv 0) (pa_cons pe_str pa_nil)))))
      (pss_cons (ps_expr (pe_call X_check_alike (hr.mono (by decide)) rfl m_check_alike k_check_alike b_check_alike .nil (passes_call (E := E) (takes_of rfl rfl rfl rfl) (fun _ _ _ _ h => h)) (pa_cons (pv 2) (pa_cons (pv 0) (pa_cons pe_str pa_nil)))))
      (pss_one (ps_ret (pe_callTy (k_tuple (K := K) rfl) rfl T.b_tuple (by decide +kernel) (pa_cons (pe_lc rfl sc_medians.nd (k_zip3 (K := K) rfl rfl T.b_zip (pa_cons (pv 0) (pa_cons (pv 1) (pa_cons (pv 2) pa_nil)))) (blkOk_by (own := [("shares", 3)]) (N := n_medians) (sc := defScope s_medians) (by decide +kernel)) (fun _ _ _ _ _ => by exact (pg_name (i := 3) sc_medians.nd rfl (Or.inl rfl))) (fun _ _ _ _ _ => by exact pts_nil) (fun _ _ _ _ _ => by exact (pe_ix (k_ix (K := K) rfl) (pe_callB (k_sorted (K := K) rfl) rfl T.b_sorted (by decide +kernel) (pa_cons (pv 3) pa_nil)) pe_int (fun _ _ => rfl)))) pa_nil))))))), run_ref (N := n_medians) (C := C) (fun ds nm hd hE => ?_) h⟩)
  obtain ⟨a, x, y, rfl, ⟨hs, hb, rfl⟩ | ⟨as, v, b, rfl, ha, v1, v5, b20, ⟨hs, hb, rfl⟩ | ⟨cs, rfl, hc, hs, hb, rfl⟩⟩⟩ := hd
  · exact x_seq (x_dropE (x_ref (ds := [a, .str "first"]) (nm := "first") (a_cons (d_var rfl) (a_cons d_str a_nil)) ⟨a, rfl, by decide, hs, hb⟩ hE))
  · refine x_drop (x_good (k := .v) (d := .none) (a_cons (d_var rfl) (a_cons d_str a_nil)) ⟨as, v, b, "first", rfl, ha, v1, v5, b20, rfl, rfl⟩) ?_
    exact x_seq (x_dropE (x_ref (ds := [x, tupD as, .str "second"]) (nm := "second") (a_cons (d_var rfl) (a_cons (d_var rfl) (a_cons d_str a_nil))) ⟨x, as, v, b, rfl, by decide, ha, hs, hb⟩ hE))
  · refine x_drop (x_good (k := .v) (d := .none) (a_cons (d_var rfl) (a_cons d_str a_nil)) ⟨as, v, b, "first", rfl, ha, v1, v5, b20, rfl, rfl⟩) ?_
    refine x_drop (x_good (k := .v) (d := .none) (a_cons (d_var rfl) (a_cons (d_var rfl) (a_cons d_str a_nil))) ⟨cs, as, v, b, "second", rfl, hc, ha, by omega, rfl, rfl⟩) ?_
    exact x_seq (x_dropE (x_ref (ds := [y, tupD as, .str "third"]) (nm := "third") (a_cons (d_var rfl) (a_cons (d_var rfl) (a_cons d_str a_nil))) ⟨y, as, v, b, rfl, by decide, ha, hs, hb⟩ hE))

theorem ok_surplusX {P : Program} {w : World} {K : PySem.W.Frag} {mg : Str → Option Value} {base : Heap} {f C : Addr} {fd : FuncData} (F : Fun K "surplus" "surplus" s_surplus f fd) (T : Txt mg) {fx_medians : Addr} {fdx_medians : FuncData} (X_medians : FnOk P w K mg base (L2.CX P w) 6 fx_medians fdx_medians p_medians (spDR K C (sp_medians K) RcM1)) (m_medians : mg "medians" = some (.ref fx_medians)) (k_medians : PySem.W.keepIn K (.ref fx_medians) = true) (b_medians : Binds K fdx_medians p_medians []) :
    FnOk P w K mg base (L2.CX P w) 7 f fd p_surplus (spRef K C RcM1) := by
  refine F.okX sc_surplus (fun vs H Q E h => by obtain ⟨ds, nm, hb, hd, _⟩ := h; rw [hb.len, RcM1_len hd]; rfl) (fun cdv A outer s H vs Q E hr h => ⟨_, (pss_one (ps_ret (pe_op op_sub (pe_callB (k_sum (K := K) rfl rfl) rfl T.b_sum (by decide +kernel) (pa_cons (pe_call X_medians (hr.mono (by decide)) rfl m_medians k_medians b_medians .nil (passes_call (E := E) (takes_of rfl rfl rfl rfl) (fun _ _ _ _ h => h)) (pa_cons (pv 0) (pa_cons (pv 1) (pa_cons (pv 2) pa_nil)))) pa_nil)) (pe_callB (k_sum (K := K) rfl rfl) rfl T.b_sum (by decide +kernel) (pa_cons (pv 0) pa_nil))))), run_ref (N := n_surplus) (C := C) (fun ds nm hd hE => ?_) h⟩)
  obtain ⟨a, x, y, e, _⟩ := id hd
  subst e
  exact x_retE (x_opl (x_cb (x_ref (a_cons (d_var rfl) (a_cons (d_var rfl) (a_cons (d_var rfl) a_nil))) hd hE)))

theorem ok_excessX {P : Program} {w : World} {K : PySem.W.Frag} {mg : Str → Option Value} {base : Heap} {f C : Addr} {fd : FuncData} (F : Fun K "excess" "excess" s_excess f fd) (T : Txt mg) {fx_surplus : Addr} {fdx_surplus : FuncData} (X_surplus : FnOk P w K mg base (L2.CX P w) 7 fx_surplus fdx_surplus p_surplus (spDR K C (sp_surplus K) RcM1)) (m_surplus : mg "surplus" = some (.ref fx_surplus)) (k_surplus : PySem.W.keepIn K (.ref fx_surplus) = true) (b_surplus : Binds K fdx_surplus p_surplus []) :
    FnOk P w K mg base (L2.CX P w) 8 f fd p_excess (spRef K C RcM1) := by
  refine F.okX sc_excess (fun vs H Q E h => by obtain ⟨ds, nm, hb, hd, _⟩ := h; rw [hb.len, RcM1_len hd]; rfl) (fun cdv A outer s H vs Q E hr h => ⟨_, (pss_one (ps_ret (pe_callB (call_max2 rfl) rfl T.b_max (by decide +kernel) (pa_cons (pe_call X_surplus (hr.mono (by decide)) rfl m_surplus k_surplus b_surplus .nil (passes_call (E := E) (takes_of rfl rfl rfl rfl) (fun _ _ _ _ h => h)) (pa_cons (pv 0) (pa_cons (pv 1) (pa_cons (pv 2) pa_nil)))) (pa_cons pe_int pa_nil))))), run_ref (N := n_excess) (C := C) (fun ds nm hd hE => ?_) h⟩)
  obtain ⟨a, x, y, e, _⟩ := id hd
  subst e
  exact x_retE (x_cb (x_ref (a_cons (d_var rfl) (a_cons (d_var rfl) (a_cons (d_var rfl) a_nil))) hd hE))

theorem ok_table_of_threeX {P : Program} {w : World} {K : PySem.W.Frag} {mg : Str → Option Value} {base : Heap} {f C : Addr} {fd : FuncData} (F : Fun K "table_of_three" "table_of_three" s_table_of_three f fd) (T : Txt mg) (c_medians : Cal P w K mg base CX0 5 "medians" p_medians (sp_medians K)) (c_laid_out : Cal P w K mg base CX0 1 "laid_out" p_laid_out (sp_laid_out K)) {fx_surplus : Addr} {fdx_surplus : FuncData} (X_surplus : FnOk P w K mg base (L2.CX P w) 7 fx_surplus fdx_surplus p_surplus (spDR K C (sp_surplus K) RcM1)) (m_surplus : mg "surplus" = some (.ref fx_surplus)) (k_surplus : PySem.W.keepIn K (.ref fx_surplus) = true) (b_surplus : Binds K fdx_surplus p_surplus []) :
    FnOk P w K mg base (L2.CX P w) 8 f fd p_table_of_three (spRef K C RcM1) := by
  refine F.okX sc_table_of_three (fun vs H Q E h => by obtain ⟨ds, nm, hb, hd, _⟩ := h; rw [hb.len, RcM1_len hd]; rfl) (fun cdv A outer s H vs Q E hr h => ⟨_, (pss_cons (ps_if (pt_cmpR op_gt (pe_call X_surplus (hr.mono (by decide)) rfl m_surplus k_surplus b_surplus .nil (passes_call (E := E) (takes_of rfl rfl rfl rfl) (fun _ _ _ _ h => h)) (pa_cons (pv 0) (pa_cons (pv 1) (pa_cons (pv 2) pa_nil)))) pe_int (nomark _)) (pss_one (ps_ret pe_non)) pss_nil)
      (pss_cons (ps_set (i := 3) sc_table_of_three.nd rfl (Or.inl rfl) (pe_cal (cal_up0 c_medians) (hr.mono (by decide)) rfl passL (pa_cons (pv 0) (pa_cons (pv 1) (pa_cons (pv 2) pa_nil)))))
      (pss_one (ps_ret (pe_tupN (pa_cons (pe_cal (cal_up0 c_laid_out) (hr.mono (by decide)) rfl passL (pa_cons (pv 0) (pa_cons (pv 3) pa_nil))) (pa_cons (pe_cal (cal_up0 c_laid_out) (hr.mono (by decide)) rfl passL (pa_cons (pv 1) (pa_cons (pv 3) pa_nil))) (pa_cons (pe_cal (cal_up0 c_laid_out) (hr.mono (by decide)) rfl passL (pa_cons (pv 2) (pa_cons (pv 3) pa_nil))) pa_nil)))))))), run_ref (N := n_table_of_three) (C := C) (fun ds nm hd hE => ?_) h⟩)
  obtain ⟨a, x, y, e, _⟩ := id hd
  subst e
  exact x_seq (x_if (x_test (x_opl (x_ref (a_cons (d_var rfl) (a_cons (d_var rfl) (a_cons (d_var rfl) a_nil))) hd hE))))

theorem ok_all_differentX {P : Program} {w : World} {K : PySem.W.Frag} {mg : Str → Option Value} {base : Heap} {f C : Addr} {fd : FuncData} (F : Fun K "all_different" "all_different" s_all_different f fd) (T : Txt mg) {fx_surplus : Addr} {fdx_surplus : FuncData} (X_surplus : FnOk P w K mg base (L2.CX P w) 7 fx_surplus fdx_surplus p_surplus (spDR K C (sp_surplus K) RcM1)) (m_surplus : mg "surplus" = some (.ref fx_surplus)) (k_surplus : PySem.W.keepIn K (.ref fx_surplus) = true) (b_surplus : Binds K fdx_surplus p_surplus []) :
    FnOk P w K mg base (L2.CX P w) 8 f fd p_all_different (spRef K C RcM1) := by
  refine F.okX sc_all_different (fun vs H Q E h => by obtain ⟨ds, nm, hb, hd, _⟩ := h; rw [hb.len, RcM1_len hd]; rfl) (fun cdv A outer s H vs Q E hr h => ⟨_, (pss_cons (ps_set (i := 3) sc_all_different.nd rfl (Or.inl rfl) (pe_call X_surplus (hr.mono (by decide)) rfl m_surplus k_surplus b_surplus .nil (passes_call (E := E) (takes_of rfl rfl rfl rfl) (fun _ _ _ _ h => h)) (pa_cons (pv 0) (pa_cons (pv 1) (pa_cons (pv 2) pa_nil)))))
      (pss_cons (ps_if (pt_cmpR op_gt (pv 3) pe_int (nomark _)) (pss_one (ps_ret pe_non)) pss_nil)
      (pss_one (ps_ret (pe_un un_neg (pv 3)))))), run_ref (N := n_all_different) (C := C) (fun ds nm hd hE => ?_) h⟩)
  obtain ⟨a, x, y, e, _⟩ := id hd
  subst e
  exact x_seq (x_asgE (x_ref (a_cons (d_var rfl) (a_cons (d_var rfl) (a_cons (d_var rfl) a_nil))) hd hE))

theorem ok_accepts_threeX {P : Program} {w : World} {K : PySem.W.Frag} {mg : Str → Option Value} {base : Heap} {f C : Addr} {fd : FuncData} (F : Fun K "accepts_three" "accepts_three" s_accepts_three f fd) (T : Txt mg) (c_is_table_of_three : Cal P w K mg base CX0 9 "is_table_of_three" p_is_table_of_three (sp_is_table_of_three K)) (c_are_integers : Cal P w K mg base CX0 2 "are_integers" p_are_integers (sp_are_integers K)) {fx_medians : Addr} {fdx_medians : FuncData} (X_medians : FnOk P w K mg base (L2.CX P w) 6 fx_medians fdx_medians p_medians (spDR K C (sp_medians K) RcM1)) (m_medians : mg "medians" = some (.ref fx_medians)) (k_medians : PySem.W.keepIn K (.ref fx_medians) = true) (b_medians : Binds K fdx_medians p_medians []) :
    FnOk P w K mg base (L2.CX P w) 10 f fd p_accepts_three (spRef K C RcA4) := by
  refine F.okX sc_accepts_three (fun vs H Q E h => by obtain ⟨ds, nm, hb, hd, _⟩ := h; rw [hb.len, RcA4_len hd]; rfl) (fun cdv A outer s H vs Q E hr h => ⟨_, (pss_cons (ps_set (i := 4) sc_accepts_three.nd rfl (Or.inl rfl) (pe_call X_medians (hr.mono (by decide)) rfl m_medians k_medians b_medians .nil (passes_call (E := E) (takes_of rfl rfl rfl rfl) (fun _ _ _ _ h => h)) (pa_cons (pv 0) (pa_cons (pv 1) (pa_cons (pv 2) pa_nil)))))
      (pss_cons (ps_if (PW.pt (pw_or (pt_not (pt_val (pe_callB (k_isi (K := K) rfl) rfl T.b_isinstance (by decide +kernel) (pa_cons (pv 3) (pa_cons (pe_ty (n := "tuple") rfl T.b_tuple (by decide +kernel)) pa_nil))))) (pw_or1 (pt_cmpR (k_ne (K := K) rfl (rUnits hr)) (pe_callB (k_len (K := K) rfl) rfl T.b_len (by decide +kernel) (pa_cons (pv 3) pa_nil)) pe_int (nomark _))))) (pss_one (ps_ret pe_bl)) pss_nil)
      (pss_cons (ps_asg (pv 3) (k_tupA (K := K) (n := 2) rfl rfl (pgs_cons (pg_name (i := 5) sc_accepts_three.nd rfl (Or.inl rfl)) (pgs_cons (pg_name (i := 6) sc_accepts_three.nd rfl (Or.inl rfl)) pgs_nil))))
      (pss_cons (ps_if (pt_cmpR (k_eq (K := K) rfl (rUnits hr)) (pv 5) pe_str (nomark _)) (pss_one (ps_ret (pe_and (pe_cal (cal_up0 c_are_integers) (hr.mono (by decide)) rfl passL (pa_cons (pv 6) (pa_cons pe_int (pa_cons (pe_const rfl T.k_MOST_BUCKETS) pa_nil)))) (pe_and (pe_cmpR (k_eq (K := K) rfl (rUnits hr)) (pv 6) (pv 4) (nomark _)) (pe_one (pe_cmpR op_gt (pe_callB (k_sum (K := K) rfl rfl) rfl T.b_sum (by decide +kernel) (pa_cons (pv 4) pa_nil)) (pe_callB (k_sum (K := K) rfl rfl) rfl T.b_sum (by decide +kernel) (pa_cons (pv 0) pa_nil)) (nomark _))))))) pss_nil)
      (pss_one (ps_ret (pe_and (pe_cmpR (k_eq (K := K) rfl (rUnits hr)) (pv 5) pe_str (nomark _)) (pe_one (pe_cal (cal_up0 c_is_table_of_three) (hr.mono (by decide)) rfl passL (pa_cons (pe_tupN (pa_cons (pv 0) (pa_cons (pv 1) (pa_cons (pv 2) pa_nil)))) (pa_cons (pv 6) pa_nil))))))))))), run_ref (N := n_accepts_three) (C := C) (fun ds nm hd hE => ?_) h⟩)
  obtain ⟨a, x, y, z, rfl, hd⟩ := hd
  exact x_seq (x_asgE (x_ref (a_cons (d_var rfl) (a_cons (d_var rfl) (a_cons (d_var rfl) a_nil))) hd hE))

theorem ok_return_costX {P : Program} {w : World} {K : PySem.W.Frag} {mg : Str → Option Value} {base : Heap} {f C : Addr} {fd : FuncData} (F : Fun K "return_cost" "return_cost" s_return_cost f fd) (T : Txt mg) (c_transfer : Cal P w K mg base CX0 5 "transfer" p_transfer (sp_transfer K)) {fx_excess : Addr} {fdx_excess : FuncData} (X_excess : FnOk P w K mg base (L2.CX P w) 8 fx_excess fdx_excess p_excess (spDR K C (sp_excess K) RcM1)) (m_excess : mg "excess" = some (.ref fx_excess)) (k_excess : PySem.W.keepIn K (.ref fx_excess) = true) (b_excess : Binds K fdx_excess p_excess []) :
    FnOk P w K mg base (L2.CX P w) 9 f fd p_return_cost (spRef K C RcM1) := by
  refine F.okX sc_return_cost (fun vs H Q E h => by obtain ⟨ds, nm, hb, hd, _⟩ := h; rw [hb.len, RcM1_len hd]; rfl) (fun cdv A outer s H vs Q E hr h => ⟨_, (pss_cons (ps_set (i := 3) sc_return_cost.nd rfl (Or.inl rfl) (pe_call X_excess (hr.mono (by decide)) rfl m_excess k_excess b_excess .nil (passes_call (E := E) (takes_of rfl rfl rfl rfl) (fun _ _ _ _ h => h)) (pa_cons (pv 0) (pa_cons (pv 1) (pa_cons (pv 2) pa_nil)))))
      (pss_one (ps_ret (pe_op (k_add (K := K) rfl) (pe_cal (cal_up0 c_transfer) (hr.mono (by decide)) rfl passL (pa_cons (pv 0) (pa_cons (pv 2) pa_nil))) (pv 3))))), run_ref (N := n_return_cost) (C := C) (fun ds nm hd hE => ?_) h⟩)
  obtain ⟨a, x, y, e, _⟩ := id hd
  subst e
  exact x_seq (x_asgE (x_ref (a_cons (d_var rfl) (a_cons (d_var rfl) (a_cons (d_var rfl) a_nil))) hd hE))

theorem ok_returning_coresX {P : Program} {w : World} {K : PySem.W.Frag} {mg : Str → Option Value} {base : Heap} {f C : Addr} {fd : FuncData} (F : Fun K "returning_cores" "returning_cores" s_returning_cores f fd) (T : Txt mg) (c_medians : Cal P w K mg base CX0 5 "medians" p_medians (sp_medians K)) {fx_excess : Addr} {fdx_excess : FuncData} (X_excess : FnOk P w K mg base (L2.CX P w) 8 fx_excess fdx_excess p_excess (spDR K C (sp_excess K) RcM1)) (m_excess : mg "excess" = some (.ref fx_excess)) (k_excess : PySem.W.keepIn K (.ref fx_excess) = true) (b_excess : Binds K fdx_excess p_excess []) :
    FnOk P w K mg base (L2.CX P w) 9 f fd p_returning_cores (spRef K C RcM1) := by
  refine F.okX sc_returning_cores (fun vs H Q E h => by obtain ⟨ds, nm, hb, hd, _⟩ := h; rw [hb.len, RcM1_len hd]; rfl) (fun cdv A outer s H vs Q E hr h => ⟨_, (pss_cons (ps_set (i := 3) sc_returning_cores.nd rfl (Or.inl rfl) (pe_call X_excess (hr.mono (by decide)) rfl m_excess k_excess b_excess .nil (passes_call (E := E) (takes_of rfl rfl rfl rfl) (fun _ _ _ _ h => h)) (pa_cons (pv 0) (pa_cons (pv 1) (pa_cons (pv 2) pa_nil)))))
      (pss_cons (ps_set (i := 4) sc_returning_cores.nd rfl (Or.inl rfl) (pe_lst pa_nil))
      (pss_cons (ps_for (passes_of rfl) rfl (k_enum (K := K) rfl rfl T.b_enumerate (pa_cons (pe_cal (cal_up0 c_medians) (hr.mono (by decide)) rfl passL (pa_cons (pv 0) (pa_cons (pv 1) (pa_cons (pv 2) pa_nil)))) pa_nil)) (k_tup (K := K) (n := 2) rfl rfl (pgs_cons (pg_name (i := 5) sc_returning_cores.nd rfl (Or.inl rfl)) (pgs_cons (pg_name (i := 6) sc_returning_cores.nd rfl (Or.inl rfl)) pgs_nil))) (pss_cons (ps_set (i := 7) sc_returning_cores.nd rfl (Or.inl rfl) (pe_callB (call_min2 rfl) rfl T.b_min (by decide +kernel) (pa_cons (pv 3) (pa_cons (pe_callB (call_max2 rfl) rfl T.b_max (by decide +kernel) (pa_cons (pe_op op_sub (pv 6) (pe_ix (k_ix (K := K) rfl) (pv 1) (pv 5) (fun _ _ => rfl))) (pa_cons pe_int pa_nil))) pa_nil))))
      (pss_cons (ps_expr (k_bm (K := K) rfl PySem.F.plainAttrs_list PySem.F.slot_list_append PySem.F.type_list_append mt_append (pv 4) (pa_cons (pe_op op_sub (pv 6) (pv 7)) pa_nil)))
      (pss_one (ps_aug (i := 3) sc_returning_cores.nd rfl (Or.inl rfl) (pv 7) ip_sub)))))
      (pss_one (ps_ret (pv 4)))))), run_ref (N := n_returning_cores) (C := C) (fun ds nm hd hE => ?_) h⟩)
  obtain ⟨a, x, y, e, _⟩ := id hd
  subst e
  exact x_seq (x_asgE (x_ref (a_cons (d_var rfl) (a_cons (d_var rfl) (a_cons (d_var rfl) a_nil))) hd hE))

theorem ok_returnedX {P : Program} {w : World} {K : PySem.W.Frag} {mg : Str → Option Value} {base : Heap} {f C : Addr} {fd : FuncData} (F : Fun K "returned" "returned" s_returned f fd) (T : Txt mg) (c_is_assignment_of : Cal P w K mg base CX0 6 "is_assignment_of" p_is_assignment_of (sp_is_assignment_ofB K)) (c_laid_out : Cal P w K mg base CX0 1 "laid_out" p_laid_out (sp_laid_out K)) (c_buckets_of : Cal P w K mg base CX0 5 "buckets_of" p_buckets_of (sp_buckets_of K)) {fx_returning_cores : Addr} {fdx_returning_cores : FuncData} (X_returning_cores : FnOk P w K mg base (L2.CX P w) 9 fx_returning_cores fdx_returning_cores p_returning_cores (spDR K C (sp_returning_cores K) RcM1)) (m_returning_cores : mg "returning_cores" = some (.ref fx_returning_cores)) (k_returning_cores : PySem.W.keepIn K (.ref fx_returning_cores) = true) (b_returning_cores : Binds K fdx_returning_cores p_returning_cores []) {fx_require : Addr} {fdx_require : FuncData} (X_require : FnOk P w K mg base (L2.CX P w) 4 fx_require fdx_require p_require (spReq C)) (m_require : mg "require" = some (.ref fx_require)) (k_require : PySem.W.keepIn K (.ref fx_require) = true) (b_require : Binds K fdx_require p_require []) :
    FnOk P w K mg base (L2.CX P w) 10 f fd p_returned (spRef K C RcR4) := by
  refine F.okX sc_returned (fun vs H Q E h => by obtain ⟨ds, nm, hb, hd, _⟩ := h; rw [hb.len, RcR4_len hd]; rfl) (fun cdv A outer s H vs Q E hr h => ⟨_, (pss_cons (ps_set (i := 4) sc_returned.nd rfl (Or.inl rfl) (pe_call X_returning_cores (hr.mono (by decide)) rfl m_returning_cores k_returning_cores b_returning_cores .nil (passes_call (E := E) (takes_of rfl rfl rfl rfl) (fun _ _ _ _ h => h)) (pa_cons (pv 0) (pa_cons (pv 1) (pa_cons (pv 2) pa_nil)))))
      (pss_cons (ps_expr (pe_call X_require (hr.mono (by decide)) rfl m_require k_require b_require .nil (passes_call (E := E) (takes_of rfl rfl rfl rfl) (fun _ _ _ _ h => h)) (pa_cons (pe_cal (cal_up0 c_is_assignment_of) (hr.mono (by decide)) rfl passL (pa_cons (pv 3) (pa_cons (pv 0) pa_nil))) (pa_cons pe_str pa_nil))))
      (pss_cons (ps_asg (pe_tupN (pa_cons (pe_cal (cal_up0 c_laid_out) (hr.mono (by decide)) rfl passL (pa_cons (pv 0) (pa_cons (pv 4) pa_nil))) (pa_cons (pe_cal (cal_up0 c_laid_out) (hr.mono (by decide)) rfl passL (pa_cons (pv 1) (pa_cons (pv 4) pa_nil))) (pa_cons (pe_cal (cal_up0 c_laid_out) (hr.mono (by decide)) rfl passL (pa_cons (pv 2) (pa_cons (pv 4) pa_nil))) pa_nil)))) (k_tupA (K := K) (n := 3) rfl rfl (pgs_cons (pg_name (i := 5) sc_returned.nd rfl (Or.inr rfl)) (pgs_cons (pg_name (i := 6) sc_returned.nd rfl (Or.inr rfl)) (pgs_cons (pg_name (i := 7) sc_returned.nd rfl (Or.inr rfl)) pgs_nil)))))
      (pss_cons (ps_set (i := 8) sc_returned.nd rfl (Or.inr rfl) (pe_lc rfl sc_returned.nd (pi_range1 rfl T.b_range (pa_cons (pe_callB (k_len (K := K) rfl) rfl T.b_len (by decide +kernel) (pa_cons (pv 0) pa_nil)) pa_nil)) (blkOk_by (own := [("variant", 9)]) (N := n_returned) (sc := defScope s_returned) (by decide +kernel)) (fun _ _ _ _ _ => by exact (pg_name (i := 9) sc_returned.nd rfl (Or.inl rfl))) (fun _ _ _ _ _ => by exact pts_nil) (fun _ _ _ _ _ => by exact (pe_cal (cal_up0 c_buckets_of) (hr.mono (by decide)) rfl passL (pa_cons (pv 5) (pa_cons (pv 9) pa_nil))))))
      (pss_cons (ps_setLc (i := 10) rfl sc_returned.nd rfl rfl (sw_true rfl rfl rfl (by decide +kernel)) (k_seq (K := K) rfl (pv 3)) (blkOk_by (own := [("variant", 9)]) (N := n_returned) (sc := defScope s_returned) (by decide +kernel)) (fun _ _ _ _ _ => by exact (pg_name (i := 9) sc_returned.nd rfl (Or.inl rfl))) (fun _ _ _ _ _ => by exact pts_nil) (fun _ _ _ _ _ => by exact (k_bm (K := K) rfl PySem.F.plainAttrs_list PySem.F.slot_list_pop PySem.F.type_list_pop mt_popAt (pe_ix (k_ix (K := K) rfl) (pv 8) (pv 9) (fun _ _ => rfl)) (pa_cons pe_int pa_nil))))
      (pss_one (ps_ret (pe_tupN (pa_cons (pe_callTy (k_tuple (K := K) rfl) rfl T.b_tuple (by decide +kernel) (pa_cons (pe_lc rfl sc_returned.nd (k_seq (K := K) rfl (pv 10)) (blkOk_by (own := [("place", 11)]) (N := n_returned) (sc := defScope s_returned) (by decide +kernel)) (fun _ _ _ _ _ => by exact (pg_name (i := 11) sc_returned.nd rfl (Or.inl rfl))) (fun _ _ _ _ _ => by exact pts_nil) (fun _ _ _ _ _ => by exact (pe_ix (k_ix (K := K) rfl) (pv 6) (pv 11) (fun _ _ => rfl)))) pa_nil)) (pa_cons (pe_callTy (k_tuple (K := K) rfl) rfl T.b_tuple (by decide +kernel) (pa_cons (pe_lc rfl sc_returned.nd (k_seq (K := K) rfl (pv 10)) (blkOk_by (own := [("place", 11)]) (N := n_returned) (sc := defScope s_returned) (by decide +kernel)) (fun _ _ _ _ _ => by exact (pg_name (i := 11) sc_returned.nd rfl (Or.inl rfl))) (fun _ _ _ _ _ => by exact pts_nil) (fun _ _ _ _ _ => by exact (pe_ix (k_ix (K := K) rfl) (pv 7) (pv 11) (fun _ _ => rfl)))) pa_nil)) pa_nil)))))))))), run_ref (N := n_returned) (C := C) (fun ds nm hd hE => ?_) h⟩)
  obtain ⟨a, x, y, z, rfl, hd | ⟨as, bs, cs, v, b, rfl, rfl, rfl, ha, hb, hc, v1, v5, b20, hs, hz, rfl⟩⟩ := hd
  · exact x_seq (x_asgE (x_ref (a_cons (d_var rfl) (a_cons (d_var rfl) (a_cons (d_var rfl) a_nil))) hd hE))
  · refine x_asgO (d := .list ((retC as bs cs).map .int)) (x_good (k := .o) (a_cons (d_var rfl) (a_cons (d_var rfl) (a_cons (d_var rfl) a_nil))) ⟨as, bs, cs, v, b, rfl, ha, hb, hc, v1, v5, b20, rfl, rfl⟩) ?_
    exact x_seq (xl_req (by decide) hE (d_call (k := .v) (d := .bool false) (a_cons (d_var rfl) (a_cons (d_var rfl) a_nil)) ⟨z, as, v, b, rfl, hs, ha, v1, v5, b20, rfl, by rw [hz]⟩))

theorem ok_accepts_returnX {P : Program} {w : World} {K : PySem.W.Frag} {mg : Str → Option Value} {base : Heap} {f C : Addr} {fd : FuncData} (F : Fun K "accepts_return" "accepts_return" s_accepts_return f fd) (T : Txt mg) (c_are_assignments_of : Cal P w K mg base CX0 7 "are_assignments_of" p_are_assignments_of (sp_are_assignments_ofB K)) (c_churn : Cal P w K mg base CX0 7 "churn" p_churn (sp_churn K)) (c_is_least : Cal P w K mg base CX0 8 "is_least" p_is_least (sp_is_least K)) {fx_return_cost : Addr} {fdx_return_cost : FuncData} (X_return_cost : FnOk P w K mg base (L2.CX P w) 9 fx_return_cost fdx_return_cost p_return_cost (spDR K C (sp_return_cost K) RcM1)) (m_return_cost : mg "return_cost" = some (.ref fx_return_cost)) (k_return_cost : PySem.W.keepIn K (.ref fx_return_cost) = true) (b_return_cost : Binds K fdx_return_cost p_return_cost []) :
    FnOk P w K mg base (L2.CX P w) 10 f fd p_accepts_return (spRef K C RcA4) := by
  refine F.okX sc_accepts_return (fun vs H Q E h => by obtain ⟨ds, nm, hb, hd, _⟩ := h; rw [hb.len, RcA4_len hd]; rfl) (fun cdv A outer s H vs Q E hr h => ⟨_, (pss_cons (ps_set (i := 4) sc_accepts_return.nd rfl (Or.inl rfl) (pe_call X_return_cost (hr.mono (by decide)) rfl m_return_cost k_return_cost b_return_cost .nil (passes_call (E := E) (takes_of rfl rfl rfl rfl) (fun _ _ _ _ h => h)) (pa_cons (pv 0) (pa_cons (pv 1) (pa_cons (pv 2) pa_nil)))))
      (pss_cons (ps_if (pt_not (pt_val (pe_cal (cal_up0 c_are_assignments_of) (hr.mono (by decide)) rfl passL (pa_cons (pv 3) (pa_cons (pe_tupN (pa_cons (pv 0) (pa_cons (pv 1) (pa_cons (pv 2) pa_nil)))) pa_nil))))) (pss_one (ps_ret pe_bl)) pss_nil)
      (pss_cons (ps_asg (pv 3) (k_tupA (K := K) (n := 3) rfl rfl (pgs_cons (pg_name (i := 5) sc_accepts_return.nd rfl (Or.inl rfl)) (pgs_cons (pg_name (i := 6) sc_accepts_return.nd rfl (Or.inl rfl)) (pgs_cons (pg_name (i := 7) sc_accepts_return.nd rfl (Or.inl rfl)) pgs_nil)))))
      (pss_cons (ps_if (PW.pt (pw_or (pt_not (pt_val (pe_cal (cal_up0 c_is_least) (hr.mono (by decide)) rfl passL (pa_cons (pv 0) (pa_cons (pv 1) (pa_cons (pv 5) (pa_cons (pv 6) pa_nil))))))) (pw_or1 (pt_not (pt_val (pe_cal (cal_up0 c_is_least) (hr.mono (by decide)) rfl passL (pa_cons (pv 1) (pa_cons (pv 2) (pa_cons (pv 6) (pa_cons (pv 7) pa_nil)))))))))) (pss_one (ps_ret pe_bl)) pss_nil)
      (pss_one (ps_ret (pe_cmpR (k_eq (K := K) rfl (rUnits hr)) (pe_cal (cal_up0 c_churn) (hr.mono (by decide)) rfl passL (pa_cons (pv 5) (pa_cons (pv 7) pa_nil))) (pv 4) (nomark _)))))))), run_ref (N := n_accepts_return) (C := C) (fun ds nm hd hE => ?_) h⟩)
  obtain ⟨a, x, y, z, rfl, hd⟩ := hd
  exact x_seq (x_asgE (x_ref (a_cons (d_var rfl) (a_cons (d_var rfl) (a_cons (d_var rfl) a_nil))) hd hE))

theorem ok_lies_betweenX {P : Program} {w : World} {K : PySem.W.Frag} {mg : Str → Option Value} {base : Heap} {f C : Addr} {fd : FuncData} (F : Fun K "lies_between" "lies_between" s_lies_between f fd) (T : Txt mg) (c_transfer : Cal P w K mg base CX0 5 "transfer" p_transfer (sp_transfer K)) {fx_check_allocation : Addr} {fdx_check_allocation : FuncData} (X_check_allocation : FnOk P w K mg base (L2.CX P w) 5 fx_check_allocation fdx_check_allocation p_check_allocation (spDR K C (sp_check_allocation K) RcAl)) (m_check_allocation : mg "check_allocation" = some (.ref fx_check_allocation)) (k_check_allocation : PySem.W.keepIn K (.ref fx_check_allocation) = true) (b_check_allocation : Binds K fdx_check_allocation p_check_allocation []) {fx_check_alike : Addr} {fdx_check_alike : FuncData} (X_check_alike : FnOk P w K mg base (L2.CX P w) 5 fx_check_alike fdx_check_alike p_check_alike (spDR K C (sp_check_alike K) RcLk)) (m_check_alike : mg "check_alike" = some (.ref fx_check_alike)) (k_check_alike : PySem.W.keepIn K (.ref fx_check_alike) = true) (b_check_alike : Binds K fdx_check_alike p_check_alike []) :
    FnOk P w K mg base (L2.CX P w) 6 f fd p_lies_between (spRef K C RcLB) := by
  refine F.okX sc_lies_between (fun vs H Q E h => by obtain ⟨ds, nm, hb, hd, _⟩ := h; rw [hb.len, RcLB_len hd]; rfl) (fun cdv A outer s H vs Q E hr h => ⟨_, (pss_cons (ps_expr (pe_call X_check_allocation (hr.mono (by decide)) rfl m_check_allocation k_check_allocation b_check_allocation .nil (passes_call (E := E) (takes_of rfl rfl rfl rfl) (fun _ _ _ _ h => h)) (pa_cons (pv 0) (pa_cons pe_str pa_nil))))
      (pss_cons (ps_expr (pe_call X_check_alike (hr.mono (by decide)) rfl m_check_alike k_check_alike b_check_alike .nil (passes_call (E := E) (takes_of rfl rfl rfl rfl) (fun _ _ _ _ h => h)) (pa_cons (pv 1) (pa_cons (pv 0) (pa_cons pe_str pa_nil)))))
      (pss_cons (ps_expr (pe_call X_check_alike (hr.mono (by decide)) rfl m_check_alike k_check_alike b_check_alike .nil (passes_call (E := E) (takes_of rfl rfl rfl rfl) (fun _ _ _ _ h => h)) (pa_cons (pv 2) (pa_cons (pv 0) (pa_cons pe_str pa_nil)))))
      (pss_one (ps_ret (pe_cmpR (k_eq (K := K) rfl (rUnits hr)) (pe_op (k_add (K := K) rfl) (pe_cal (cal_up0 c_transfer) (hr.mono (by decide)) rfl passL (pa_cons (pv 1) (pa_cons (pv 0) pa_nil))) (pe_cal (cal_up0 c_transfer) (hr.mono (by decide)) rfl passL (pa_cons (pv 0) (pa_cons (pv 2) pa_nil)))) (pe_cal (cal_up0 c_transfer) (hr.mono (by decide)) rfl passL (pa_cons (pv 1) (pa_cons (pv 2) pa_nil))) (nomark _))))))), run_ref (N := n_lies_between) (C := C) (fun ds nm hd hE => ?_) h⟩)
  obtain ⟨a, x, y, rfl, ⟨hs, hb, rfl⟩ | ⟨as, v, b, rfl, ha, v1, v5, b20, ⟨hs, hb, rfl⟩ | ⟨cs, rfl, hc, hs, hb, rfl⟩⟩⟩ := hd
  · exact x_seq (x_dropE (x_ref (ds := [a, .str "middle"]) (nm := "middle") (a_cons (d_var rfl) (a_cons d_str a_nil)) ⟨a, rfl, by decide, hs, hb⟩ hE))
  · refine x_drop (x_good (k := .v) (d := .none) (a_cons (d_var rfl) (a_cons d_str a_nil)) ⟨as, v, b, "middle", rfl, ha, v1, v5, b20, rfl, rfl⟩) ?_
    exact x_seq (x_dropE (x_ref (ds := [x, tupD as, .str "first"]) (nm := "first") (a_cons (d_var rfl) (a_cons (d_var rfl) (a_cons d_str a_nil))) ⟨x, as, v, b, rfl, by decide, ha, hs, hb⟩ hE))
  · refine x_drop (x_good (k := .v) (d := .none) (a_cons (d_var rfl) (a_cons d_str a_nil)) ⟨as, v, b, "middle", rfl, ha, v1, v5, b20, rfl, rfl⟩) ?_
    refine x_drop (x_good (k := .v) (d := .none) (a_cons (d_var rfl) (a_cons (d_var rfl) (a_cons d_str a_nil))) ⟨cs, as, v, b, "first", rfl, hc, ha, by omega, rfl, rfl⟩) ?_
    exact x_seq (x_dropE (x_ref (ds := [y, tupD as, .str "second"]) (nm := "second") (a_cons (d_var rfl) (a_cons (d_var rfl) (a_cons d_str a_nil))) ⟨y, as, v, b, rfl, by decide, ha, hs, hb⟩ hE))

theorem ok_bridgeX {P : Program} {w : World} {K : PySem.W.Frag} {mg : Str → Option Value} {base : Heap} {f C : Addr} {fd : FuncData} (F : Fun K "bridge" "bridge" s_bridge f fd) (T : Txt mg) (c_medians : Cal P w K mg base CX0 5 "medians" p_medians (sp_medians K)) {fx_surplus : Addr} {fdx_surplus : FuncData} (X_surplus : FnOk P w K mg base (L2.CX P w) 7 fx_surplus fdx_surplus p_surplus (spDR K C (sp_surplus K) RcM1)) (m_surplus : mg "surplus" = some (.ref fx_surplus)) (k_surplus : PySem.W.keepIn K (.ref fx_surplus) = true) (b_surplus : Binds K fdx_surplus p_surplus []) :
    FnOk P w K mg base (L2.CX P w) 8 f fd p_bridge (spRef K C RcM1) := by
  refine F.okX sc_bridge (fun vs H Q E h => by obtain ⟨ds, nm, hb, hd, _⟩ := h; rw [hb.len, RcM1_len hd]; rfl) (fun cdv A outer s H vs Q E hr h => ⟨_, (pss_cons (ps_if (pt_cmpR (k_ne (K := K) rfl (rUnits hr)) (pe_call X_surplus (hr.mono (by decide)) rfl m_surplus k_surplus b_surplus .nil (passes_call (E := E) (takes_of rfl rfl rfl rfl) (fun _ _ _ _ h => h)) (pa_cons (pv 0) (pa_cons (pv 1) (pa_cons (pv 2) pa_nil)))) pe_int (nomark _)) (pss_one (ps_ret pe_non)) pss_nil)
      (pss_one (ps_ret (pe_cal (cal_up0 c_medians) (hr.mono (by decide)) rfl passL (pa_cons (pv 0) (pa_cons (pv 1) (pa_cons (pv 2) pa_nil))))))), run_ref (N := n_bridge) (C := C) (fun ds nm hd hE => ?_) h⟩)
  obtain ⟨a, x, y, e, _⟩ := id hd
  subst e
  exact x_seq (x_if (x_test (x_opl (x_ref (a_cons (d_var rfl) (a_cons (d_var rfl) (a_cons (d_var rfl) a_nil))) hd hE))))

theorem ok__law_toldX {P : Program} {w : World} {K : PySem.W.Frag} {mg : Str → Option Value} {base : Heap} {f C : Addr} {fd : FuncData} (F : Fun K "_law_told" "_law_told" s__law_told f fd) (T : Txt mg) (X : Exc1 P w K mg base "BadValue" "name" C) {fx_excess : Addr} {fdx_excess : FuncData} (X_excess : FnOk P w K mg base (L2.CX P w) 8 fx_excess fdx_excess p_excess (spDR K C (sp_excess K) RcM1)) (m_excess : mg "excess" = some (.ref fx_excess)) (k_excess : PySem.W.keepIn K (.ref fx_excess) = true) (b_excess : Binds K fdx_excess p_excess []) {fx_table_of_three : Addr} {fdx_table_of_three : FuncData} (X_table_of_three : FnOk P w K mg base (L2.CX P w) 8 fx_table_of_three fdx_table_of_three p_table_of_three (spDR K C (sp_table_of_three K) RcM1)) (m_table_of_three : mg "table_of_three" = some (.ref fx_table_of_three)) (k_table_of_three : PySem.W.keepIn K (.ref fx_table_of_three) = true) (b_table_of_three : Binds K fdx_table_of_three p_table_of_three []) {fx_all_different : Addr} {fdx_all_different : FuncData} (X_all_different : FnOk P w K mg base (L2.CX P w) 8 fx_all_different fdx_all_different p_all_different (spDR K C (sp_all_different K) RcM1)) (m_all_different : mg "all_different" = some (.ref fx_all_different)) (k_all_different : PySem.W.keepIn K (.ref fx_all_different) = true) (b_all_different : Binds K fdx_all_different p_all_different []) {fx_accepts_three : Addr} {fdx_accepts_three : FuncData} (X_accepts_three : FnOk P w K mg base (L2.CX P w) 10 fx_accepts_three fdx_accepts_three p_accepts_three (spDR K C (sp_accepts_three K) RcA4)) (m_accepts_three : mg "accepts_three" = some (.ref fx_accepts_three)) (k_accepts_three : PySem.W.keepIn K (.ref fx_accepts_three) = true) (b_accepts_three : Binds K fdx_accepts_three p_accepts_three []) {fx_return_cost : Addr} {fdx_return_cost : FuncData} (X_return_cost : FnOk P w K mg base (L2.CX P w) 9 fx_return_cost fdx_return_cost p_return_cost (spDR K C (sp_return_cost K) RcM1)) (m_return_cost : mg "return_cost" = some (.ref fx_return_cost)) (k_return_cost : PySem.W.keepIn K (.ref fx_return_cost) = true) (b_return_cost : Binds K fdx_return_cost p_return_cost []) {fx_accepts_return : Addr} {fdx_accepts_return : FuncData} (X_accepts_return : FnOk P w K mg base (L2.CX P w) 10 fx_accepts_return fdx_accepts_return p_accepts_return (spDR K C (sp_accepts_return K) RcA4)) (m_accepts_return : mg "accepts_return" = some (.ref fx_accepts_return)) (k_accepts_return : PySem.W.keepIn K (.ref fx_accepts_return) = true) (b_accepts_return : Binds K fdx_accepts_return p_accepts_return []) {fx_bridge : Addr} {fdx_bridge : FuncData} (X_bridge : FnOk P w K mg base (L2.CX P w) 8 fx_bridge fdx_bridge p_bridge (spDR K C (sp_bridge K) RcM1)) (m_bridge : mg "bridge" = some (.ref fx_bridge)) (k_bridge : PySem.W.keepIn K (.ref fx_bridge) = true) (b_bridge : Binds K fdx_bridge p_bridge []) {fx_returned : Addr} {fdx_returned : FuncData} (X_returned : FnOk P w K mg base (L2.CX P w) 10 fx_returned fdx_returned p_returned (spDR K C (sp_returned K) RcR4)) (m_returned : mg "returned" = some (.ref fx_returned)) (k_returned : PySem.W.keepIn K (.ref fx_returned) = true) (b_returned : Binds K fdx_returned p_returned []) {fx_lies_between : Addr} {fdx_lies_between : FuncData} (X_lies_between : FnOk P w K mg base (L2.CX P w) 6 fx_lies_between fdx_lies_between p_lies_between (spDR K C (sp_lies_between K) RcLB)) (m_lies_between : mg "lies_between" = some (.ref fx_lies_between)) (k_lies_between : PySem.W.keepIn K (.ref fx_lies_between) = true) (b_lies_between : Binds K fdx_lies_between p_lies_between []) :
    FnOk P w K mg base (L2.CX P w) 11 f fd p__law_told (sp__law_told34 K) := by
  refine F.okX sc__law_told (fun vs H Q E h => spD_len (E := E) h (by rintro ds k d ⟨w, a, x, y, z, nm, rfl, _⟩; rfl)) (fun cdv A outer s H vs Q E hr h => ⟨_, (pss_one (ps_try_as (i := 5) (Wout := fun cls d _ H => E cls d H) rfl rfl sc__law_told.nd rfl rfl ⟨rfl, by decide, .inl X.hC⟩ (takes_of rfl rfl rfl rfl)
    (fun W pn xe tk po => (pss_cons (ps_if (pt_cmpR (k_eq (K := K) rfl (rUnits hr)) (pv 0) pe_int (nomark _)) (pss_one (ps_ret (pe_callS X_excess (hr.mono (by decide)) rfl m_excess k_excess b_excess (fun σ => passAt tk σ) (pa_cons (pv 1) (pa_cons (pv 2) (pa_cons (pv 3) pa_nil)))))) pss_nil)
      (pss_cons (ps_if (pt_cmpR (k_eq (K := K) rfl (rUnits hr)) (pv 0) pe_int (nomark _)) (pss_one (ps_ret (pe_callS X_table_of_three (hr.mono (by decide)) rfl m_table_of_three k_table_of_three b_table_of_three (fun σ => passAt tk σ) (pa_cons (pv 1) (pa_cons (pv 2) (pa_cons (pv 3) pa_nil)))))) pss_nil)
      (pss_cons (ps_if (pt_cmpR (k_eq (K := K) rfl (rUnits hr)) (pv 0) pe_int (nomark _)) (pss_one (ps_ret (pe_callS X_all_different (hr.mono (by decide)) rfl m_all_different k_all_different b_all_different (fun σ => passAt tk σ) (pa_cons (pv 1) (pa_cons (pv 2) (pa_cons (pv 3) pa_nil)))))) pss_nil)
      (pss_cons (ps_if (pt_cmpR (k_eq (K := K) rfl (rUnits hr)) (pv 0) pe_int (nomark _)) (pss_one (ps_ret (pe_callS X_accepts_three (hr.mono (by decide)) rfl m_accepts_three k_accepts_three b_accepts_three (fun σ => passAt tk σ) (pa_cons (pv 1) (pa_cons (pv 2) (pa_cons (pv 3) (pa_cons (pv 4) pa_nil))))))) pss_nil)
      (pss_cons (ps_if (pt_cmpR (k_eq (K := K) rfl (rUnits hr)) (pv 0) pe_int (nomark _)) (pss_one (ps_ret (pe_callS X_return_cost (hr.mono (by decide)) rfl m_return_cost k_return_cost b_return_cost (fun σ => passAt tk σ) (pa_cons (pv 1) (pa_cons (pv 2) (pa_cons (pv 3) pa_nil)))))) pss_nil)
      (pss_cons (ps_if (pt_cmpR (k_eq (K := K) rfl (rUnits hr)) (pv 0) pe_int (nomark _)) (pss_one (ps_ret (pe_callS X_accepts_return (hr.mono (by decide)) rfl m_accepts_return k_accepts_return b_accepts_return (fun σ => passAt tk σ) (pa_cons (pv 1) (pa_cons (pv 2) (pa_cons (pv 3) (pa_cons (pv 4) pa_nil))))))) pss_nil)
      (pss_cons (ps_if (pt_cmpR (k_eq (K := K) rfl (rUnits hr)) (pv 0) pe_int (nomark _)) (pss_one (ps_ret (pe_callS X_bridge (hr.mono (by decide)) rfl m_bridge k_bridge b_bridge (fun σ => passAt tk σ) (pa_cons (pv 1) (pa_cons (pv 2) (pa_cons (pv 3) pa_nil)))))) pss_nil)
      (pss_cons (ps_if (pt_cmpR (k_eq (K := K) rfl (rUnits hr)) (pv 0) pe_int (nomark _)) (pss_one (ps_ret (pe_callS X_returned (hr.mono (by decide)) rfl m_returned k_returned b_returned (fun σ => passAt tk σ) (pa_cons (pv 1) (pa_cons (pv 2) (pa_cons (pv 3) (pa_cons (pv 4) pa_nil))))))) pss_nil)
      (pss_one (ps_ret (pe_callS X_lies_between (hr.mono (by decide)) rfl m_lies_between k_lies_between b_lies_between (fun σ => passAt tk σ) (pa_cons (pv 1) (pa_cons (pv 2) (pa_cons (pv 3) pa_nil)))))))))))))))
    (fun a oe cls d pn hz hf => (pss_one (ps_ret (pe_tupN (pa_cons pe_str (pa_cons (pe_xf X.X X.no hz hf (pv 5)) pa_nil)))))))), ?_⟩)
  obtain ⟨ds, k', d, hb, ⟨w, a, x, y, z, nm, rfl, hw, hR, rfl, rfl⟩, q⟩ := h
  have lv : vs.length = 5 := by rw [hb.len]; rfl
  obtain ⟨v0, v1, v2, v3, v4, rfl⟩ : ∃ v0 v1 v2 v3 v4, vs = [v0, v1, v2, v3, v4] := match vs, lv with | [v0, v1, v2, v3, v4], _ => ⟨v0, v1, v2, v3, v4, rfl⟩
  have env := env_args (N := n__law_told) Ji.pc hb
  have fin : ∀ (dx : Addr) (H1 : Hp), Same H H1 → ∀ (p : Addr) (H2 : Hp), Same H1 H2 → TpN K H2 p [.str "bad", .str nm] → Q (.ref p) H2 := fun dx H1 sm p H2 sm2 tp => q _ _ (fun a o w => sm2 a o (sm a o w)) ⟨rfl, .tup tp (.cons (.str _) (.cons (.str _) .nil))⟩
  obtain ⟨a', x', y', z', e, hR⟩ := hR
  cases e
  refine (?_ : SdY (pc K) H (start n__law_told [v0, v1, v2, v3, v4]) _ _) [] H _ env
  have skip : ∀ {i : Int} {t u : TS}, ¬ (w : Int) = i → SdY (pc K) H (start n__law_told [v0, v1, v2, v3, v4]) u (argsG [.int (w : Int), a, x, y, z] n__law_told.length) → SdY (pc K) H (start n__law_told [v0, v1, v2, v3, v4]) (tSeq (tIfS (tTest (tOp (rEqA K) (tVar 0) (tC (.int i)))) t tNext) u) (argsG [.int (w : Int), a, x, y, z] n__law_told.length) := fun hi p => y_skip (EvT.to (t_test (e_eqI (d_var rfl) d_int)) (decide_eq_false hi)) p
  match w, hw with
  | 0, _ => exact (y_take (EvT.to (t_test (e_eqI (d_var rfl) d_int)) rfl) (y_ret (a_cons (d_var rfl) (a_cons (d_var rfl) (a_cons (d_var rfl) a_nil))) hR fun dx H1 sm hdx => was_tup X (id (by decide : (5 : Nat) < 6)) hdx (fin dx H1 sm)))
  | 1, _ => exact (skip (by decide) (y_take (EvT.to (t_test (e_eqI (d_var rfl) d_int)) rfl) (y_ret (a_cons (d_var rfl) (a_cons (d_var rfl) (a_cons (d_var rfl) a_nil))) hR fun dx H1 sm hdx => was_tup X (id (by decide : (5 : Nat) < 6)) hdx (fin dx H1 sm))))
  | 2, _ => exact (skip (by decide) (skip (by decide) (y_take (EvT.to (t_test (e_eqI (d_var rfl) d_int)) rfl) (y_ret (a_cons (d_var rfl) (a_cons (d_var rfl) (a_cons (d_var rfl) a_nil))) hR fun dx H1 sm hdx => was_tup X (id (by decide : (5 : Nat) < 6)) hdx (fin dx H1 sm)))))
  | 3, _ => exact (skip (by decide) (skip (by decide) (skip (by decide) (y_take (EvT.to (t_test (e_eqI (d_var rfl) d_int)) rfl) (y_ret (a_cons (d_var rfl) (a_cons (d_var rfl) (a_cons (d_var rfl) (a_cons (d_var rfl) a_nil)))) ⟨a, x, y, z, rfl, hR⟩ fun dx H1 sm hdx => was_tup X (id (by decide : (5 : Nat) < 6)) hdx (fin dx H1 sm))))))
  | 4, _ => exact (skip (by decide) (skip (by decide) (skip (by decide) (skip (by decide) (y_take (EvT.to (t_test (e_eqI (d_var rfl) d_int)) rfl) (y_ret (a_cons (d_var rfl) (a_cons (d_var rfl) (a_cons (d_var rfl) a_nil))) hR fun dx H1 sm hdx => was_tup X (id (by decide : (5 : Nat) < 6)) hdx (fin dx H1 sm)))))))
  | 5, _ => exact (skip (by decide) (skip (by decide) (skip (by decide) (skip (by decide) (skip (by decide) (y_take (EvT.to (t_test (e_eqI (d_var rfl) d_int)) rfl) (y_ret (a_cons (d_var rfl) (a_cons (d_var rfl) (a_cons (d_var rfl) (a_cons (d_var rfl) a_nil)))) ⟨a, x, y, z, rfl, hR⟩ fun dx H1 sm hdx => was_tup X (id (by decide : (5 : Nat) < 6)) hdx (fin dx H1 sm))))))))
  | 6, _ => exact (skip (by decide) (skip (by decide) (skip (by decide) (skip (by decide) (skip (by decide) (skip (by decide) (y_take (EvT.to (t_test (e_eqI (d_var rfl) d_int)) rfl) (y_ret (a_cons (d_var rfl) (a_cons (d_var rfl) (a_cons (d_var rfl) a_nil))) hR fun dx H1 sm hdx => was_tup X (id (by decide : (5 : Nat) < 6)) hdx (fin dx H1 sm)))))))))
  | 7, _ => exact (skip (by decide) (skip (by decide) (skip (by decide) (skip (by decide) (skip (by decide) (skip (by decide) (skip (by decide) (y_take (EvT.to (t_test (e_eqI (d_var rfl) d_int)) rfl) (y_ret (a_cons (d_var rfl) (a_cons (d_var rfl) (a_cons (d_var rfl) (a_cons (d_var rfl) a_nil)))) hR fun dx H1 sm hdx => was_tup X (id (by decide : (5 : Nat) < 6)) hdx (fin dx H1 sm))))))))))
  | 8, _ => exact (skip (by decide) (skip (by decide) (skip (by decide) (skip (by decide) (skip (by decide) (skip (by decide) (skip (by decide) (skip (by decide) (y_ret (a_cons (d_var rfl) (a_cons (d_var rfl) (a_cons (d_var rfl) a_nil))) hR fun dx H1 sm hdx => was_tup X (id (by decide : (5 : Nat) < 6)) hdx (fin dx H1 sm))))))))))
  | w + 9, h => omega

end W

namespace W
open PySem PySem.Spec PyProof.Rows L2 Lm
theorem ok_law {P : Program} {w : World} {K : PySem.W.Frag} {mg : Str → Option Value} {base : Heap} {f : Addr} {fd : FuncData} (F : Fun K "law" "law" s_law f fd) (T : Txt mg) (c__law_stream : Cal P w K mg base CX0 1 "_law_stream" p__law_stream (sp__law_stream K)) (c__law_sizes : Cal P w K mg base CX0 2 "_law_sizes" p__law_sizes (sp__law_sizesT K)) (c__law_three : Cal P w K mg base CX0 4 "_law_three" p__law_three (sp__law_three K)) (c__law_wrong : Cal P w K mg base CX0 2 "_law_wrong" p__law_wrong (sp__law_wrong K)) (c__law_equal : Cal P w K mg base CX0 10 "_law_equal" p__law_equal (sp__law_equal K)) (c__law_next : Cal P w K mg base CX0 1 "_law_next" p__law_next (sp__law_next K)) (c__law_of : Cal P w K mg base CX0 2 "_law_of" p__law_of (sp__law_of K)) (c__law_told : Cal P w K mg base CX0 11 "_law_told" p__law_told (sp__law_told34 K)) :
    FnOk P w K mg base CX0 12 f fd p_law (spLaw K) := by
  refine F.ok sc_law (fun vs H Q E h => by obtain ⟨a, ns, rfl, _⟩ := h; rfl) (fun cdv A outer s H vs Q E hr h => ⟨_, (pss_cons (ps_set (i := 1) sc_law.nd rfl (Or.inl rfl) (pe_cal c__law_stream (hr.mono (by decide)) rfl pass0 (pa_cons (pv 0) pa_nil)))
      (pss_cons (ps_asg (pe_cal c__law_sizes (hr.mono (by decide)) rfl pass0 (pa_cons (pv 1) pa_nil)) (k_tupA (K := K) (n := 2) rfl rfl (pgs_cons (pg_name (i := 2) sc_law.nd rfl (Or.inl rfl)) (pgs_cons (pg_name (i := 3) sc_law.nd rfl (Or.inl rfl)) pgs_nil))))
      (pss_cons (ps_set (i := 4) sc_law.nd rfl (Or.inl rfl) (pe_cal c__law_three (hr.mono (by decide)) rfl pass0 (pa_cons (pv 1) (pa_cons (pv 2) (pa_cons (pv 3) pa_nil)))))
      (pss_cons (ps_set (i := 5) sc_law.nd rfl (Or.inl rfl) (pe_ix (k_ix (K := K) rfl) (pe_lst (pa_cons (pe_callTy (k_list (K := K) rfl) rfl T.b_list (by decide +kernel) (pa_cons (pe_ix (k_ix (K := K) rfl) (pv 4) pe_int (fun _ _ => rfl)) pa_nil)) (pa_cons (pe_tupN pa_nil) (pa_cons (pe_tupN (pa_cons pe_int pa_nil)) (pa_cons (pe_op (k_repU (K := K) rfl) (pe_tupN (pa_cons pe_int pa_nil)) pe_int) (pa_cons (pe_tupN (pa_cons (pe_un un_neg pe_int) (pa_cons pe_int pa_nil))) (pa_cons (pe_tupN (pa_cons pe_bl (pa_cons pe_int pa_nil))) (pa_cons pe_non (pa_cons (pe_tupN (pa_cons pe_int (pa_cons pe_int pa_nil))) pa_nil))))))))) (pe_cal c__law_next (hr.mono (by decide)) rfl pass0 (pa_cons (pv 1) (pa_cons pe_int pa_nil))) (fun _ _ => rfl)))
      (pss_cons (ps_set (i := 6) sc_law.nd rfl (Or.inl rfl) (pe_cal c__law_wrong (hr.mono (by decide)) rfl pass0 (pa_cons (pv 1) (pa_cons (pe_ix (k_ix (K := K) rfl) (pv 4) pe_int (fun _ _ => rfl)) pa_nil))))
      (pss_cons (ps_set (i := 7) sc_law.nd rfl (Or.inl rfl) (pe_cal c__law_wrong (hr.mono (by decide)) rfl pass0 (pa_cons (pv 1) (pa_cons (pe_ix (k_ix (K := K) rfl) (pv 4) pe_int (fun _ _ => rfl)) pa_nil))))
      (pss_cons (ps_set (i := 8) sc_law.nd rfl (Or.inl rfl) (pe_lst (pa_cons pe_str (pa_cons pe_str (pa_cons pe_str pa_nil)))))
      (pss_cons (ps_for PassesOwn.never rfl (pi_range1 rfl T.b_range (pa_cons pe_int pa_nil)) (pg_name (i := 9) sc_law.nd rfl (Or.inl rfl)) (pss_cons (ps_if (pt_cmpR (k_eq (K := K) rfl (rUnits hr)) (pv 9) pe_int (nomark _)) (pss_one (ps_set (i := 8) sc_law.nd rfl (Or.inl rfl) (pe_lst (pa_cons pe_str (pa_cons pe_str (pa_cons pe_str pa_nil)))))) pss_nil)
      (pss_cons (ps_if (pt_not (pt_val (pe_cal c__law_equal (hr.mono (by decide)) rfl pass0 (pa_cons (pe_cal c__law_told (hr.mono (by decide)) rfl pass0 (pa_cons (pv 9) (pa_cons (pv 5) (pa_cons (pv 6) (pa_cons (pv 7) (pa_cons pe_non pa_nil)))))) (pa_cons (pe_tupN (pa_cons pe_str (pa_cons (pe_ix (k_ix (K := K) rfl) (pv 8) pe_int (fun _ _ => rfl)) pa_nil))) pa_nil))))) (pss_one (ps_ret pe_bl)) pss_nil)
      (pss_cons (ps_if (pt_not (pt_val (pe_cal c__law_equal (hr.mono (by decide)) rfl pass0 (pa_cons (pe_cal c__law_told (hr.mono (by decide)) rfl pass0 (pa_cons (pv 9) (pa_cons (pe_ix (k_ix (K := K) rfl) (pv 4) pe_int (fun _ _ => rfl)) (pa_cons (pv 6) (pa_cons (pv 7) (pa_cons pe_non pa_nil)))))) (pa_cons (pe_tupN (pa_cons pe_str (pa_cons (pe_ix (k_ix (K := K) rfl) (pv 8) pe_int (fun _ _ => rfl)) pa_nil))) pa_nil))))) (pss_one (ps_ret pe_bl)) pss_nil)
      (pss_one (ps_if (pt_not (pt_val (pe_cal c__law_equal (hr.mono (by decide)) rfl pass0 (pa_cons (pe_cal c__law_told (hr.mono (by decide)) rfl pass0 (pa_cons (pv 9) (pa_cons (pe_ix (k_ix (K := K) rfl) (pv 4) pe_int (fun _ _ => rfl)) (pa_cons (pe_ix (k_ix (K := K) rfl) (pv 4) pe_int (fun _ _ => rfl)) (pa_cons (pv 7) (pa_cons pe_non pa_nil)))))) (pa_cons (pe_tupN (pa_cons pe_str (pa_cons (pe_ix (k_ix (K := K) rfl) (pv 8) pe_int (fun _ _ => rfl)) pa_nil))) pa_nil))))) (pss_one (ps_ret pe_bl)) pss_nil))))))
      (pss_cons (ps_set (i := 10) sc_law.nd rfl (Or.inl rfl) (pe_ix (k_ix (K := K) rfl) (pe_cal c__law_of (hr.mono (by decide)) rfl pass0 (pa_cons (pe_ix (k_ix (K := K) rfl) (pv 4) pe_int (fun _ _ => rfl)) pa_nil)) pe_int (fun _ _ => rfl)))
      (pss_cons (ps_set (i := 11) sc_law.nd rfl (Or.inl rfl) (pe_lst (pa_cons (pe_callTy (k_list (K := K) rfl) rfl T.b_list (by decide +kernel) (pa_cons (pv 10) pa_nil)) (pa_cons (pe_op (k_add (K := K) rfl) (pv 10) (pe_tupN (pa_cons pe_int pa_nil))) (pa_cons pe_non (pa_cons (pe_op (k_add (K := K) rfl) (pe_slice (k_slT (K := K) rfl) (pv 10) po_none (po_some (pe_un un_neg pe_int))) (pe_tupN (pa_cons (pv 2) pa_nil))) (pa_cons (pe_op (k_add (K := K) rfl) (pe_slice (k_slT (K := K) rfl) (pv 10) po_none (po_some (pe_un un_neg pe_int))) (pe_tupN (pa_cons (pe_un un_neg pe_int) pa_nil))) (pa_cons (pe_op (k_add (K := K) rfl) (pe_slice (k_slT (K := K) rfl) (pv 10) po_none (po_some (pe_un un_neg pe_int))) (pe_tupN (pa_cons pe_bl pa_nil))) pa_nil))))))))
      (pss_cons (ps_if (PW.pt (pw_and (pt_cmpR op_gt (pv 3) pe_int (nomark _)) (pw_and1 (pt_cmpR op_gt (pv 2) pe_int (nomark _))))) (pss_one (ps_expr (k_bm (K := K) rfl PySem.F.plainAttrs_list PySem.F.slot_list_append PySem.F.type_list_append mt_append (pv 11) (pa_cons (pe_op (k_add (K := K) rfl) (pe_slice (k_slT (K := K) rfl) (pv 10) po_none (po_some (pe_un un_neg pe_int))) (pe_tupN (pa_cons (pe_op op_mod (pe_op (k_add (K := K) rfl) (pe_ix (k_ix (K := K) rfl) (pv 10) (pe_un un_neg pe_int) (fun _ _ => rfl)) pe_int) (pv 2)) pa_nil))) pa_nil)))) pss_nil)
      (pss_cons (ps_set (i := 12) sc_law.nd rfl (Or.inl rfl) (pe_ix (k_ix (K := K) rfl) (pv 11) (pe_cal c__law_next (hr.mono (by decide)) rfl pass0 (pa_cons (pv 1) (pa_cons (pe_callB (k_len (K := K) rfl) rfl T.b_len (by decide +kernel) (pa_cons (pv 11) pa_nil)) pa_nil))) (fun _ _ => rfl)))
      (pss_one (ps_ret (pe_cal c__law_equal (hr.mono (by decide)) rfl pass0 (pa_cons (pe_cal c__law_told (hr.mono (by decide)) rfl pass0 (pa_cons pe_int (pa_cons (pe_ix (k_ix (K := K) rfl) (pv 4) pe_int (fun _ _ => rfl)) (pa_cons (pe_ix (k_ix (K := K) rfl) (pv 4) pe_int (fun _ _ => rfl)) (pa_cons (pe_ix (k_ix (K := K) rfl) (pv 4) pe_int (fun _ _ => rfl)) (pa_cons (pv 12) pa_nil)))))) (pa_cons (pe_tupN (pa_cons pe_str (pa_cons pe_str pa_nil))) pa_nil))))))))))))))))), run_law (N := n_law) (by decide) (fun st l => ?_) h⟩)
  refine q_unp _ (n_call (st := st) (l := l) rfl rfl a_nil ⟨rfl, rfl, rfl⟩) ?_
  rintro d ⟨v, b, rfl, v1, v5, b0, b4, v5b, v4b⟩
  refine ⟨_, _, _, .inl rfl, rfl, rfl, g_cons g_name (g_cons g_name g_nil), ?_⟩
  refine q_asgNO _ (n_call (st := st) (l := l) rfl rfl (a_cons (d_var rfl) (a_cons (d_var rfl) a_nil)) ⟨v, b, rfl, v1, by omega, b0, by omega, rfl, rfl⟩) ?_
  rintro d ⟨as, bs, cs, rfl, ha, hb, hc⟩
  refine s_freeze (n := 4) rfl ?_
  have la := ha.len
  have l1 := ha.lens hb
  have l2 := ha.lens hc
  have b20 : b ≤ 20 := by omega
  have three : ∀ {Γ : List (Option Rs)}, Γ[4]? = some (some (.v (.list [tupD as, tupD bs, tupD cs]))) → Ev (sc K st l) (tOp (rIx K) (tVar 4) (tC (.int 0))) Γ .v (tupD as) ∧ Ev (sc K st l) (tOp (rIx K) (tVar 4) (tC (.int 1))) Γ .v (tupD bs) ∧ Ev (sc K st l) (tOp (rIx K) (tVar 4) (tC (.int 2))) Γ .v (tupD cs) := fun h => ⟨e_ixLv (d_var h) d_int rfl, e_ixLv (d_var h) d_int rfl, e_ixLv (d_var h) d_int rfl⟩
  show Sd (sc K st l) _ [none, some (.r (.ref st)), some (.v (.int v)), some (.v (.int b)), some (.v (.list [tupD as, tupD bs, tupD cs])), none, none, none, none, none, none, none, none] _
  have pick : ∀ {P : PyData → Prop} {ds : List PyData} {m : Nat}, AllP P m ds → ∀ i : Int, (0 ≤ i ∧ i < (m : Int)) → ∃ d, atI ds i = some d ∧ P d := fun {P ds m} h i ⟨i0, i1⟩ => by
    obtain ⟨j, rfl⟩ := Int.eq_ofNat_of_zero_le i0
    have hj : j < ds.length := by have := h.1; omega
    exact ⟨ds[j], atI_nat (List.getElem?_eq_getElem hj), h.2 _ (List.getElem_mem hj)⟩
  refine q_asgN (fun d => SmallT d ∧ balB d = false) (n_ixLV (Q := fun i => 0 ≤ i ∧ i < 8) (e_lstV (ds := [.list (as.map .int), .tuple [], tupD [21], .tuple (List.replicate 6 [PyData.int 0]).flatten, tupD [-1, 1], .tuple [.bool true, .int 0], .none, tupD [10, 11]]) (a_consV (Ev.frz (e_listT (three rfl).1 (flatAll_ints _))) (a_consV (d_tup a_nil (by simp)) (a_consV (d_tup (a_consV d_int a_nil) (by simp)) (a_consV ((e_repT (d_tup (a_consV d_int a_nil) (by simp)) (by simp) d_int (by decide) (by decide) (by simp)).to rfl) (a_consV (d_tup (a_consV (e_neg d_int) (a_consV d_int a_nil)) (by simp)) (a_consV (d_tup (a_consV d_bl (a_consV d_int a_nil)) (by simp)) (a_consV d_non (a_consV (d_tup (a_consV d_int (a_consV d_int a_nil)) (by simp)) a_nil)))))))) (by simp)) (n_call (st := st) (l := l) rfl rfl (a_cons d_int a_nil) ⟨8, rfl, by decide, by decide, rfl, rfl⟩) (pick ⟨rfl, fun d hd => ?_⟩)) ?_
  · simp only [List.mem_cons, List.not_mem_nil, or_false] at hd
    rcases hd with rfl | rfl | rfl | rfl | rfl | rfl | rfl | rfl
    · exact ⟨smallT_no fun es e => (by cases e), rfl⟩
    · exact ⟨smallT_tup (by simp), by decide +kernel⟩
    · exact ⟨small_ints (by simp), by decide +kernel⟩
    · exact ⟨smallT_tup (by simp), by decide +kernel⟩
    · exact ⟨small_ints (by simp), by decide +kernel⟩
    · exact ⟨smallT_tup (by simp), by decide +kernel⟩
    · exact ⟨smallT_no fun es e => (by cases e), rfl⟩
    · exact ⟨small_ints (by simp), by decide +kernel⟩
  rintro fi ⟨f1, f2⟩
  refine q_asgB (NoAl v b) rfl (n_call (st := st) (l := l) rfl rfl (a_cons (three rfl).2.1 a_nil) ⟨bs, v, b, rfl, hb, v1, v5, b20, rfl, rfl⟩) ?_
  rintro se ⟨s1, s2⟩
  refine q_asgB (NoAl v b) rfl (n_call (st := st) (l := l) rfl rfl (a_cons (three rfl).2.2 a_nil) ⟨cs, v, b, rfl, hc, v1, v5, b20, rfl, rfl⟩) ?_
  rintro th ⟨t1, t2⟩
  show Sd (sc K st l) _ [none, some (.r (.ref st)), some (.v (.int v)), some (.v (.int b)), some (.v (.list [tupD as, tupD bs, tupD cs])), some (.v fi), some (.v se), some (.v th), none, none, none, none, none] _
  refine q_asgO (d := .list [.str "first", .str "second", .str "third"]) (d_lst (kv := false) (a_cons d_str (a_cons d_str (a_cons d_str a_nil))) rfl (by decide)) ?_
  have eqOk : ∀ s : Str, EqOk 7 (.tuple [.str "bad", .str s]) := fun s => .tup (by simp) fun x hx => by
    simp only [List.mem_cons, List.not_mem_nil, or_false] at hx
    rcases hx with rfl | rfl <;> exact .str _
  have m1 : ∀ {x y z : PyData} {n1 n2 n3 : Str}, SmallT x ∧ balB x = false → RcM n1 n2 n3 [x, y, z] n1 := fun h => ⟨_, _, _, rfl, .inl ⟨h.1, h.2, rfl⟩⟩
  have m2 : ∀ {z : PyData} {n1 n2 n3 : Str}, RcM n1 n2 n3 [tupD as, se, z] n2 := ⟨_, _, _, rfl, .inr ⟨as, v, b, rfl, ha, v1, v5, b20, .inl ⟨s1, s2, rfl⟩⟩⟩
  have m3 : ∀ {n1 n2 n3 : Str}, RcM n1 n2 n3 [tupD as, tupD bs, th] n3 := ⟨_, _, _, rfl, .inr ⟨as, v, b, rfl, ha, v1, v5, b20, .inr ⟨bs, rfl, hb, t1, t2, rfl⟩⟩⟩
  have r34 : ∀ {w : Nat} {x y z u : PyData} {nm : Str} (q : ∀ n1 n2 n3 : Str, (n1 = "first" ∧ n2 = "second" ∧ n3 = "third" ∧ w ≠ 8) ∨ (n1 = "middle" ∧ n2 = "first" ∧ n3 = "second" ∧ w = 8) → RcM n1 n2 n3 [x, y, z] nm), R34 w [x, y, z, u] nm := fun {w x y z u nm} q => by
    refine ⟨x, y, z, u, rfl, ?_⟩
    by_cases h8 : w = 8
    · rw [if_pos h8]; exact q _ _ _ (.inr ⟨rfl, rfl, rfl, h8⟩)
    · rw [if_neg h8]
      have := q _ _ _ (.inl ⟨rfl, rfl, rfl, h8⟩)
      by_cases h7 : w = 7
      · rw [if_pos h7]; exact ⟨_, _, _, _, rfl, .inl this⟩
      · rw [if_neg h7]; exact this
  refine q_for (i_rngN (n := 9) (a_cons d_int a_nil) (by decide)) (fun n Γ1 => ∃ t9, ∃ N : List Str, Γ1 = [none, some (.r (.ref st)), some (.v (.int v)), some (.v (.int b)), some (.v (.list [tupD as, tupD bs, tupD cs])), some (.v fi), some (.v se), some (.v th), some (.o (.list (N.map .str))), t9, none, none, none] ∧ (n ≤ 8 → N = (["first", "second", "third"] : List Str)) ∧ N.length = 3) ⟨_, ["first", "second", "third"], rfl, fun _ => rfl, rfl⟩ (fun n a Γ1 hn' hI => ?_) (fun Γ1 hI => ?_)
  · obtain ⟨t9, N, rfl, hN, _⟩ := hI
    obtain ⟨hn, rfl⟩ := rngN_at hn'
    have hN := hN (by omega)
    subst hN
    refine ⟨_, _, g_name, ?_⟩
    obtain ⟨n1, n2, n3, hnm⟩ : ∃ n1 n2 n3 : Str, (n1 = "first" ∧ n2 = "second" ∧ n3 = "third" ∧ n ≠ 8) ∨ (n1 = "middle" ∧ n2 = "first" ∧ n3 = "second" ∧ n = 8) := by
      by_cases h8 : n = 8
      · exact ⟨_, _, _, .inr ⟨rfl, rfl, rfl, h8⟩⟩
      · exact ⟨_, _, _, .inl ⟨rfl, rfl, rfl, h8⟩⟩
    refine s_seqE (fun Γ1 => Γ1 = [none, some (.r (.ref st)), some (.v (.int v)), some (.v (.int b)), some (.v (.list [tupD as, tupD bs, tupD cs])), some (.v fi), some (.v se), some (.v th), some (.o (.list [.str n1, .str n2, .str n3])), some (.v (.int (n : Int))), none, none, none]) (s_if (t_test (e_eqI (d_var rfl) d_int)) (fun w => ?_) fun w => ?_) ?_
    · have w : n = 8 := by have := of_decide_eq_true w; omega
      rcases hnm with ⟨_, _, _, h⟩ | ⟨rfl, rfl, rfl, _⟩
      · exact absurd w h
      · exact s_asgO (d_lst (kv := false) (a_cons d_str (a_cons d_str (a_cons d_str a_nil))) rfl (by decide)) ⟨_, rfl, rfl⟩
    · have w : n ≠ 8 := by have := of_decide_eq_false w; omega
      rcases hnm with ⟨rfl, rfl, rfl, _⟩ | ⟨_, _, _, h⟩
      · exact s_next ⟨_, rfl, rfl⟩
      · exact absurd h w
    rintro Γ1 rfl
    have nmU : ∀ {nm x1 x2 x3 : Str}, (∀ n1' n2' n3' : Str, (n1' = "first" ∧ n2' = "second" ∧ n3' = "third" ∧ n ≠ 8) ∨ (n1' = "middle" ∧ n2' = "first" ∧ n3' = "second" ∧ n = 8) → n1' = n1 ∧ n2' = n2 ∧ n3' = n3) := fun n1' n2' n3' h => by
      rcases h with ⟨rfl, rfl, rfl, h⟩ | ⟨rfl, rfl, rfl, h⟩ <;> rcases hnm with ⟨rfl, rfl, rfl, h'⟩ | ⟨rfl, rfl, rfl, h'⟩
      · exact ⟨rfl, rfl, rfl⟩
      · exact absurd h' h
      · exact absurd h h'
      · exact ⟨rfl, rfl, rfl⟩
    have nmAt : ∀ {Γ : List (Option Rs)} {i : Int} {s : Str}, Γ[8]? = some (some (.o (.list [.str n1, .str n2, .str n3]))) → atI [PyData.str n1, .str n2, .str n3] i = some (.str s) → Ev (sc K st l) (tTupN (tCons (tC (.str "bad")) (tCons (tOp (rIx K) (tVar 8) (tC (.int i))) tNil))) Γ .v (.tuple [.str "bad", .str s]) := fun h hi => d_tup (a_consV d_str (a_consV (e_ixL (d_varO h) d_int hi rfl) a_nil)) (by simp)
    refine q_no ((t_not (t_B (d_call (k := .v) (d := .bool true) (a_cons (d_call (k := .v) (d := .tuple [.str "bad", .str n1]) (a_cons (d_var rfl) (a_cons (d_var rfl) (a_cons (d_var rfl) (a_cons (d_var rfl) (a_cons d_non a_nil))))) ⟨n, fi, se, th, .none, n1, rfl, by omega, r34 fun n1' n2' n3' h => (by obtain ⟨rfl, rfl, rfl⟩ := nmU (nm := n1) (x1 := n1) (x2 := n1) (x3 := n1) _ _ _ h; exact m1 ⟨f1, f2⟩), rfl, rfl⟩) (a_cons (nmAt (i := 0) rfl rfl) a_nil)) ⟨_, rfl, eqOk _, rfl, rfl⟩))).to rfl) ?_
    refine q_no ((t_not (t_B (d_call (k := .v) (d := .bool true) (a_cons (d_call (k := .v) (d := .tuple [.str "bad", .str n2]) (a_cons (d_var rfl) (a_cons (three rfl).1 (a_cons (d_var rfl) (a_cons (d_var rfl) (a_cons d_non a_nil))))) ⟨n, tupD as, se, th, .none, n2, rfl, by omega, r34 fun n1' n2' n3' h => (by obtain ⟨rfl, rfl, rfl⟩ := nmU (nm := n1) (x1 := n1) (x2 := n1) (x3 := n1) _ _ _ h; exact m2), rfl, rfl⟩) (a_cons (nmAt (i := 1) rfl rfl) a_nil)) ⟨_, rfl, eqOk _, rfl, rfl⟩))).to rfl) ?_
    refine s_no ((t_not (t_B (d_call (k := .v) (d := .bool true) (a_cons (d_call (k := .v) (d := .tuple [.str "bad", .str n3]) (a_cons (d_var rfl) (a_cons (three rfl).1 (a_cons (three rfl).2.1 (a_cons (d_var rfl) (a_cons d_non a_nil))))) ⟨n, tupD as, tupD bs, th, .none, n3, rfl, by omega, r34 fun n1' n2' n3' h => (by obtain ⟨rfl, rfl, rfl⟩ := nmU (nm := n1) (x1 := n1) (x2 := n1) (x3 := n1) _ _ _ h; exact m3), rfl, rfl⟩) (a_cons (nmAt (i := 2) rfl rfl) a_nil)) ⟨_, rfl, eqOk _, rfl, rfl⟩))).to rfl) (s_next (.inl ⟨_, .inl rfl, some (.v (.int (n : Int))), [n1, n2, n3], rfl, fun h => ?_, rfl⟩))
    rcases hnm with ⟨rfl, rfl, rfl, _⟩ | ⟨_, _, _, h'⟩
    · rfl
    · omega
  · obtain ⟨t9, N, rfl, _, _⟩ := hI
    refine s_freeze (n := 8) rfl ?_
    obtain ⟨own, rest, eown, ho, hol, hoc⟩ := of_head ha v1 b20
    refine q_asg (d := tupD own) (e_ixL (d_call (k := .o) (d := .list ((ofL as).map tupD)) (a_cons (three rfl).1 a_nil) ⟨as, v, b, rfl, ha, v1, v5, by omega, rfl, rfl⟩) d_int (by rw [eown]; exact atI_nat (j := 0) rfl) (flatT _)) ?_
    have va : ∀ {Γ : List (Option Rs)}, Γ[10]? = some (some (.v (tupD own))) → Ev (sc K st l) (tVar 10) Γ .v (tupD own) := fun h => d_var h
    have ini : ∀ {Γ : List (Option Rs)} {te : TE} {d : PyData}, Γ[10]? = some (some (.v (tupD own))) → Ev (sc K st l) te Γ .v d → Ev (sc K st l) (tOp (rAddA K) (tSl (rSlN K) (tVar 10) tNoPart (tPart (tUn (rU fun i => .int (-i)) (tC (.int 1))))) (tTupN (tCons te tNil))) Γ .v (.tuple (own.dropLast.map .int ++ [d])) := fun h h2 => e_catT ((e_sl (d_var h) o_none (o_some (e_neg d_int))).to (y := tupD own.dropLast) (by rw [cutD_last (ds := own.map PyData.int), ← List.map_dropLast])) (d_tup (a_consV h2 a_nil) (by simp)) (by simp; omega)
    refine q_asgW (ds := [.list (own.map .int), tupD (own ++ [0]), .none, .tuple (own.dropLast.map .int ++ [.int v]), .tuple (own.dropLast.map .int ++ [.int (-1)]), .tuple (own.dropLast.map .int ++ [.bool true])]) (w_lst (a_consV (Ev.frz (e_listT (va rfl) (flatAll_ints _))) (a_consV ((e_catT (va rfl) (d_tup (a_consV d_int a_nil) (by simp)) (by simp; omega)).to (y := tupD (own ++ [0])) (by unfold tupD; rw [List.map_append]; rfl)) (a_consV d_non (a_consV (ini rfl (d_var rfl)) (a_consV (ini rfl (e_neg d_int)) (a_consV (ini rfl d_bl) a_nil)))))) (by simp)) ?_
    have nob : ∀ {x : PyData}, areInts x 0 (v - 1) = false → asoB x as = false := fun h => aso_no (by rw [la]; exact h)
    have bad : ∀ y ∈ [PyData.list (own.map .int), tupD (own ++ [0]), .none, .tuple (own.dropLast.map .int ++ [.int v]), .tuple (own.dropLast.map .int ++ [.int (-1)]), .tuple (own.dropLast.map .int ++ [.bool true])], SmallT y ∧ asoB y as = false := fun y hy => by
      simp only [List.mem_cons, List.not_mem_nil, or_false] at hy
      rcases hy with rfl | rfl | rfl | rfl | rfl | rfl
      · exact ⟨smallT_no fun es e => (by cases e), nob rfl⟩
      · refine ⟨small_ints (by simp; omega), ?_⟩
        rw [aso_tup ha, decide_eq_false]
        rintro ⟨q, _⟩
        simp at q
        omega
      · exact ⟨smallT_no fun es e => (by cases e), nob rfl⟩
      · have e : PyData.tuple (own.dropLast.map .int ++ [.int v]) = tupD (own.dropLast ++ [v]) := by unfold tupD; rw [List.map_append]; rfl
        rw [e]
        exact ⟨small_ints (by simp; omega), nob (areInts_neg (x := v) (by simp) (.inr (by omega)))⟩
      · have e : PyData.tuple (own.dropLast.map .int ++ [.int (-1)]) = tupD (own.dropLast ++ [-1]) := by unfold tupD; rw [List.map_append]; rfl
        rw [e]
        exact ⟨small_ints (by simp; omega), nob (areInts_neg (x := -1) (by simp) (.inl (by decide)))⟩
      · exact ⟨smallT_tup (by simp; omega), nob (areInts_bad (x := .bool true) (by simp) fun n e => (by cases e))⟩
    generalize hL : [PyData.list (own.map .int), tupD (own ++ [0]), .none, .tuple (own.dropLast.map .int ++ [.int v]), .tuple (own.dropLast.map .int ++ [.int (-1)]), .tuple (own.dropLast.map .int ++ [.bool true])] = L6 at bad ⊢
    have l6 : L6.length = 6 := by rw [← hL]; rfl
    show Sd (sc K st l) _ [none, some (.r (.ref st)), some (.v (.int v)), some (.v (.int b)), some (.v (.list [tupD as, tupD bs, tupD cs])), some (.v fi), some (.v se), some (.v th), some (.v (.list (N.map .str))), t9, some (.v (tupD own)), some (.w L6), none] _
    refine s_seqE (fun Γ1 => ∃ L, Γ1 = [none, some (.r (.ref st)), some (.v (.int v)), some (.v (.int b)), some (.v (.list [tupD as, tupD bs, tupD cs])), some (.v fi), some (.v se), some (.v th), some (.v (.list (N.map .str))), t9, some (.v (tupD own)), some (.w L), none] ∧ 0 < L.length ∧ L.length ≤ 7 ∧ ∀ y ∈ L, SmallT y ∧ asoB y as = false) (s_if (t_and (t_test (d_gt (d_var rfl) d_int)) fun _ => t_test (d_gt (d_var rfl) d_int)) (fun w => ?_) fun _ => s_next ⟨_, rfl, L6, rfl, by omega, by omega, bad⟩) ?_
    · rw [Bool.and_eq_true, decide_eq_true_eq, decide_eq_true_eq] at w
      obtain ⟨r, x, rfl⟩ : ∃ r x, own = r ++ [x] := by
        have ne : own ≠ [] := fun e => by subst e; simp at hol; omega
        exact ⟨own.dropLast, own.getLast ne, (List.dropLast_concat_getLast ne).symm⟩
      have rx := ho.rng x (by simp)
      have lst : ∀ {Γ : List (Option Rs)}, Γ[10]? = some (some (.v (tupD (r ++ [x])))) → Ev (sc K st l) (tOp (rIx K) (tVar 10) (tUn (rU fun i => .int (-i)) (tC (.int 1)))) Γ .v (.int x) := fun h => e_ixT (d_var h) (e_neg d_int) (by
        have := at_lastI (r.map PyData.int) (.int x)
        rw [show r.map PyData.int ++ [.int x] = (r ++ [x]).map PyData.int by simp] at this
        exact this) rfl
      refine s_appW (d := tupD (r ++ [(x + 1) % v])) rfl ((ini rfl (d_mod (e_add (lst rfl) d_int) (d_var rfl) (by omega))).to (by unfold tupD; rw [List.map_append]; simp)) (by omega) ⟨_, rfl, _, rfl, by simp, by simp; omega, fun y hy => ?_⟩
      rcases List.mem_append.mp hy with z | z
      · exact bad y z
      · rw [List.mem_singleton.mp z]
        refine ⟨small_ints (by have := ho.len; simp at this ⊢; omega), ?_⟩
        rw [aso_tup ha, decide_eq_false]
        rintro ⟨_, _, q⟩
        have ne : (x + 1) % v ≠ x := fun e => by
          by_cases h : x + 1 = v
          · rw [h, Int.emod_self] at e; omega
          · rw [Int.emod_eq_of_lt (by omega) (by omega)] at e; omega
        rw [← hoc] at q
        obtain ⟨j, hj⟩ := Int.eq_ofNat_of_zero_le rx.1
        have e1 := countsI_get (ns := r ++ [x]) (v := v) (i := j) (by omega)
        have e2 := countsI_get (ns := r ++ [(x + 1) % v]) (v := v) (i := j) (by omega)
        rw [q, e1, ← hj, List.count_append, List.count_append] at e2
        have q1 : [x].count x = 1 := by simp
        have q2 : [(x + 1) % v].count x = 0 := List.count_eq_zero_of_not_mem (by simp; exact fun e => ne e.symm)
        rw [q1, q2] at e2
        omega
    rintro Γ1 ⟨L, rfl, L0, L7, badL⟩
    refine s_freezeW (n := 11) rfl ?_
    refine q_asgN (fun d => SmallT d ∧ asoB d as = false) (n_ixLV (ds := L) (Q := fun i => 0 ≤ i ∧ i < (L.length : Int)) (d_var rfl) (n_call (st := st) (l := l) rfl rfl (a_cons (d_lenL (d_var rfl)) a_nil) ⟨(L.length : Int), rfl, by omega, by omega, rfl, rfl⟩) (pick (m := L.length) ⟨rfl, badL⟩)) ?_
    rintro bd ⟨b1, b2⟩
    exact s_ret (d_call (k := .v) (d := .bool true) (a_cons (d_call (k := .v) (d := .tuple [.str "bad", .str "assignment"]) (a_cons d_int (a_cons (three rfl).1 (a_cons (three rfl).2.1 (a_cons (three rfl).2.2 (a_cons (d_var rfl) a_nil))))) ⟨7, tupD as, tupD bs, tupD cs, bd, "assignment", rfl, by decide, ⟨_, _, _, _, rfl, by
      rw [if_neg (by decide), if_pos rfl]
      exact ⟨_, _, _, _, rfl, .inr ⟨as, bs, cs, v, b, rfl, rfl, rfl, ha, hb, hc, v1, v5, b20, b1, b2, rfl⟩⟩⟩, rfl, rfl⟩) (a_cons (d_tup (a_consV d_str (a_consV d_str a_nil)) (by simp)) a_nil)) ⟨_, rfl, eqOk _, rfl, rfl⟩) (.inr ⟨rfl, rfl⟩) rfl

end W

namespace W
open PySem PySem.Spec PyProof.Rows L2 Lm
theorem all_mk {l : PySem.W.OpenLaw} {w : World} {K : PySem.W.Frag} {h : Heap} {mg : Str → Option Value} {fa : Addr} (X : K.In h) (G : h.Ns mainGlobals mg) (hfa : mg "law" = some (.ref fa))
    {od_is_integer an_is_integer : Option Addr} {sl_is_integer : Array (Option Value)} {oc_is_integer kV_is_integer dc_is_integer pm_is_integer cd_is_integer ct_is_integer : Value} {f_is_integer : Addr}
    (a_is_integer : PySem.W.nsIn K mainGlobals "is_integer" = some (some (.ref f_is_integer))) (l_is_integer : K.lookup f_is_integer = some ⟨oc_is_integer, od_is_integer, .func (PySem.W.fnOf "is_integer" "is_integer" (defArgs s_is_integer) (defBody s_is_integer) (defScope s_is_integer) .none kV_is_integer dc_is_integer pm_is_integer an_is_integer cd_is_integer ct_is_integer), sl_is_integer⟩) (o_is_integer : PySem.W.codeIn K cd_is_integer "is_integer" = true) (k_is_integer : PySem.W.keepIn K (.ref f_is_integer) = true)
    {od_are_integers an_are_integers : Option Addr} {sl_are_integers : Array (Option Value)} {oc_are_integers kV_are_integers dc_are_integers pm_are_integers cd_are_integers ct_are_integers : Value} {f_are_integers : Addr}
    (a_are_integers : PySem.W.nsIn K mainGlobals "are_integers" = some (some (.ref f_are_integers))) (l_are_integers : K.lookup f_are_integers = some ⟨oc_are_integers, od_are_integers, .func (PySem.W.fnOf "are_integers" "are_integers" (defArgs s_are_integers) (defBody s_are_integers) (defScope s_are_integers) .none kV_are_integers dc_are_integers pm_are_integers an_are_integers cd_are_integers ct_are_integers), sl_are_integers⟩) (o_are_integers : PySem.W.codeIn K cd_are_integers "are_integers" = true) (k_are_integers : PySem.W.keepIn K (.ref f_are_integers) = true)
    {od_require an_require : Option Addr} {sl_require : Array (Option Value)} {oc_require kV_require dc_require pm_require cd_require ct_require : Value} {f_require : Addr}
    (a_require : PySem.W.nsIn K mainGlobals "require" = some (some (.ref f_require))) (l_require : K.lookup f_require = some ⟨oc_require, od_require, .func (PySem.W.fnOf "require" "require" (defArgs s_require) (defBody s_require) (defScope s_require) .none kV_require dc_require pm_require an_require cd_require ct_require), sl_require⟩) (o_require : PySem.W.codeIn K cd_require "require" = true) (k_require : PySem.W.keepIn K (.ref f_require) = true)
    {od_is_allocation an_is_allocation : Option Addr} {sl_is_allocation : Array (Option Value)} {oc_is_allocation kV_is_allocation dc_is_allocation pm_is_allocation cd_is_allocation ct_is_allocation : Value} {f_is_allocation : Addr}
    (a_is_allocation : PySem.W.nsIn K mainGlobals "is_allocation" = some (some (.ref f_is_allocation))) (l_is_allocation : K.lookup f_is_allocation = some ⟨oc_is_allocation, od_is_allocation, .func (PySem.W.fnOf "is_allocation" "is_allocation" (defArgs s_is_allocation) (defBody s_is_allocation) (defScope s_is_allocation) .none kV_is_allocation dc_is_allocation pm_is_allocation an_is_allocation cd_is_allocation ct_is_allocation), sl_is_allocation⟩) (o_is_allocation : PySem.W.codeIn K cd_is_allocation "is_allocation" = true) (k_is_allocation : PySem.W.keepIn K (.ref f_is_allocation) = true)
    {od_is_bounded_allocation an_is_bounded_allocation : Option Addr} {sl_is_bounded_allocation : Array (Option Value)} {oc_is_bounded_allocation kV_is_bounded_allocation dc_is_bounded_allocation pm_is_bounded_allocation cd_is_bounded_allocation ct_is_bounded_allocation : Value} {f_is_bounded_allocation : Addr}
    (a_is_bounded_allocation : PySem.W.nsIn K mainGlobals "is_bounded_allocation" = some (some (.ref f_is_bounded_allocation))) (l_is_bounded_allocation : K.lookup f_is_bounded_allocation = some ⟨oc_is_bounded_allocation, od_is_bounded_allocation, .func (PySem.W.fnOf "is_bounded_allocation" "is_bounded_allocation" (defArgs s_is_bounded_allocation) (defBody s_is_bounded_allocation) (defScope s_is_bounded_allocation) .none kV_is_bounded_allocation dc_is_bounded_allocation pm_is_bounded_allocation an_is_bounded_allocation cd_is_bounded_allocation ct_is_bounded_allocation), sl_is_bounded_allocation⟩) (o_is_bounded_allocation : PySem.W.codeIn K cd_is_bounded_allocation "is_bounded_allocation" = true) (k_is_bounded_allocation : PySem.W.keepIn K (.ref f_is_bounded_allocation) = true)
    {od_check_allocation an_check_allocation : Option Addr} {sl_check_allocation : Array (Option Value)} {oc_check_allocation kV_check_allocation dc_check_allocation pm_check_allocation cd_check_allocation ct_check_allocation : Value} {f_check_allocation : Addr}
    (a_check_allocation : PySem.W.nsIn K mainGlobals "check_allocation" = some (some (.ref f_check_allocation))) (l_check_allocation : K.lookup f_check_allocation = some ⟨oc_check_allocation, od_check_allocation, .func (PySem.W.fnOf "check_allocation" "check_allocation" (defArgs s_check_allocation) (defBody s_check_allocation) (defScope s_check_allocation) .none kV_check_allocation dc_check_allocation pm_check_allocation an_check_allocation cd_check_allocation ct_check_allocation), sl_check_allocation⟩) (o_check_allocation : PySem.W.codeIn K cd_check_allocation "check_allocation" = true) (k_check_allocation : PySem.W.keepIn K (.ref f_check_allocation) = true)
    {od_check_alike an_check_alike : Option Addr} {sl_check_alike : Array (Option Value)} {oc_check_alike kV_check_alike dc_check_alike pm_check_alike cd_check_alike ct_check_alike : Value} {f_check_alike : Addr}
    (a_check_alike : PySem.W.nsIn K mainGlobals "check_alike" = some (some (.ref f_check_alike))) (l_check_alike : K.lookup f_check_alike = some ⟨oc_check_alike, od_check_alike, .func (PySem.W.fnOf "check_alike" "check_alike" (defArgs s_check_alike) (defBody s_check_alike) (defScope s_check_alike) .none kV_check_alike dc_check_alike pm_check_alike an_check_alike cd_check_alike ct_check_alike), sl_check_alike⟩) (o_check_alike : PySem.W.codeIn K cd_check_alike "check_alike" = true) (k_check_alike : PySem.W.keepIn K (.ref f_check_alike) = true)
    {od_transfer an_transfer : Option Addr} {sl_transfer : Array (Option Value)} {oc_transfer kV_transfer dc_transfer pm_transfer cd_transfer ct_transfer : Value} {f_transfer : Addr}
    (a_transfer : PySem.W.nsIn K mainGlobals "transfer" = some (some (.ref f_transfer))) (l_transfer : K.lookup f_transfer = some ⟨oc_transfer, od_transfer, .func (PySem.W.fnOf "transfer" "transfer" (defArgs s_transfer) (defBody s_transfer) (defScope s_transfer) .none kV_transfer dc_transfer pm_transfer an_transfer cd_transfer ct_transfer), sl_transfer⟩) (o_transfer : PySem.W.codeIn K cd_transfer "transfer" = true) (k_transfer : PySem.W.keepIn K (.ref f_transfer) = true)
    {od_medians an_medians : Option Addr} {sl_medians : Array (Option Value)} {oc_medians kV_medians dc_medians pm_medians cd_medians ct_medians : Value} {f_medians : Addr}
    (a_medians : PySem.W.nsIn K mainGlobals "medians" = some (some (.ref f_medians))) (l_medians : K.lookup f_medians = some ⟨oc_medians, od_medians, .func (PySem.W.fnOf "medians" "medians" (defArgs s_medians) (defBody s_medians) (defScope s_medians) .none kV_medians dc_medians pm_medians an_medians cd_medians ct_medians), sl_medians⟩) (o_medians : PySem.W.codeIn K cd_medians "medians" = true) (k_medians : PySem.W.keepIn K (.ref f_medians) = true)
    {od_is_assignment an_is_assignment : Option Addr} {sl_is_assignment : Array (Option Value)} {oc_is_assignment kV_is_assignment dc_is_assignment pm_is_assignment cd_is_assignment ct_is_assignment : Value} {f_is_assignment : Addr}
    (a_is_assignment : PySem.W.nsIn K mainGlobals "is_assignment" = some (some (.ref f_is_assignment))) (l_is_assignment : K.lookup f_is_assignment = some ⟨oc_is_assignment, od_is_assignment, .func (PySem.W.fnOf "is_assignment" "is_assignment" (defArgs s_is_assignment) (defBody s_is_assignment) (defScope s_is_assignment) .none kV_is_assignment dc_is_assignment pm_is_assignment an_is_assignment cd_is_assignment ct_is_assignment), sl_is_assignment⟩) (o_is_assignment : PySem.W.codeIn K cd_is_assignment "is_assignment" = true) (k_is_assignment : PySem.W.keepIn K (.ref f_is_assignment) = true)
    {od_is_bounded_assignment an_is_bounded_assignment : Option Addr} {sl_is_bounded_assignment : Array (Option Value)} {oc_is_bounded_assignment kV_is_bounded_assignment dc_is_bounded_assignment pm_is_bounded_assignment cd_is_bounded_assignment ct_is_bounded_assignment : Value} {f_is_bounded_assignment : Addr}
    (a_is_bounded_assignment : PySem.W.nsIn K mainGlobals "is_bounded_assignment" = some (some (.ref f_is_bounded_assignment))) (l_is_bounded_assignment : K.lookup f_is_bounded_assignment = some ⟨oc_is_bounded_assignment, od_is_bounded_assignment, .func (PySem.W.fnOf "is_bounded_assignment" "is_bounded_assignment" (defArgs s_is_bounded_assignment) (defBody s_is_bounded_assignment) (defScope s_is_bounded_assignment) .none kV_is_bounded_assignment dc_is_bounded_assignment pm_is_bounded_assignment an_is_bounded_assignment cd_is_bounded_assignment ct_is_bounded_assignment), sl_is_bounded_assignment⟩) (o_is_bounded_assignment : PySem.W.codeIn K cd_is_bounded_assignment "is_bounded_assignment" = true) (k_is_bounded_assignment : PySem.W.keepIn K (.ref f_is_bounded_assignment) = true)
    {od_check_assignment an_check_assignment : Option Addr} {sl_check_assignment : Array (Option Value)} {oc_check_assignment kV_check_assignment dc_check_assignment pm_check_assignment cd_check_assignment ct_check_assignment : Value} {f_check_assignment : Addr}
    (a_check_assignment : PySem.W.nsIn K mainGlobals "check_assignment" = some (some (.ref f_check_assignment))) (l_check_assignment : K.lookup f_check_assignment = some ⟨oc_check_assignment, od_check_assignment, .func (PySem.W.fnOf "check_assignment" "check_assignment" (defArgs s_check_assignment) (defBody s_check_assignment) (defScope s_check_assignment) .none kV_check_assignment dc_check_assignment pm_check_assignment an_check_assignment cd_check_assignment ct_check_assignment), sl_check_assignment⟩) (o_check_assignment : PySem.W.codeIn K cd_check_assignment "check_assignment" = true) (k_check_assignment : PySem.W.keepIn K (.ref f_check_assignment) = true)
    {od_check_pair an_check_pair : Option Addr} {sl_check_pair : Array (Option Value)} {oc_check_pair kV_check_pair dc_check_pair pm_check_pair cd_check_pair ct_check_pair : Value} {f_check_pair : Addr}
    (a_check_pair : PySem.W.nsIn K mainGlobals "check_pair" = some (some (.ref f_check_pair))) (l_check_pair : K.lookup f_check_pair = some ⟨oc_check_pair, od_check_pair, .func (PySem.W.fnOf "check_pair" "check_pair" (defArgs s_check_pair) (defBody s_check_pair) (defScope s_check_pair) .none kV_check_pair dc_check_pair pm_check_pair an_check_pair cd_check_pair ct_check_pair), sl_check_pair⟩) (o_check_pair : PySem.W.codeIn K cd_check_pair "check_pair" = true) (k_check_pair : PySem.W.keepIn K (.ref f_check_pair) = true)
    {od_check_enough an_check_enough : Option Addr} {sl_check_enough : Array (Option Value)} {oc_check_enough kV_check_enough dc_check_enough pm_check_enough cd_check_enough ct_check_enough : Value} {f_check_enough : Addr}
    (a_check_enough : PySem.W.nsIn K mainGlobals "check_enough" = some (some (.ref f_check_enough))) (l_check_enough : K.lookup f_check_enough = some ⟨oc_check_enough, od_check_enough, .func (PySem.W.fnOf "check_enough" "check_enough" (defArgs s_check_enough) (defBody s_check_enough) (defScope s_check_enough) .none kV_check_enough dc_check_enough pm_check_enough an_check_enough cd_check_enough ct_check_enough), sl_check_enough⟩) (o_check_enough : PySem.W.codeIn K cd_check_enough "check_enough" = true) (k_check_enough : PySem.W.keepIn K (.ref f_check_enough) = true)
    {od_allocation_of an_allocation_of : Option Addr} {sl_allocation_of : Array (Option Value)} {oc_allocation_of kV_allocation_of dc_allocation_of pm_allocation_of cd_allocation_of ct_allocation_of : Value} {f_allocation_of : Addr}
    (a_allocation_of : PySem.W.nsIn K mainGlobals "allocation_of" = some (some (.ref f_allocation_of))) (l_allocation_of : K.lookup f_allocation_of = some ⟨oc_allocation_of, od_allocation_of, .func (PySem.W.fnOf "allocation_of" "allocation_of" (defArgs s_allocation_of) (defBody s_allocation_of) (defScope s_allocation_of) .none kV_allocation_of dc_allocation_of pm_allocation_of an_allocation_of cd_allocation_of ct_allocation_of), sl_allocation_of⟩) (o_allocation_of : PySem.W.codeIn K cd_allocation_of "allocation_of" = true) (k_allocation_of : PySem.W.keepIn K (.ref f_allocation_of) = true)
    {od_is_assignment_of an_is_assignment_of : Option Addr} {sl_is_assignment_of : Array (Option Value)} {oc_is_assignment_of kV_is_assignment_of dc_is_assignment_of pm_is_assignment_of cd_is_assignment_of ct_is_assignment_of : Value} {f_is_assignment_of : Addr}
    (a_is_assignment_of : PySem.W.nsIn K mainGlobals "is_assignment_of" = some (some (.ref f_is_assignment_of))) (l_is_assignment_of : K.lookup f_is_assignment_of = some ⟨oc_is_assignment_of, od_is_assignment_of, .func (PySem.W.fnOf "is_assignment_of" "is_assignment_of" (defArgs s_is_assignment_of) (defBody s_is_assignment_of) (defScope s_is_assignment_of) .none kV_is_assignment_of dc_is_assignment_of pm_is_assignment_of an_is_assignment_of cd_is_assignment_of ct_is_assignment_of), sl_is_assignment_of⟩) (o_is_assignment_of : PySem.W.codeIn K cd_is_assignment_of "is_assignment_of" = true) (k_is_assignment_of : PySem.W.keepIn K (.ref f_is_assignment_of) = true)
    {od_are_assignments_of an_are_assignments_of : Option Addr} {sl_are_assignments_of : Array (Option Value)} {oc_are_assignments_of kV_are_assignments_of dc_are_assignments_of pm_are_assignments_of cd_are_assignments_of ct_are_assignments_of : Value} {f_are_assignments_of : Addr}
    (a_are_assignments_of : PySem.W.nsIn K mainGlobals "are_assignments_of" = some (some (.ref f_are_assignments_of))) (l_are_assignments_of : K.lookup f_are_assignments_of = some ⟨oc_are_assignments_of, od_are_assignments_of, .func (PySem.W.fnOf "are_assignments_of" "are_assignments_of" (defArgs s_are_assignments_of) (defBody s_are_assignments_of) (defScope s_are_assignments_of) .none kV_are_assignments_of dc_are_assignments_of pm_are_assignments_of an_are_assignments_of cd_are_assignments_of ct_are_assignments_of), sl_are_assignments_of⟩) (o_are_assignments_of : PySem.W.codeIn K cd_are_assignments_of "are_assignments_of" = true) (k_are_assignments_of : PySem.W.keepIn K (.ref f_are_assignments_of) = true)
    {od_churn an_churn : Option Addr} {sl_churn : Array (Option Value)} {oc_churn kV_churn dc_churn pm_churn cd_churn ct_churn : Value} {f_churn : Addr}
    (a_churn : PySem.W.nsIn K mainGlobals "churn" = some (some (.ref f_churn))) (l_churn : K.lookup f_churn = some ⟨oc_churn, od_churn, .func (PySem.W.fnOf "churn" "churn" (defArgs s_churn) (defBody s_churn) (defScope s_churn) .none kV_churn dc_churn pm_churn an_churn cd_churn ct_churn), sl_churn⟩) (o_churn : PySem.W.codeIn K cd_churn "churn" = true) (k_churn : PySem.W.keepIn K (.ref f_churn) = true)
    {od_moves an_moves : Option Addr} {sl_moves : Array (Option Value)} {oc_moves kV_moves dc_moves pm_moves cd_moves ct_moves : Value} {f_moves : Addr}
    (a_moves : PySem.W.nsIn K mainGlobals "moves" = some (some (.ref f_moves))) (l_moves : K.lookup f_moves = some ⟨oc_moves, od_moves, .func (PySem.W.fnOf "moves" "moves" (defArgs s_moves) (defBody s_moves) (defScope s_moves) .none kV_moves dc_moves pm_moves an_moves cd_moves ct_moves), sl_moves⟩) (o_moves : PySem.W.codeIn K cd_moves "moves" = true) (k_moves : PySem.W.keepIn K (.ref f_moves) = true)
    {od_buckets_of an_buckets_of : Option Addr} {sl_buckets_of : Array (Option Value)} {oc_buckets_of kV_buckets_of dc_buckets_of pm_buckets_of cd_buckets_of ct_buckets_of : Value} {f_buckets_of : Addr}
    (a_buckets_of : PySem.W.nsIn K mainGlobals "buckets_of" = some (some (.ref f_buckets_of))) (l_buckets_of : K.lookup f_buckets_of = some ⟨oc_buckets_of, od_buckets_of, .func (PySem.W.fnOf "buckets_of" "buckets_of" (defArgs s_buckets_of) (defBody s_buckets_of) (defScope s_buckets_of) .none kV_buckets_of dc_buckets_of pm_buckets_of an_buckets_of cd_buckets_of ct_buckets_of), sl_buckets_of⟩) (o_buckets_of : PySem.W.codeIn K cd_buckets_of "buckets_of" = true) (k_buckets_of : PySem.W.keepIn K (.ref f_buckets_of) = true)
    {od_surplus an_surplus : Option Addr} {sl_surplus : Array (Option Value)} {oc_surplus kV_surplus dc_surplus pm_surplus cd_surplus ct_surplus : Value} {f_surplus : Addr}
    (a_surplus : PySem.W.nsIn K mainGlobals "surplus" = some (some (.ref f_surplus))) (l_surplus : K.lookup f_surplus = some ⟨oc_surplus, od_surplus, .func (PySem.W.fnOf "surplus" "surplus" (defArgs s_surplus) (defBody s_surplus) (defScope s_surplus) .none kV_surplus dc_surplus pm_surplus an_surplus cd_surplus ct_surplus), sl_surplus⟩) (o_surplus : PySem.W.codeIn K cd_surplus "surplus" = true) (k_surplus : PySem.W.keepIn K (.ref f_surplus) = true)
    {od_excess an_excess : Option Addr} {sl_excess : Array (Option Value)} {oc_excess kV_excess dc_excess pm_excess cd_excess ct_excess : Value} {f_excess : Addr}
    (a_excess : PySem.W.nsIn K mainGlobals "excess" = some (some (.ref f_excess))) (l_excess : K.lookup f_excess = some ⟨oc_excess, od_excess, .func (PySem.W.fnOf "excess" "excess" (defArgs s_excess) (defBody s_excess) (defScope s_excess) .none kV_excess dc_excess pm_excess an_excess cd_excess ct_excess), sl_excess⟩) (o_excess : PySem.W.codeIn K cd_excess "excess" = true) (k_excess : PySem.W.keepIn K (.ref f_excess) = true)
    {od_laid_out an_laid_out : Option Addr} {sl_laid_out : Array (Option Value)} {oc_laid_out kV_laid_out dc_laid_out pm_laid_out cd_laid_out ct_laid_out : Value} {f_laid_out : Addr}
    (a_laid_out : PySem.W.nsIn K mainGlobals "laid_out" = some (some (.ref f_laid_out))) (l_laid_out : K.lookup f_laid_out = some ⟨oc_laid_out, od_laid_out, .func (PySem.W.fnOf "laid_out" "laid_out" (defArgs s_laid_out) (defBody s_laid_out) (defScope s_laid_out) .none kV_laid_out dc_laid_out pm_laid_out an_laid_out cd_laid_out ct_laid_out), sl_laid_out⟩) (o_laid_out : PySem.W.codeIn K cd_laid_out "laid_out" = true) (k_laid_out : PySem.W.keepIn K (.ref f_laid_out) = true)
    {od_table_of_three an_table_of_three : Option Addr} {sl_table_of_three : Array (Option Value)} {oc_table_of_three kV_table_of_three dc_table_of_three pm_table_of_three cd_table_of_three ct_table_of_three : Value} {f_table_of_three : Addr}
    (a_table_of_three : PySem.W.nsIn K mainGlobals "table_of_three" = some (some (.ref f_table_of_three))) (l_table_of_three : K.lookup f_table_of_three = some ⟨oc_table_of_three, od_table_of_three, .func (PySem.W.fnOf "table_of_three" "table_of_three" (defArgs s_table_of_three) (defBody s_table_of_three) (defScope s_table_of_three) .none kV_table_of_three dc_table_of_three pm_table_of_three an_table_of_three cd_table_of_three ct_table_of_three), sl_table_of_three⟩) (o_table_of_three : PySem.W.codeIn K cd_table_of_three "table_of_three" = true) (k_table_of_three : PySem.W.keepIn K (.ref f_table_of_three) = true)
    {od_all_different an_all_different : Option Addr} {sl_all_different : Array (Option Value)} {oc_all_different kV_all_different dc_all_different pm_all_different cd_all_different ct_all_different : Value} {f_all_different : Addr}
    (a_all_different : PySem.W.nsIn K mainGlobals "all_different" = some (some (.ref f_all_different))) (l_all_different : K.lookup f_all_different = some ⟨oc_all_different, od_all_different, .func (PySem.W.fnOf "all_different" "all_different" (defArgs s_all_different) (defBody s_all_different) (defScope s_all_different) .none kV_all_different dc_all_different pm_all_different an_all_different cd_all_different ct_all_different), sl_all_different⟩) (o_all_different : PySem.W.codeIn K cd_all_different "all_different" = true) (k_all_different : PySem.W.keepIn K (.ref f_all_different) = true)
    {od_is_least an_is_least : Option Addr} {sl_is_least : Array (Option Value)} {oc_is_least kV_is_least dc_is_least pm_is_least cd_is_least ct_is_least : Value} {f_is_least : Addr}
    (a_is_least : PySem.W.nsIn K mainGlobals "is_least" = some (some (.ref f_is_least))) (l_is_least : K.lookup f_is_least = some ⟨oc_is_least, od_is_least, .func (PySem.W.fnOf "is_least" "is_least" (defArgs s_is_least) (defBody s_is_least) (defScope s_is_least) .none kV_is_least dc_is_least pm_is_least an_is_least cd_is_least ct_is_least), sl_is_least⟩) (o_is_least : PySem.W.codeIn K cd_is_least "is_least" = true) (k_is_least : PySem.W.keepIn K (.ref f_is_least) = true)
    {od_is_table_of_three an_is_table_of_three : Option Addr} {sl_is_table_of_three : Array (Option Value)} {oc_is_table_of_three kV_is_table_of_three dc_is_table_of_three pm_is_table_of_three cd_is_table_of_three ct_is_table_of_three : Value} {f_is_table_of_three : Addr}
    (a_is_table_of_three : PySem.W.nsIn K mainGlobals "is_table_of_three" = some (some (.ref f_is_table_of_three))) (l_is_table_of_three : K.lookup f_is_table_of_three = some ⟨oc_is_table_of_three, od_is_table_of_three, .func (PySem.W.fnOf "is_table_of_three" "is_table_of_three" (defArgs s_is_table_of_three) (defBody s_is_table_of_three) (defScope s_is_table_of_three) .none kV_is_table_of_three dc_is_table_of_three pm_is_table_of_three an_is_table_of_three cd_is_table_of_three ct_is_table_of_three), sl_is_table_of_three⟩) (o_is_table_of_three : PySem.W.codeIn K cd_is_table_of_three "is_table_of_three" = true) (k_is_table_of_three : PySem.W.keepIn K (.ref f_is_table_of_three) = true)
    {od_accepts_three an_accepts_three : Option Addr} {sl_accepts_three : Array (Option Value)} {oc_accepts_three kV_accepts_three dc_accepts_three pm_accepts_three cd_accepts_three ct_accepts_three : Value} {f_accepts_three : Addr}
    (a_accepts_three : PySem.W.nsIn K mainGlobals "accepts_three" = some (some (.ref f_accepts_three))) (l_accepts_three : K.lookup f_accepts_three = some ⟨oc_accepts_three, od_accepts_three, .func (PySem.W.fnOf "accepts_three" "accepts_three" (defArgs s_accepts_three) (defBody s_accepts_three) (defScope s_accepts_three) .none kV_accepts_three dc_accepts_three pm_accepts_three an_accepts_three cd_accepts_three ct_accepts_three), sl_accepts_three⟩) (o_accepts_three : PySem.W.codeIn K cd_accepts_three "accepts_three" = true) (k_accepts_three : PySem.W.keepIn K (.ref f_accepts_three) = true)
    {od_return_cost an_return_cost : Option Addr} {sl_return_cost : Array (Option Value)} {oc_return_cost kV_return_cost dc_return_cost pm_return_cost cd_return_cost ct_return_cost : Value} {f_return_cost : Addr}
    (a_return_cost : PySem.W.nsIn K mainGlobals "return_cost" = some (some (.ref f_return_cost))) (l_return_cost : K.lookup f_return_cost = some ⟨oc_return_cost, od_return_cost, .func (PySem.W.fnOf "return_cost" "return_cost" (defArgs s_return_cost) (defBody s_return_cost) (defScope s_return_cost) .none kV_return_cost dc_return_cost pm_return_cost an_return_cost cd_return_cost ct_return_cost), sl_return_cost⟩) (o_return_cost : PySem.W.codeIn K cd_return_cost "return_cost" = true) (k_return_cost : PySem.W.keepIn K (.ref f_return_cost) = true)
    {od_returning_cores an_returning_cores : Option Addr} {sl_returning_cores : Array (Option Value)} {oc_returning_cores kV_returning_cores dc_returning_cores pm_returning_cores cd_returning_cores ct_returning_cores : Value} {f_returning_cores : Addr}
    (a_returning_cores : PySem.W.nsIn K mainGlobals "returning_cores" = some (some (.ref f_returning_cores))) (l_returning_cores : K.lookup f_returning_cores = some ⟨oc_returning_cores, od_returning_cores, .func (PySem.W.fnOf "returning_cores" "returning_cores" (defArgs s_returning_cores) (defBody s_returning_cores) (defScope s_returning_cores) .none kV_returning_cores dc_returning_cores pm_returning_cores an_returning_cores cd_returning_cores ct_returning_cores), sl_returning_cores⟩) (o_returning_cores : PySem.W.codeIn K cd_returning_cores "returning_cores" = true) (k_returning_cores : PySem.W.keepIn K (.ref f_returning_cores) = true)
    {od_returned an_returned : Option Addr} {sl_returned : Array (Option Value)} {oc_returned kV_returned dc_returned pm_returned cd_returned ct_returned : Value} {f_returned : Addr}
    (a_returned : PySem.W.nsIn K mainGlobals "returned" = some (some (.ref f_returned))) (l_returned : K.lookup f_returned = some ⟨oc_returned, od_returned, .func (PySem.W.fnOf "returned" "returned" (defArgs s_returned) (defBody s_returned) (defScope s_returned) .none kV_returned dc_returned pm_returned an_returned cd_returned ct_returned), sl_returned⟩) (o_returned : PySem.W.codeIn K cd_returned "returned" = true) (k_returned : PySem.W.keepIn K (.ref f_returned) = true)
    {od_accepts_return an_accepts_return : Option Addr} {sl_accepts_return : Array (Option Value)} {oc_accepts_return kV_accepts_return dc_accepts_return pm_accepts_return cd_accepts_return ct_accepts_return : Value} {f_accepts_return : Addr}
    (a_accepts_return : PySem.W.nsIn K mainGlobals "accepts_return" = some (some (.ref f_accepts_return))) (l_accepts_return : K.lookup f_accepts_return = some ⟨oc_accepts_return, od_accepts_return, .func (PySem.W.fnOf "accepts_return" "accepts_return" (defArgs s_accepts_return) (defBody s_accepts_return) (defScope s_accepts_return) .none kV_accepts_return dc_accepts_return pm_accepts_return an_accepts_return cd_accepts_return ct_accepts_return), sl_accepts_return⟩) (o_accepts_return : PySem.W.codeIn K cd_accepts_return "accepts_return" = true) (k_accepts_return : PySem.W.keepIn K (.ref f_accepts_return) = true)
    {od_lies_between an_lies_between : Option Addr} {sl_lies_between : Array (Option Value)} {oc_lies_between kV_lies_between dc_lies_between pm_lies_between cd_lies_between ct_lies_between : Value} {f_lies_between : Addr}
    (a_lies_between : PySem.W.nsIn K mainGlobals "lies_between" = some (some (.ref f_lies_between))) (l_lies_between : K.lookup f_lies_between = some ⟨oc_lies_between, od_lies_between, .func (PySem.W.fnOf "lies_between" "lies_between" (defArgs s_lies_between) (defBody s_lies_between) (defScope s_lies_between) .none kV_lies_between dc_lies_between pm_lies_between an_lies_between cd_lies_between ct_lies_between), sl_lies_between⟩) (o_lies_between : PySem.W.codeIn K cd_lies_between "lies_between" = true) (k_lies_between : PySem.W.keepIn K (.ref f_lies_between) = true)
    {od_bridge an_bridge : Option Addr} {sl_bridge : Array (Option Value)} {oc_bridge kV_bridge dc_bridge pm_bridge cd_bridge ct_bridge : Value} {f_bridge : Addr}
    (a_bridge : PySem.W.nsIn K mainGlobals "bridge" = some (some (.ref f_bridge))) (l_bridge : K.lookup f_bridge = some ⟨oc_bridge, od_bridge, .func (PySem.W.fnOf "bridge" "bridge" (defArgs s_bridge) (defBody s_bridge) (defScope s_bridge) .none kV_bridge dc_bridge pm_bridge an_bridge cd_bridge ct_bridge), sl_bridge⟩) (o_bridge : PySem.W.codeIn K cd_bridge "bridge" = true) (k_bridge : PySem.W.keepIn K (.ref f_bridge) = true)
    {od__law_stream an__law_stream : Option Addr} {sl__law_stream : Array (Option Value)} {oc__law_stream kV__law_stream dc__law_stream pm__law_stream cd__law_stream ct__law_stream : Value} {f__law_stream : Addr}
    (a__law_stream : PySem.W.nsIn K mainGlobals "_law_stream" = some (some (.ref f__law_stream))) (l__law_stream : K.lookup f__law_stream = some ⟨oc__law_stream, od__law_stream, .func (PySem.W.fnOf "_law_stream" "_law_stream" (defArgs s__law_stream) (defBody s__law_stream) (defScope s__law_stream) .none kV__law_stream dc__law_stream pm__law_stream an__law_stream cd__law_stream ct__law_stream), sl__law_stream⟩) (o__law_stream : PySem.W.codeIn K cd__law_stream "_law_stream" = true) (k__law_stream : PySem.W.keepIn K (.ref f__law_stream) = true)
    {od__law_next an__law_next : Option Addr} {sl__law_next : Array (Option Value)} {oc__law_next kV__law_next dc__law_next pm__law_next cd__law_next ct__law_next : Value} {f__law_next : Addr}
    (a__law_next : PySem.W.nsIn K mainGlobals "_law_next" = some (some (.ref f__law_next))) (l__law_next : K.lookup f__law_next = some ⟨oc__law_next, od__law_next, .func (PySem.W.fnOf "_law_next" "_law_next" (defArgs s__law_next) (defBody s__law_next) (defScope s__law_next) .none kV__law_next dc__law_next pm__law_next an__law_next cd__law_next ct__law_next), sl__law_next⟩) (o__law_next : PySem.W.codeIn K cd__law_next "_law_next" = true) (k__law_next : PySem.W.keepIn K (.ref f__law_next) = true)
    {od__law_is_integer an__law_is_integer : Option Addr} {sl__law_is_integer : Array (Option Value)} {oc__law_is_integer kV__law_is_integer dc__law_is_integer pm__law_is_integer cd__law_is_integer ct__law_is_integer : Value} {f__law_is_integer : Addr}
    (a__law_is_integer : PySem.W.nsIn K mainGlobals "_law_is_integer" = some (some (.ref f__law_is_integer))) (l__law_is_integer : K.lookup f__law_is_integer = some ⟨oc__law_is_integer, od__law_is_integer, .func (PySem.W.fnOf "_law_is_integer" "_law_is_integer" (defArgs s__law_is_integer) (defBody s__law_is_integer) (defScope s__law_is_integer) .none kV__law_is_integer dc__law_is_integer pm__law_is_integer an__law_is_integer cd__law_is_integer ct__law_is_integer), sl__law_is_integer⟩) (o__law_is_integer : PySem.W.codeIn K cd__law_is_integer "_law_is_integer" = true) (k__law_is_integer : PySem.W.keepIn K (.ref f__law_is_integer) = true)
    {od__law_equal an__law_equal : Option Addr} {sl__law_equal : Array (Option Value)} {oc__law_equal kV__law_equal dc__law_equal pm__law_equal cd__law_equal ct__law_equal : Value} {f__law_equal : Addr}
    (a__law_equal : PySem.W.nsIn K mainGlobals "_law_equal" = some (some (.ref f__law_equal))) (l__law_equal : K.lookup f__law_equal = some ⟨oc__law_equal, od__law_equal, .func (PySem.W.fnOf "_law_equal" "_law_equal" (defArgs s__law_equal) (defBody s__law_equal) (defScope s__law_equal) .none kV__law_equal dc__law_equal pm__law_equal an__law_equal cd__law_equal ct__law_equal), sl__law_equal⟩) (o__law_equal : PySem.W.codeIn K cd__law_equal "_law_equal" = true) (k__law_equal : PySem.W.keepIn K (.ref f__law_equal) = true)
    {od__law_sizes an__law_sizes : Option Addr} {sl__law_sizes : Array (Option Value)} {oc__law_sizes kV__law_sizes dc__law_sizes pm__law_sizes cd__law_sizes ct__law_sizes : Value} {f__law_sizes : Addr}
    (a__law_sizes : PySem.W.nsIn K mainGlobals "_law_sizes" = some (some (.ref f__law_sizes))) (l__law_sizes : K.lookup f__law_sizes = some ⟨oc__law_sizes, od__law_sizes, .func (PySem.W.fnOf "_law_sizes" "_law_sizes" (defArgs s__law_sizes) (defBody s__law_sizes) (defScope s__law_sizes) .none kV__law_sizes dc__law_sizes pm__law_sizes an__law_sizes cd__law_sizes ct__law_sizes), sl__law_sizes⟩) (o__law_sizes : PySem.W.codeIn K cd__law_sizes "_law_sizes" = true) (k__law_sizes : PySem.W.keepIn K (.ref f__law_sizes) = true)
    {od__law_count an__law_count : Option Addr} {sl__law_count : Array (Option Value)} {oc__law_count kV__law_count dc__law_count pm__law_count cd__law_count ct__law_count : Value} {f__law_count : Addr}
    (a__law_count : PySem.W.nsIn K mainGlobals "_law_count" = some (some (.ref f__law_count))) (l__law_count : K.lookup f__law_count = some ⟨oc__law_count, od__law_count, .func (PySem.W.fnOf "_law_count" "_law_count" (defArgs s__law_count) (defBody s__law_count) (defScope s__law_count) .none kV__law_count dc__law_count pm__law_count an__law_count cd__law_count ct__law_count), sl__law_count⟩) (o__law_count : PySem.W.codeIn K cd__law_count "_law_count" = true) (k__law_count : PySem.W.keepIn K (.ref f__law_count) = true)
    {od__law_drawn an__law_drawn : Option Addr} {sl__law_drawn : Array (Option Value)} {oc__law_drawn kV__law_drawn dc__law_drawn pm__law_drawn cd__law_drawn ct__law_drawn : Value} {f__law_drawn : Addr}
    (a__law_drawn : PySem.W.nsIn K mainGlobals "_law_drawn" = some (some (.ref f__law_drawn))) (l__law_drawn : K.lookup f__law_drawn = some ⟨oc__law_drawn, od__law_drawn, .func (PySem.W.fnOf "_law_drawn" "_law_drawn" (defArgs s__law_drawn) (defBody s__law_drawn) (defScope s__law_drawn) .none kV__law_drawn dc__law_drawn pm__law_drawn an__law_drawn cd__law_drawn ct__law_drawn), sl__law_drawn⟩) (o__law_drawn : PySem.W.codeIn K cd__law_drawn "_law_drawn" = true) (k__law_drawn : PySem.W.keepIn K (.ref f__law_drawn) = true)
    {od__law_allocation an__law_allocation : Option Addr} {sl__law_allocation : Array (Option Value)} {oc__law_allocation kV__law_allocation dc__law_allocation pm__law_allocation cd__law_allocation ct__law_allocation : Value} {f__law_allocation : Addr}
    (a__law_allocation : PySem.W.nsIn K mainGlobals "_law_allocation" = some (some (.ref f__law_allocation))) (l__law_allocation : K.lookup f__law_allocation = some ⟨oc__law_allocation, od__law_allocation, .func (PySem.W.fnOf "_law_allocation" "_law_allocation" (defArgs s__law_allocation) (defBody s__law_allocation) (defScope s__law_allocation) .none kV__law_allocation dc__law_allocation pm__law_allocation an__law_allocation cd__law_allocation ct__law_allocation), sl__law_allocation⟩) (o__law_allocation : PySem.W.codeIn K cd__law_allocation "_law_allocation" = true) (k__law_allocation : PySem.W.keepIn K (.ref f__law_allocation) = true)
    {od__law_three an__law_three : Option Addr} {sl__law_three : Array (Option Value)} {oc__law_three kV__law_three dc__law_three pm__law_three cd__law_three ct__law_three : Value} {f__law_three : Addr}
    (a__law_three : PySem.W.nsIn K mainGlobals "_law_three" = some (some (.ref f__law_three))) (l__law_three : K.lookup f__law_three = some ⟨oc__law_three, od__law_three, .func (PySem.W.fnOf "_law_three" "_law_three" (defArgs s__law_three) (defBody s__law_three) (defScope s__law_three) .none kV__law_three dc__law_three pm__law_three an__law_three cd__law_three ct__law_three), sl__law_three⟩) (o__law_three : PySem.W.codeIn K cd__law_three "_law_three" = true) (k__law_three : PySem.W.keepIn K (.ref f__law_three) = true)
    {od__law_all an__law_all : Option Addr} {sl__law_all : Array (Option Value)} {oc__law_all kV__law_all dc__law_all pm__law_all cd__law_all ct__law_all : Value} {f__law_all : Addr}
    (a__law_all : PySem.W.nsIn K mainGlobals "_law_all" = some (some (.ref f__law_all))) (l__law_all : K.lookup f__law_all = some ⟨oc__law_all, od__law_all, .func (PySem.W.fnOf "_law_all" "_law_all" (defArgs s__law_all) (defBody s__law_all) (defScope s__law_all) .none kV__law_all dc__law_all pm__law_all an__law_all cd__law_all ct__law_all), sl__law_all⟩) (o__law_all : PySem.W.codeIn K cd__law_all "_law_all" = true) (k__law_all : PySem.W.keepIn K (.ref f__law_all) = true)
    {od__law_of an__law_of : Option Addr} {sl__law_of : Array (Option Value)} {oc__law_of kV__law_of dc__law_of pm__law_of cd__law_of ct__law_of : Value} {f__law_of : Addr}
    (a__law_of : PySem.W.nsIn K mainGlobals "_law_of" = some (some (.ref f__law_of))) (l__law_of : K.lookup f__law_of = some ⟨oc__law_of, od__law_of, .func (PySem.W.fnOf "_law_of" "_law_of" (defArgs s__law_of) (defBody s__law_of) (defScope s__law_of) .none kV__law_of dc__law_of pm__law_of an__law_of cd__law_of ct__law_of), sl__law_of⟩) (o__law_of : PySem.W.codeIn K cd__law_of "_law_of" = true) (k__law_of : PySem.W.keepIn K (.ref f__law_of) = true)
    {od__law_told an__law_told : Option Addr} {sl__law_told : Array (Option Value)} {oc__law_told kV__law_told dc__law_told pm__law_told cd__law_told ct__law_told : Value} {f__law_told : Addr}
    (a__law_told : PySem.W.nsIn K mainGlobals "_law_told" = some (some (.ref f__law_told))) (l__law_told : K.lookup f__law_told = some ⟨oc__law_told, od__law_told, .func (PySem.W.fnOf "_law_told" "_law_told" (defArgs s__law_told) (defBody s__law_told) (defScope s__law_told) .none kV__law_told dc__law_told pm__law_told an__law_told cd__law_told ct__law_told), sl__law_told⟩) (o__law_told : PySem.W.codeIn K cd__law_told "_law_told" = true) (k__law_told : PySem.W.keepIn K (.ref f__law_told) = true)
    {od__law_wrong an__law_wrong : Option Addr} {sl__law_wrong : Array (Option Value)} {oc__law_wrong kV__law_wrong dc__law_wrong pm__law_wrong cd__law_wrong ct__law_wrong : Value} {f__law_wrong : Addr}
    (a__law_wrong : PySem.W.nsIn K mainGlobals "_law_wrong" = some (some (.ref f__law_wrong))) (l__law_wrong : K.lookup f__law_wrong = some ⟨oc__law_wrong, od__law_wrong, .func (PySem.W.fnOf "_law_wrong" "_law_wrong" (defArgs s__law_wrong) (defBody s__law_wrong) (defScope s__law_wrong) .none kV__law_wrong dc__law_wrong pm__law_wrong an__law_wrong cd__law_wrong ct__law_wrong), sl__law_wrong⟩) (o__law_wrong : PySem.W.codeIn K cd__law_wrong "_law_wrong" = true) (k__law_wrong : PySem.W.keepIn K (.ref f__law_wrong) = true)
    {od_law an_law : Option Addr} {sl_law : Array (Option Value)} {oc_law kV_law dc_law pm_law cd_law ct_law : Value} {f_law : Addr}
    (a_law : PySem.W.nsIn K mainGlobals "law" = some (some (.ref f_law))) (l_law : K.lookup f_law = some ⟨oc_law, od_law, .func (PySem.W.fnOf "law" "law" (defArgs s_law) (defBody s_law) (defScope s_law) .none kV_law dc_law pm_law an_law cd_law ct_law), sl_law⟩) (o_law : PySem.W.codeIn K cd_law "law" = true) (k_law : PySem.W.keepIn K (.ref f_law) = true)
    (z_abs : PySem.W.nsIn K mainGlobals "abs" = some none)
    (z_all : PySem.W.nsIn K mainGlobals "all" = some none)
    (z_bool : PySem.W.nsIn K mainGlobals "bool" = some none)
    (z_enumerate : PySem.W.nsIn K mainGlobals "enumerate" = some none)
    (z_int : PySem.W.nsIn K mainGlobals "int" = some none)
    (z_isinstance : PySem.W.nsIn K mainGlobals "isinstance" = some none)
    (z_len : PySem.W.nsIn K mainGlobals "len" = some none)
    (z_list : PySem.W.nsIn K mainGlobals "list" = some none)
    (z_max : PySem.W.nsIn K mainGlobals "max" = some none)
    (z_min : PySem.W.nsIn K mainGlobals "min" = some none)
    (z_range : PySem.W.nsIn K mainGlobals "range" = some none)
    (z_sorted : PySem.W.nsIn K mainGlobals "sorted" = some none)
    (z_str : PySem.W.nsIn K mainGlobals "str" = some none)
    (z_sum : PySem.W.nsIn K mainGlobals "sum" = some none)
    (z_tuple : PySem.W.nsIn K mainGlobals "tuple" = some none)
    (z_zip : PySem.W.nsIn K mainGlobals "zip" = some none)
    {tk_MOST_VARIANTS : Tok} (g_MOST_VARIANTS : PySem.W.nsIn K mainGlobals "MOST_VARIANTS" = some (some (.int 5 tk_MOST_VARIANTS)))
    {tk_MOST_BUCKETS : Tok} (g_MOST_BUCKETS : PySem.W.nsIn K mainGlobals "MOST_BUCKETS" = some (some (.int 20 tk_MOST_BUCKETS)))
    {xC_BadValue xI_BadValue xcc_BadValue xcda_BadValue : Addr} {xkV_BadValue xdoc_BadValue xpm_BadValue xct_BadValue xoc_BadValue xcl_BadValue xccl_BadValue : Value} {xan_BadValue xod_BadValue xcdd_BadValue xcld_BadValue : Option Addr} {xosl_BadValue xcsl_BadValue xccs_BadValue : Array (Option Value)} {xvs_BadValue : Array Value} {xfile_BadValue : Str} {xtf_BadValue : Tok}
    {xnm_BadValue xq_BadValue : Str} {xN_BadValue : Addr} {xbs_BadValue xbm_BadValue xsub_BadValue : List Value} {xsn_BadValue : List Str} {xab_BadValue : Bool} {xcol_BadValue : Option Bool} {xdd_BadValue : Option Addr} {x0_BadValue x1_BadValue x2_BadValue x3_BadValue x5_BadValue : Option Value} {xcd_BadValue : ClassData}
    (xa_BadValue : PySem.W.nsIn K mainGlobals "BadValue" = some (some (.ref xC_BadValue))) (xi_BadValue : PySem.W.findIn K (.ref xC_BadValue) "__init__" = some (some (.ref xI_BadValue)))
    (xl_BadValue : K.lookup xI_BadValue = some ⟨xoc_BadValue, xod_BadValue, .func (PySem.W.ksFn "__init__" "BadValue.__init__" (defArgs s_ini_BadValue) (defBody s_ini_BadValue) (defScope s_ini_BadValue) .none xkV_BadValue xdoc_BadValue xpm_BadValue xan_BadValue (.ref xcda_BadValue) xct_BadValue xcc_BadValue), xosl_BadValue⟩)
    (xo_BadValue : PySem.W.codeIn K (.ref xcda_BadValue) "BadValue.__init__" = true) (xd_BadValue : K.lookup xcda_BadValue = some ⟨xccl_BadValue, xcdd_BadValue, .fields xvs_BadValue, xccs_BadValue⟩) (xv_BadValue : xvs_BadValue[2]? = some (.str xfile_BadValue xtf_BadValue)) (xf_BadValue : ((l.prog.main.file : Str) == xfile_BadValue) = true)
    (xc_BadValue : K.lookup xcc_BadValue = some ⟨xcl_BadValue, xcld_BadValue, .cell (some (.ref xC_BadValue)), xcsl_BadValue⟩) (xk_BadValue : K.lookup xC_BadValue = some (excClassObj xnm_BadValue xq_BadValue xC_BadValue xN_BadValue xbs_BadValue xbm_BadValue true xsn_BadValue xsub_BadValue xab_BadValue xcol_BadValue xdd_BadValue x0_BadValue x1_BadValue x2_BadValue x3_BadValue x5_BadValue "ValueError.__new__")) (xr_BadValue : PySem.HandSPX.refsVE xbm_BadValue = true)
    (xs_BadValue : PySem.W.findIn K (.ref xC_BadValue) "__setattr__" = some (some (.builtin "object.__setattr__"))) (xb_BadValue : PySem.W.subIn K (.ref xC_BadValue) (.type "BaseException") = some true) (xt_BadValue : PySem.W.typeIn K (.ref xC_BadValue) = some (.type "type")) (xp_BadValue : PySem.W.keepIn K (.ref xC_BadValue) = true)
    (xw_BadValue : PySem.W.subIn K (.ref xC_BadValue) (.type "ValueError") = some true) (xz_BadValue : PySem.W.nsIn K cStatics "thirdparty.any" = some none) (xu_BadValue : PySem.W.ks_superIn K xC_BadValue xC_BadValue "__init__" = some (some (.builtin "ValueError.__init__"))) (xy_BadValue : PySem.W.typeIn K (.ref xI_BadValue) = some (.type "function"))
    (xg_BadValue : PySem.W.findIn K (.ref xC_BadValue) "__getattribute__" = some (some (.builtin "BaseException.__getattribute__"))) (xh_BadValue : PySem.W.findIn K (.ref xC_BadValue) "__getattr__" = some none) (xD_BadValue : PySem.W.hasDictIn K xC_BadValue = true) (xn_BadValue : PySem.W.findIn K (.ref xC_BadValue) "name" = some none)
    (xe_BadValue : PySem.W.clsIn K xC_BadValue = some xcd_BadValue) (xx_BadValue : PySem.W.subIn K (.ref xC_BadValue) (.ref xC_BadValue) = some true) (xj_BadValue : PySem.W.nsIn K mainGlobals "super" = some none) (xm_BadValue : (l.prog.main.scope.names.lookup ("super" : Str)).isSome = false) :
    ∃ fd : FuncData, (∀ (s : Shared) (v : Value), BindsTo s fd ⟨[v], []⟩ [("script", v)]) ∧ ∀ base : Heap, K.In base → base.Ns mainGlobals mg → FnOk l.prog w K mg base CX0 12 fa fd ["script"] (spLaw K) := by
  have e := hfa.symm.trans (PySem.W.mg_of X G a_law)
  cases e
  have T : Txt mg := { b_abs := PySem.W.mg_none_of X G z_abs, b_all := PySem.W.mg_none_of X G z_all, b_bool := PySem.W.mg_none_of X G z_bool, b_enumerate := PySem.W.mg_none_of X G z_enumerate, b_int := PySem.W.mg_none_of X G z_int, b_isinstance := PySem.W.mg_none_of X G z_isinstance, b_len := PySem.W.mg_none_of X G z_len, b_list := PySem.W.mg_none_of X G z_list, b_max := PySem.W.mg_none_of X G z_max, b_min := PySem.W.mg_none_of X G z_min, b_range := PySem.W.mg_none_of X G z_range, b_sorted := PySem.W.mg_none_of X G z_sorted, b_str := PySem.W.mg_none_of X G z_str, b_sum := PySem.W.mg_none_of X G z_sum, b_tuple := PySem.W.mg_none_of X G z_tuple, b_zip := PySem.W.mg_none_of X G z_zip, k_MOST_VARIANTS := ⟨_, PySem.W.mg_of X G g_MOST_VARIANTS⟩, k_MOST_BUCKETS := ⟨_, PySem.W.mg_of X G g_MOST_BUCKETS⟩ }
  have F_is_integer := fun_mk (st := s_is_integer) l_is_integer o_is_integer k_is_integer
  have b_is_integer := F_is_integer.binds (ps := p_is_integer) fun _ _ _ _ _ _ us hl => match us, hl with | [_, _, _], _ => rfl
  have m_is_integer := PySem.W.mg_of X G a_is_integer
  have F_are_integers := fun_mk (st := s_are_integers) l_are_integers o_are_integers k_are_integers
  have b_are_integers := F_are_integers.binds (ps := p_are_integers) fun _ _ _ _ _ _ us hl => match us, hl with | [_, _, _], _ => rfl
  have m_are_integers := PySem.W.mg_of X G a_are_integers
  have F_require := fun_mk (st := s_require) l_require o_require k_require
  have b_require := F_require.binds (ps := p_require) fun _ _ _ _ _ _ us hl => match us, hl with | [_, _], _ => rfl
  have m_require := PySem.W.mg_of X G a_require
  have F_is_allocation := fun_mk (st := s_is_allocation) l_is_allocation o_is_allocation k_is_allocation
  have b_is_allocation := F_is_allocation.binds (ps := p_is_allocation) fun _ _ _ _ _ _ us hl => match us, hl with | [_, _, _], _ => rfl
  have m_is_allocation := PySem.W.mg_of X G a_is_allocation
  have F_is_bounded_allocation := fun_mk (st := s_is_bounded_allocation) l_is_bounded_allocation o_is_bounded_allocation k_is_bounded_allocation
  have b_is_bounded_allocation := F_is_bounded_allocation.binds (ps := p_is_bounded_allocation) fun _ _ _ _ _ _ us hl => match us, hl with | [_], _ => rfl
  have m_is_bounded_allocation := PySem.W.mg_of X G a_is_bounded_allocation
  have F_check_allocation := fun_mk (st := s_check_allocation) l_check_allocation o_check_allocation k_check_allocation
  have b_check_allocation := F_check_allocation.binds (ps := p_check_allocation) fun _ _ _ _ _ _ us hl => match us, hl with | [_, _], _ => rfl
  have m_check_allocation := PySem.W.mg_of X G a_check_allocation
  have F_check_alike := fun_mk (st := s_check_alike) l_check_alike o_check_alike k_check_alike
  have b_check_alike := F_check_alike.binds (ps := p_check_alike) fun _ _ _ _ _ _ us hl => match us, hl with | [_, _, _], _ => rfl
  have m_check_alike := PySem.W.mg_of X G a_check_alike
  have F_transfer := fun_mk (st := s_transfer) l_transfer o_transfer k_transfer
  have b_transfer := F_transfer.binds (ps := p_transfer) fun _ _ _ _ _ _ us hl => match us, hl with | [_, _], _ => rfl
  have m_transfer := PySem.W.mg_of X G a_transfer
  have F_medians := fun_mk (st := s_medians) l_medians o_medians k_medians
  have b_medians := F_medians.binds (ps := p_medians) fun _ _ _ _ _ _ us hl => match us, hl with | [_, _, _], _ => rfl
  have m_medians := PySem.W.mg_of X G a_medians
  have F_is_assignment := fun_mk (st := s_is_assignment) l_is_assignment o_is_assignment k_is_assignment
  have b_is_assignment := F_is_assignment.binds (ps := p_is_assignment) fun _ _ _ _ _ _ us hl => match us, hl with | [_, _, _], _ => rfl
  have m_is_assignment := PySem.W.mg_of X G a_is_assignment
  have F_is_bounded_assignment := fun_mk (st := s_is_bounded_assignment) l_is_bounded_assignment o_is_bounded_assignment k_is_bounded_assignment
  have b_is_bounded_assignment := F_is_bounded_assignment.binds (ps := p_is_bounded_assignment) fun _ _ _ _ _ _ us hl => match us, hl with | [_, _], _ => rfl
  have m_is_bounded_assignment := PySem.W.mg_of X G a_is_bounded_assignment
  have F_check_assignment := fun_mk (st := s_check_assignment) l_check_assignment o_check_assignment k_check_assignment
  have b_check_assignment := F_check_assignment.binds (ps := p_check_assignment) fun _ _ _ _ _ _ us hl => match us, hl with | [_, _], _ => rfl
  have m_check_assignment := PySem.W.mg_of X G a_check_assignment
  have F_check_pair := fun_mk (st := s_check_pair) l_check_pair o_check_pair k_check_pair
  have b_check_pair := F_check_pair.binds (ps := p_check_pair) fun _ _ _ _ _ _ us hl => match us, hl with | [_, _], _ => rfl
  have m_check_pair := PySem.W.mg_of X G a_check_pair
  have F_check_enough := fun_mk (st := s_check_enough) l_check_enough o_check_enough k_check_enough
  have b_check_enough := F_check_enough.binds (ps := p_check_enough) fun _ _ _ _ _ _ us hl => match us, hl with | [_, _], _ => rfl
  have m_check_enough := PySem.W.mg_of X G a_check_enough
  have F_allocation_of := fun_mk (st := s_allocation_of) l_allocation_of o_allocation_of k_allocation_of
  have b_allocation_of := F_allocation_of.binds (ps := p_allocation_of) fun _ _ _ _ _ _ us hl => match us, hl with | [_, _], _ => rfl
  have m_allocation_of := PySem.W.mg_of X G a_allocation_of
  have F_is_assignment_of := fun_mk (st := s_is_assignment_of) l_is_assignment_of o_is_assignment_of k_is_assignment_of
  have b_is_assignment_of := F_is_assignment_of.binds (ps := p_is_assignment_of) fun _ _ _ _ _ _ us hl => match us, hl with | [_, _], _ => rfl
  have m_is_assignment_of := PySem.W.mg_of X G a_is_assignment_of
  have F_are_assignments_of := fun_mk (st := s_are_assignments_of) l_are_assignments_of o_are_assignments_of k_are_assignments_of
  have b_are_assignments_of := F_are_assignments_of.binds (ps := p_are_assignments_of) fun _ _ _ _ _ _ us hl => match us, hl with | [_, _], _ => rfl
  have m_are_assignments_of := PySem.W.mg_of X G a_are_assignments_of
  have F_churn := fun_mk (st := s_churn) l_churn o_churn k_churn
  have b_churn := F_churn.binds (ps := p_churn) fun _ _ _ _ _ _ us hl => match us, hl with | [_, _], _ => rfl
  have m_churn := PySem.W.mg_of X G a_churn
  have F_moves := fun_mk (st := s_moves) l_moves o_moves k_moves
  have b_moves := F_moves.binds (ps := p_moves) fun _ _ _ _ _ _ us hl => match us, hl with | [_, _], _ => rfl
  have m_moves := PySem.W.mg_of X G a_moves
  have F_buckets_of := fun_mk (st := s_buckets_of) l_buckets_of o_buckets_of k_buckets_of
  have b_buckets_of := F_buckets_of.binds (ps := p_buckets_of) fun _ _ _ _ _ _ us hl => match us, hl with | [_, _], _ => rfl
  have m_buckets_of := PySem.W.mg_of X G a_buckets_of
  have F_surplus := fun_mk (st := s_surplus) l_surplus o_surplus k_surplus
  have b_surplus := F_surplus.binds (ps := p_surplus) fun _ _ _ _ _ _ us hl => match us, hl with | [_, _, _], _ => rfl
  have m_surplus := PySem.W.mg_of X G a_surplus
  have F_excess := fun_mk (st := s_excess) l_excess o_excess k_excess
  have b_excess := F_excess.binds (ps := p_excess) fun _ _ _ _ _ _ us hl => match us, hl with | [_, _, _], _ => rfl
  have m_excess := PySem.W.mg_of X G a_excess
  have F_laid_out := fun_mk (st := s_laid_out) l_laid_out o_laid_out k_laid_out
  have b_laid_out := F_laid_out.binds (ps := p_laid_out) fun _ _ _ _ _ _ us hl => match us, hl with | [_, _], _ => rfl
  have m_laid_out := PySem.W.mg_of X G a_laid_out
  have F_table_of_three := fun_mk (st := s_table_of_three) l_table_of_three o_table_of_three k_table_of_three
  have b_table_of_three := F_table_of_three.binds (ps := p_table_of_three) fun _ _ _ _ _ _ us hl => match us, hl with | [_, _, _], _ => rfl
  have m_table_of_three := PySem.W.mg_of X G a_table_of_three
  have F_all_different := fun_mk (st := s_all_different) l_all_different o_all_different k_all_different
  have b_all_different := F_all_different.binds (ps := p_all_different) fun _ _ _ _ _ _ us hl => match us, hl with | [_, _, _], _ => rfl
  have m_all_different := PySem.W.mg_of X G a_all_different
  have F_is_least := fun_mk (st := s_is_least) l_is_least o_is_least k_is_least
  have b_is_least := F_is_least.binds (ps := p_is_least) fun _ _ _ _ _ _ us hl => match us, hl with | [_, _, _, _], _ => rfl
  have m_is_least := PySem.W.mg_of X G a_is_least
  have F_is_table_of_three := fun_mk (st := s_is_table_of_three) l_is_table_of_three o_is_table_of_three k_is_table_of_three
  have b_is_table_of_three := F_is_table_of_three.binds (ps := p_is_table_of_three) fun _ _ _ _ _ _ us hl => match us, hl with | [_, _], _ => rfl
  have m_is_table_of_three := PySem.W.mg_of X G a_is_table_of_three
  have F_accepts_three := fun_mk (st := s_accepts_three) l_accepts_three o_accepts_three k_accepts_three
  have b_accepts_three := F_accepts_three.binds (ps := p_accepts_three) fun _ _ _ _ _ _ us hl => match us, hl with | [_, _, _, _], _ => rfl
  have m_accepts_three := PySem.W.mg_of X G a_accepts_three
  have F_return_cost := fun_mk (st := s_return_cost) l_return_cost o_return_cost k_return_cost
  have b_return_cost := F_return_cost.binds (ps := p_return_cost) fun _ _ _ _ _ _ us hl => match us, hl with | [_, _, _], _ => rfl
  have m_return_cost := PySem.W.mg_of X G a_return_cost
  have F_returning_cores := fun_mk (st := s_returning_cores) l_returning_cores o_returning_cores k_returning_cores
  have b_returning_cores := F_returning_cores.binds (ps := p_returning_cores) fun _ _ _ _ _ _ us hl => match us, hl with | [_, _, _], _ => rfl
  have m_returning_cores := PySem.W.mg_of X G a_returning_cores
  have F_returned := fun_mk (st := s_returned) l_returned o_returned k_returned
  have b_returned := F_returned.binds (ps := p_returned) fun _ _ _ _ _ _ us hl => match us, hl with | [_, _, _, _], _ => rfl
  have m_returned := PySem.W.mg_of X G a_returned
  have F_accepts_return := fun_mk (st := s_accepts_return) l_accepts_return o_accepts_return k_accepts_return
  have b_accepts_return := F_accepts_return.binds (ps := p_accepts_return) fun _ _ _ _ _ _ us hl => match us, hl with | [_, _, _, _], _ => rfl
  have m_accepts_return := PySem.W.mg_of X G a_accepts_return
  have F_lies_between := fun_mk (st := s_lies_between) l_lies_between o_lies_between k_lies_between
  have b_lies_between := F_lies_between.binds (ps := p_lies_between) fun _ _ _ _ _ _ us hl => match us, hl with | [_, _, _], _ => rfl
  have m_lies_between := PySem.W.mg_of X G a_lies_between
  have F_bridge := fun_mk (st := s_bridge) l_bridge o_bridge k_bridge
  have b_bridge := F_bridge.binds (ps := p_bridge) fun _ _ _ _ _ _ us hl => match us, hl with | [_, _, _], _ => rfl
  have m_bridge := PySem.W.mg_of X G a_bridge
  have F__law_stream := fun_mk (st := s__law_stream) l__law_stream o__law_stream k__law_stream
  have b__law_stream := F__law_stream.binds (ps := p__law_stream) fun _ _ _ _ _ _ us hl => match us, hl with | [_], _ => rfl
  have m__law_stream := PySem.W.mg_of X G a__law_stream
  have F__law_next := fun_mk (st := s__law_next) l__law_next o__law_next k__law_next
  have b__law_next := F__law_next.binds (ps := p__law_next) fun _ _ _ _ _ _ us hl => match us, hl with | [_, _], _ => rfl
  have m__law_next := PySem.W.mg_of X G a__law_next
  have F__law_is_integer := fun_mk (st := s__law_is_integer) l__law_is_integer o__law_is_integer k__law_is_integer
  have b__law_is_integer := F__law_is_integer.binds (ps := p__law_is_integer) fun _ _ _ _ _ _ us hl => match us, hl with | [_], _ => rfl
  have m__law_is_integer := PySem.W.mg_of X G a__law_is_integer
  have F__law_equal := fun_mk (st := s__law_equal) l__law_equal o__law_equal k__law_equal
  have b__law_equal := F__law_equal.binds (ps := p__law_equal) fun _ _ _ _ _ _ us hl => match us, hl with | [_, _], _ => rfl
  have m__law_equal := PySem.W.mg_of X G a__law_equal
  have F__law_sizes := fun_mk (st := s__law_sizes) l__law_sizes o__law_sizes k__law_sizes
  have b__law_sizes := F__law_sizes.binds (ps := p__law_sizes) fun _ _ _ _ _ _ us hl => match us, hl with | [_], _ => rfl
  have m__law_sizes := PySem.W.mg_of X G a__law_sizes
  have F__law_count := fun_mk (st := s__law_count) l__law_count o__law_count k__law_count
  have b__law_count := F__law_count.binds (ps := p__law_count) fun _ _ _ _ _ _ us hl => match us, hl with | [_, _], _ => rfl
  have m__law_count := PySem.W.mg_of X G a__law_count
  have F__law_drawn := fun_mk (st := s__law_drawn) l__law_drawn o__law_drawn k__law_drawn
  have b__law_drawn := F__law_drawn.binds (ps := p__law_drawn) fun _ _ _ _ _ _ us hl => match us, hl with | [_, _, _], _ => rfl
  have m__law_drawn := PySem.W.mg_of X G a__law_drawn
  have F__law_allocation := fun_mk (st := s__law_allocation) l__law_allocation o__law_allocation k__law_allocation
  have b__law_allocation := F__law_allocation.binds (ps := p__law_allocation) fun _ _ _ _ _ _ us hl => match us, hl with | [_, _, _], _ => rfl
  have m__law_allocation := PySem.W.mg_of X G a__law_allocation
  have F__law_three := fun_mk (st := s__law_three) l__law_three o__law_three k__law_three
  have b__law_three := F__law_three.binds (ps := p__law_three) fun _ _ _ _ _ _ us hl => match us, hl with | [_, _, _], _ => rfl
  have m__law_three := PySem.W.mg_of X G a__law_three
  have F__law_all := fun_mk (st := s__law_all) l__law_all o__law_all k__law_all
  have b__law_all := F__law_all.binds (ps := p__law_all) fun _ _ _ _ _ _ us hl => match us, hl with | [_, _], _ => rfl
  have m__law_all := PySem.W.mg_of X G a__law_all
  have F__law_of := fun_mk (st := s__law_of) l__law_of o__law_of k__law_of
  have b__law_of := F__law_of.binds (ps := p__law_of) fun _ _ _ _ _ _ us hl => match us, hl with | [_], _ => rfl
  have m__law_of := PySem.W.mg_of X G a__law_of
  have F__law_told := fun_mk (st := s__law_told) l__law_told o__law_told k__law_told
  have b__law_told := F__law_told.binds (ps := p__law_told) fun _ _ _ _ _ _ us hl => match us, hl with | [_, _, _, _, _], _ => rfl
  have m__law_told := PySem.W.mg_of X G a__law_told
  have F__law_wrong := fun_mk (st := s__law_wrong) l__law_wrong o__law_wrong k__law_wrong
  have b__law_wrong := F__law_wrong.binds (ps := p__law_wrong) fun _ _ _ _ _ _ us hl => match us, hl with | [_, _], _ => rfl
  have m__law_wrong := PySem.W.mg_of X G a__law_wrong
  have F_law := fun_mk (st := s_law) l_law o_law k_law
  have O_BadValue : OexC K xC_BadValue := ⟨⟨_, _, _, _, _, _, _, _, _, _, _, _, _, _, _, xk_BadValue, xr_BadValue⟩, xs_BadValue, xb_BadValue, xt_BadValue, xp_BadValue⟩
  have I_BadValue := fun base => ok_ini_BadValue (P := l.prog) (w := w) (mg := mg) (base := base) xl_BadValue xo_BadValue xd_BadValue xv_BadValue xf_BadValue xc_BadValue O_BadValue xn_BadValue (PySem.W.mg_none_of X G xj_BadValue) xw_BadValue xz_BadValue xu_BadValue xm_BadValue
  have J_BadValue : Binds K (PySem.W.ksFn "__init__" "BadValue.__init__" (defArgs s_ini_BadValue) (defBody s_ini_BadValue) (defScope s_ini_BadValue) .none xkV_BadValue xdoc_BadValue xpm_BadValue xan_BadValue (.ref xcda_BadValue) xct_BadValue xcc_BadValue) ["self", "name"] [] := .all fun us hl => match us, hl with | [_, _], _ => rfl
  have E_BadValue : ∀ base, Exc1 l.prog w K mg base "BadValue" "name" xC_BadValue := fun base => ⟨O_BadValue, ⟨xg_BadValue, xh_BadValue, xb_BadValue, xD_BadValue⟩, PySem.W.mg_of X G xa_BadValue, xn_BadValue, exm_self xb_BadValue xe_BadValue xt_BadValue xx_BadValue, _, _, xi_BadValue, xy_BadValue, I_BadValue base, J_BadValue⟩
  refine ⟨PySem.W.fnOf "law" "law" (defArgs s_law) (defBody s_law) (defScope s_law) .none kV_law dc_law pm_law an_law cd_law ct_law, fun s v => .of_eq rfl, fun base _ _ => ?_⟩
  have c_is_integer : Cal l.prog w K mg base CX0 1 "is_integer" p_is_integer (sp_is_integer K) := ⟨_, _, ok_is_integer F_is_integer T, m_is_integer, k_is_integer, b_is_integer⟩
  have c_require : Cal l.prog w K mg base CX0 1 "require" p_require (sp_require K) := ⟨_, _, ok_require F_require T, m_require, k_require, b_require⟩
  have c_laid_out : Cal l.prog w K mg base CX0 1 "laid_out" p_laid_out (sp_laid_out K) := ⟨_, _, ok_laid_out F_laid_out T, m_laid_out, k_laid_out, b_laid_out⟩
  have c__law_stream : Cal l.prog w K mg base CX0 1 "_law_stream" p__law_stream (sp__law_stream K) := ⟨_, _, ok__law_stream F__law_stream T, m__law_stream, k__law_stream, b__law_stream⟩
  have c__law_next : Cal l.prog w K mg base CX0 1 "_law_next" p__law_next (sp__law_next K) := ⟨_, _, ok__law_next F__law_next T, m__law_next, k__law_next, b__law_next⟩
  have c__law_is_integer : Cal l.prog w K mg base CX0 1 "_law_is_integer" p__law_is_integer (sp__law_is_integer K) := ⟨_, _, ok__law_is_integer F__law_is_integer T, m__law_is_integer, k__law_is_integer, b__law_is_integer⟩
  have c__law_count : Cal l.prog w K mg base CX0 1 "_law_count" p__law_count (sp__law_count K) := ⟨_, _, ok__law_count F__law_count T, m__law_count, k__law_count, b__law_count⟩
  have c__law_all : Cal l.prog w K mg base CX0 1 "_law_all" p__law_all (sp__law_all K) := ⟨_, _, ok__law_all F__law_all T, m__law_all, k__law_all, b__law_all⟩
  have c_are_integers : Cal l.prog w K mg base CX0 2 "are_integers" p_are_integers (sp_are_integers K) := ⟨_, _, ok_are_integers F_are_integers T c_is_integer, m_are_integers, k_are_integers, b_are_integers⟩
  have c_check_enough : Cal l.prog w K mg base CX0 2 "check_enough" p_check_enough (sp_check_enough K) := ⟨_, _, ok_check_enough F_check_enough T c_require c_is_integer, m_check_enough, k_check_enough, b_check_enough⟩
  have c__law_sizes : Cal l.prog w K mg base CX0 2 "_law_sizes" p__law_sizes (sp__law_sizesT K) := ⟨_, _, ok__law_sizes F__law_sizes T c__law_next, m__law_sizes, k__law_sizes, b__law_sizes⟩
  have c__law_drawn : Cal l.prog w K mg base CX0 2 "_law_drawn" p__law_drawn (sp__law_drawn K) := ⟨_, _, ok__law_drawn F__law_drawn T c__law_next, m__law_drawn, k__law_drawn, b__law_drawn⟩
  have c__law_of : Cal l.prog w K mg base CX0 2 "_law_of" p__law_of (sp__law_of K) := ⟨_, _, ok__law_of F__law_of T c__law_all c__law_count, m__law_of, k__law_of, b__law_of⟩
  have c__law_wrong : Cal l.prog w K mg base CX0 2 "_law_wrong" p__law_wrong (sp__law_wrong K) := ⟨_, _, ok__law_wrong F__law_wrong T c__law_next, m__law_wrong, k__law_wrong, b__law_wrong⟩
  have c_is_allocation : Cal l.prog w K mg base CX0 3 "is_allocation" p_is_allocation (sp_is_allocation K) := ⟨_, _, ok_is_allocation F_is_allocation T c_are_integers, m_is_allocation, k_is_allocation, b_is_allocation⟩
  have c_is_bounded_allocation : Cal l.prog w K mg base CX0 3 "is_bounded_allocation" p_is_bounded_allocation (sp_is_bounded_allocationX K) := ⟨_, _, ok_is_bounded_allocation F_is_bounded_allocation T c_are_integers, m_is_bounded_allocation, k_is_bounded_allocation, b_is_bounded_allocation⟩
  have c_is_assignment : Cal l.prog w K mg base CX0 3 "is_assignment" p_is_assignment (sp_is_assignment K) := ⟨_, _, ok_is_assignment F_is_assignment T c_are_integers, m_is_assignment, k_is_assignment, b_is_assignment⟩
  have c_is_bounded_assignment : Cal l.prog w K mg base CX0 3 "is_bounded_assignment" p_is_bounded_assignment (sp_is_bounded_assignment K) := ⟨_, _, ok_is_bounded_assignment F_is_bounded_assignment T c_are_integers, m_is_bounded_assignment, k_is_bounded_assignment, b_is_bounded_assignment⟩
  have c__law_allocation : Cal l.prog w K mg base CX0 3 "_law_allocation" p__law_allocation (sp__law_allocation K) := ⟨_, _, ok__law_allocation F__law_allocation T c__law_count c__law_drawn, m__law_allocation, k__law_allocation, b__law_allocation⟩
  have c_check_allocation : Cal l.prog w K mg base CX0 4 "check_allocation" p_check_allocation (sp_check_allocation K) := ⟨_, _, ok_check_allocation F_check_allocation T c_require c_is_bounded_allocation, m_check_allocation, k_check_allocation, b_check_allocation⟩
  have c_check_alike : Cal l.prog w K mg base CX0 4 "check_alike" p_check_alike (sp_check_alike K) := ⟨_, _, ok_check_alike F_check_alike T c_require c_is_allocation, m_check_alike, k_check_alike, b_check_alike⟩
  have c_check_assignment : Cal l.prog w K mg base CX0 4 "check_assignment" p_check_assignment (sp_check_assignment K) := ⟨_, _, ok_check_assignment F_check_assignment T c_require c_is_bounded_assignment, m_check_assignment, k_check_assignment, b_check_assignment⟩
  have c__law_three : Cal l.prog w K mg base CX0 4 "_law_three" p__law_three (sp__law_three K) := ⟨_, _, ok__law_three F__law_three T c__law_allocation, m__law_three, k__law_three, b__law_three⟩
  have c_transfer : Cal l.prog w K mg base CX0 5 "transfer" p_transfer (sp_transfer K) := ⟨_, _, ok_transfer F_transfer T c_check_allocation c_check_alike, m_transfer, k_transfer, b_transfer⟩
  have c_medians : Cal l.prog w K mg base CX0 5 "medians" p_medians (sp_medians K) := ⟨_, _, ok_medians F_medians T c_check_allocation c_check_alike, m_medians, k_medians, b_medians⟩
  have c_check_pair : Cal l.prog w K mg base CX0 5 "check_pair" p_check_pair (sp_check_pair K) := ⟨_, _, ok_check_pair F_check_pair T c_check_assignment c_require c_is_assignment, m_check_pair, k_check_pair, b_check_pair⟩
  have c_allocation_of : Cal l.prog w K mg base CX0 5 "allocation_of" p_allocation_of (sp_allocation_of K) := ⟨_, _, ok_allocation_of F_allocation_of T c_check_assignment c_check_enough, m_allocation_of, k_allocation_of, b_allocation_of⟩
  have c_buckets_of : Cal l.prog w K mg base CX0 5 "buckets_of" p_buckets_of (sp_buckets_of K) := ⟨_, _, ok_buckets_of F_buckets_of T c_check_assignment c_require c_is_integer, m_buckets_of, k_buckets_of, b_buckets_of⟩
  have c_is_assignment_of : Cal l.prog w K mg base CX0 6 "is_assignment_of" p_is_assignment_of (sp_is_assignment_ofB K) := ⟨_, _, ok_is_assignment_of F_is_assignment_of T c_is_assignment c_allocation_of, m_is_assignment_of, k_is_assignment_of, b_is_assignment_of⟩
  have c_moves : Cal l.prog w K mg base CX0 6 "moves" p_moves (sp_moves K) := ⟨_, _, ok_moves F_moves T c_check_pair, m_moves, k_moves, b_moves⟩
  have c_surplus : Cal l.prog w K mg base CX0 6 "surplus" p_surplus (sp_surplus K) := ⟨_, _, ok_surplus F_surplus T c_medians, m_surplus, k_surplus, b_surplus⟩
  have c_lies_between : Cal l.prog w K mg base CX0 6 "lies_between" p_lies_between (sp_lies_between K) := ⟨_, _, ok_lies_between F_lies_between T c_check_allocation c_check_alike c_transfer, m_lies_between, k_lies_between, b_lies_between⟩
  have c_are_assignments_of : Cal l.prog w K mg base CX0 7 "are_assignments_of" p_are_assignments_of (sp_are_assignments_ofB K) := ⟨_, _, ok_are_assignments_of F_are_assignments_of T c_is_assignment_of, m_are_assignments_of, k_are_assignments_of, b_are_assignments_of⟩
  have c_churn : Cal l.prog w K mg base CX0 7 "churn" p_churn (sp_churn K) := ⟨_, _, ok_churn F_churn T c_moves, m_churn, k_churn, b_churn⟩
  have c_excess : Cal l.prog w K mg base CX0 7 "excess" p_excess (sp_excess K) := ⟨_, _, ok_excess F_excess T c_surplus, m_excess, k_excess, b_excess⟩
  have c_table_of_three : Cal l.prog w K mg base CX0 7 "table_of_three" p_table_of_three (sp_table_of_three K) := ⟨_, _, ok_table_of_three F_table_of_three T c_medians c_surplus c_laid_out, m_table_of_three, k_table_of_three, b_table_of_three⟩
  have c_all_different : Cal l.prog w K mg base CX0 7 "all_different" p_all_different (sp_all_different K) := ⟨_, _, ok_all_different F_all_different T c_surplus, m_all_different, k_all_different, b_all_different⟩
  have c_bridge : Cal l.prog w K mg base CX0 7 "bridge" p_bridge (sp_bridge K) := ⟨_, _, ok_bridge F_bridge T c_medians c_surplus, m_bridge, k_bridge, b_bridge⟩
  have c_is_least : Cal l.prog w K mg base CX0 8 "is_least" p_is_least (sp_is_least K) := ⟨_, _, ok_is_least F_is_least T c_churn c_transfer, m_is_least, k_is_least, b_is_least⟩
  have c_return_cost : Cal l.prog w K mg base CX0 8 "return_cost" p_return_cost (sp_return_cost K) := ⟨_, _, ok_return_cost F_return_cost T c_excess c_transfer, m_return_cost, k_return_cost, b_return_cost⟩
  have c_returning_cores : Cal l.prog w K mg base CX0 8 "returning_cores" p_returning_cores (sp_returning_cores K) := ⟨_, _, ok_returning_cores F_returning_cores T c_excess c_medians, m_returning_cores, k_returning_cores, b_returning_cores⟩
  have c_is_table_of_three : Cal l.prog w K mg base CX0 9 "is_table_of_three" p_is_table_of_three (sp_is_table_of_three K) := ⟨_, _, ok_is_table_of_three F_is_table_of_three T c_are_assignments_of c_is_least, m_is_table_of_three, k_is_table_of_three, b_is_table_of_three⟩
  have c_returned : Cal l.prog w K mg base CX0 9 "returned" p_returned (sp_returned K) := ⟨_, _, ok_returned F_returned T c_returning_cores c_require c_is_assignment_of c_laid_out c_buckets_of, m_returned, k_returned, b_returned⟩
  have c_accepts_return : Cal l.prog w K mg base CX0 9 "accepts_return" p_accepts_return (sp_accepts_return K) := ⟨_, _, ok_accepts_return F_accepts_return T c_return_cost c_are_assignments_of c_churn c_is_least, m_accepts_return, k_accepts_return, b_accepts_return⟩
  have c_accepts_three : Cal l.prog w K mg base CX0 10 "accepts_three" p_accepts_three (sp_accepts_three K) := ⟨_, _, ok_accepts_three F_accepts_three T c_medians c_is_table_of_three c_are_integers, m_accepts_three, k_accepts_three, b_accepts_three⟩
  have c__law_equal : Cal l.prog w K mg base CX0 10 "_law_equal" p__law_equal (sp__law_equal K) := ⟨_, _, ok__law_equal F__law_equal T c__law_is_integer m__law_equal b__law_equal, m__law_equal, k__law_equal, b__law_equal⟩
  have X_require := ok_requireX F_require T (E_BadValue base)
  have X_check_allocation := fn_or (sp' := spRef K xC_BadValue RcAl) ((fn_up0 (CX := L2.CX l.prog w) (ok_check_allocation F_check_allocation T c_require c_is_bounded_allocation)).mono (k := 5) (by decide)) (ok_check_allocationX F_check_allocation T c_is_bounded_allocation X_require m_require k_require b_require)
  have X_check_alike := fn_or (sp' := spRef K xC_BadValue RcLk) ((fn_up0 (CX := L2.CX l.prog w) (ok_check_alike F_check_alike T c_require c_is_allocation)).mono (k := 5) (by decide)) (ok_check_alikeX F_check_alike T c_is_allocation X_require m_require k_require b_require)
  have X_medians := fn_or (sp' := spRef K xC_BadValue RcM1) ((fn_up0 (CX := L2.CX l.prog w) (ok_medians F_medians T c_check_allocation c_check_alike)).mono (k := 6) (by decide)) (ok_mediansX F_medians T X_check_allocation m_check_allocation k_check_allocation b_check_allocation X_check_alike m_check_alike k_check_alike b_check_alike)
  have X_surplus := fn_or (sp' := spRef K xC_BadValue RcM1) ((fn_up0 (CX := L2.CX l.prog w) (ok_surplus F_surplus T c_medians)).mono (k := 7) (by decide)) (ok_surplusX F_surplus T X_medians m_medians k_medians b_medians)
  have X_excess := fn_or (sp' := spRef K xC_BadValue RcM1) ((fn_up0 (CX := L2.CX l.prog w) (ok_excess F_excess T c_surplus)).mono (k := 8) (by decide)) (ok_excessX F_excess T X_surplus m_surplus k_surplus b_surplus)
  have X_table_of_three := fn_or (sp' := spRef K xC_BadValue RcM1) ((fn_up0 (CX := L2.CX l.prog w) (ok_table_of_three F_table_of_three T c_medians c_surplus c_laid_out)).mono (k := 8) (by decide)) (ok_table_of_threeX F_table_of_three T c_medians c_laid_out X_surplus m_surplus k_surplus b_surplus)
  have X_all_different := fn_or (sp' := spRef K xC_BadValue RcM1) ((fn_up0 (CX := L2.CX l.prog w) (ok_all_different F_all_different T c_surplus)).mono (k := 8) (by decide)) (ok_all_differentX F_all_different T X_surplus m_surplus k_surplus b_surplus)
  have X_accepts_three := fn_or (sp' := spRef K xC_BadValue RcA4) ((fn_up0 (CX := L2.CX l.prog w) (ok_accepts_three F_accepts_three T c_medians c_is_table_of_three c_are_integers)).mono (k := 10) (by decide)) (ok_accepts_threeX F_accepts_three T c_is_table_of_three c_are_integers X_medians m_medians k_medians b_medians)
  have X_return_cost := fn_or (sp' := spRef K xC_BadValue RcM1) ((fn_up0 (CX := L2.CX l.prog w) (ok_return_cost F_return_cost T c_excess c_transfer)).mono (k := 9) (by decide)) (ok_return_costX F_return_cost T c_transfer X_excess m_excess k_excess b_excess)
  have X_returning_cores := fn_or (sp' := spRef K xC_BadValue RcM1) ((fn_up0 (CX := L2.CX l.prog w) (ok_returning_cores F_returning_cores T c_excess c_medians)).mono (k := 9) (by decide)) (ok_returning_coresX F_returning_cores T c_medians X_excess m_excess k_excess b_excess)
  have X_returned := fn_or (sp' := spRef K xC_BadValue RcR4) ((fn_up0 (CX := L2.CX l.prog w) (ok_returned F_returned T c_returning_cores c_require c_is_assignment_of c_laid_out c_buckets_of)).mono (k := 10) (by decide)) (ok_returnedX F_returned T c_is_assignment_of c_laid_out c_buckets_of X_returning_cores m_returning_cores k_returning_cores b_returning_cores X_require m_require k_require b_require)
  have X_accepts_return := fn_or (sp' := spRef K xC_BadValue RcA4) ((fn_up0 (CX := L2.CX l.prog w) (ok_accepts_return F_accepts_return T c_return_cost c_are_assignments_of c_churn c_is_least)).mono (k := 10) (by decide)) (ok_accepts_returnX F_accepts_return T c_are_assignments_of c_churn c_is_least X_return_cost m_return_cost k_return_cost b_return_cost)
  have X_lies_between := fn_or (sp' := spRef K xC_BadValue RcLB) ((fn_up0 (CX := L2.CX l.prog w) (ok_lies_between F_lies_between T c_check_allocation c_check_alike c_transfer)).mono (k := 6) (by decide)) (ok_lies_betweenX F_lies_between T c_transfer X_check_allocation m_check_allocation k_check_allocation b_check_allocation X_check_alike m_check_alike k_check_alike b_check_alike)
  have X_bridge := fn_or (sp' := spRef K xC_BadValue RcM1) ((fn_up0 (CX := L2.CX l.prog w) (ok_bridge F_bridge T c_medians c_surplus)).mono (k := 8) (by decide)) (ok_bridgeX F_bridge T c_medians X_surplus m_surplus k_surplus b_surplus)
  have c__law_told : Cal l.prog w K mg base CX0 11 "_law_told" p__law_told (sp__law_told34 K) := ⟨_, _, (fn_down0 (fun vs H Q E h => h) (ok__law_toldX F__law_told T (E_BadValue base) X_excess m_excess k_excess b_excess X_table_of_three m_table_of_three k_table_of_three b_table_of_three X_all_different m_all_different k_all_different b_all_different X_accepts_three m_accepts_three k_accepts_three b_accepts_three X_return_cost m_return_cost k_return_cost b_return_cost X_accepts_return m_accepts_return k_accepts_return b_accepts_return X_bridge m_bridge k_bridge b_bridge X_returned m_returned k_returned b_returned X_lies_between m_lies_between k_lies_between b_lies_between)).mono (by decide), m__law_told, k__law_told, b__law_told⟩
  exact ok_law F_law T c__law_stream c__law_sizes c__law_three c__law_wrong c__law_equal c__law_next c__law_of c__law_told
theorem walk {l : PySem.W.OpenLaw} {q : Program} {loose : List Str} {XP : (Str → Option Value) → Heap → Prop} {YP : World → Heap → Prop} {d : DefRec} {K : Params → PySem.W.Frag} (hn : l.most = some 63) (hdf : d.params.defaults = [])
    (hY : ∀ (w : World) (h : Heap), YP w h → (K w.params).In h)
    (F : ∀ (w : World) (mg : Str → Option Value) (fa : Addr) (h : Heap), (K w.params).In h → h.Ns mainGlobals mg → mg d.name = some (.ref fa) →
      ∃ fd : FuncData, (∀ (s : Shared) (u : Value), BindsTo s fd ⟨[u], []⟩ [("script", u)]) ∧ ∀ base : Heap, (K w.params).In base → base.Ns mainGlobals mg → FnOk l.prog w (K w.params) mg base CX0 12 fa fd ["script"] (spLaw (K w.params))) :
    PySem.W.WalkO q loose XP YP l.row.toRowW d [] (fun f vs => PySem.call f vs) :=
  L2.walk_of (n := 63) (k := 12) (x := "script") (CX := fun _ => CX0) (sp := fun w => spLaw (K w.params)) hn (by decide) hdf ⟨rfl, by decide, by decide⟩ hY F (fun _ _ a ns hl _ hS => ⟨a, ns, rfl, hS, hl, fun _ => rfl⟩) fun _ _ _ _ _ z => z
end W
open PySem PySem.W PyProof.Rows
set_option maxRecDepth 100000 in
set_option maxHeartbeats 0 in
theorem PySem.Challenge.cw_leastmoved_k34_refusals_of_triples_holds : PySem.Challenge.rw_leastmoved_k34_refusals_of_triples.Holds := by
  w_on; o_law; k_head; (case hw => w_witness2)
  k_fill
  refine W.walk (l := PySem.Challenge.rw_leastmoved_k34_refusals_of_triples) rfl rfl (fun w h Y => PySem.W.kIn_of Y) ?F
  case F =>
    intro w mg fa h KX G hmg
    refine' W.all_mk KX G hmg ?a_is_integer ?l_is_integer ?o_is_integer ?k_is_integer ?a_are_integers ?l_are_integers ?o_are_integers ?k_are_integers ?a_require ?l_require ?o_require ?k_require ?a_is_allocation ?l_is_allocation ?o_is_allocation ?k_is_allocation ?a_is_bounded_allocation ?l_is_bounded_allocation ?o_is_bounded_allocation ?k_is_bounded_allocation ?a_check_allocation ?l_check_allocation ?o_check_allocation ?k_check_allocation ?a_check_alike ?l_check_alike ?o_check_alike ?k_check_alike ?a_transfer ?l_transfer ?o_transfer ?k_transfer ?a_medians ?l_medians ?o_medians ?k_medians ?a_is_assignment ?l_is_assignment ?o_is_assignment ?k_is_assignment ?a_is_bounded_assignment ?l_is_bounded_assignment ?o_is_bounded_assignment ?k_is_bounded_assignment ?a_check_assignment ?l_check_assignment ?o_check_assignment ?k_check_assignment ?a_check_pair ?l_check_pair ?o_check_pair ?k_check_pair ?a_check_enough ?l_check_enough ?o_check_enough ?k_check_enough ?a_allocation_of ?l_allocation_of ?o_allocation_of ?k_allocation_of ?a_is_assignment_of ?l_is_assignment_of ?o_is_assignment_of ?k_is_assignment_of ?a_are_assignments_of ?l_are_assignments_of ?o_are_assignments_of ?k_are_assignments_of ?a_churn ?l_churn ?o_churn ?k_churn ?a_moves ?l_moves ?o_moves ?k_moves ?a_buckets_of ?l_buckets_of ?o_buckets_of ?k_buckets_of ?a_surplus ?l_surplus ?o_surplus ?k_surplus ?a_excess ?l_excess ?o_excess ?k_excess ?a_laid_out ?l_laid_out ?o_laid_out ?k_laid_out ?a_table_of_three ?l_table_of_three ?o_table_of_three ?k_table_of_three ?a_all_different ?l_all_different ?o_all_different ?k_all_different ?a_is_least ?l_is_least ?o_is_least ?k_is_least ?a_is_table_of_three ?l_is_table_of_three ?o_is_table_of_three ?k_is_table_of_three ?a_accepts_three ?l_accepts_three ?o_accepts_three ?k_accepts_three ?a_return_cost ?l_return_cost ?o_return_cost ?k_return_cost ?a_returning_cores ?l_returning_cores ?o_returning_cores ?k_returning_cores ?a_returned ?l_returned ?o_returned ?k_returned ?a_accepts_return ?l_accepts_return ?o_accepts_return ?k_accepts_return ?a_lies_between ?l_lies_between ?o_lies_between ?k_lies_between ?a_bridge ?l_bridge ?o_bridge ?k_bridge ?a__law_stream ?l__law_stream ?o__law_stream ?k__law_stream ?a__law_next ?l__law_next ?o__law_next ?k__law_next ?a__law_is_integer ?l__law_is_integer ?o__law_is_integer ?k__law_is_integer ?a__law_equal ?l__law_equal ?o__law_equal ?k__law_equal ?a__law_sizes ?l__law_sizes ?o__law_sizes ?k__law_sizes ?a__law_count ?l__law_count ?o__law_count ?k__law_count ?a__law_drawn ?l__law_drawn ?o__law_drawn ?k__law_drawn ?a__law_allocation ?l__law_allocation ?o__law_allocation ?k__law_allocation ?a__law_three ?l__law_three ?o__law_three ?k__law_three ?a__law_all ?l__law_all ?o__law_all ?k__law_all ?a__law_of ?l__law_of ?o__law_of ?k__law_of ?a__law_told ?l__law_told ?o__law_told ?k__law_told ?a__law_wrong ?l__law_wrong ?o__law_wrong ?k__law_wrong ?a_law ?l_law ?o_law ?k_law ?z_abs ?z_all ?z_bool ?z_enumerate ?z_int ?z_isinstance ?z_len ?z_list ?z_max ?z_min ?z_range ?z_sorted ?z_str ?z_sum ?z_tuple ?z_zip ?g_MOST_VARIANTS ?g_MOST_BUCKETS ?xa_BadValue ?xi_BadValue ?xl_BadValue ?xo_BadValue ?xd_BadValue ?xv_BadValue ?xf_BadValue ?xc_BadValue ?xk_BadValue ?xr_BadValue ?xs_BadValue ?xb_BadValue ?xt_BadValue ?xp_BadValue ?xw_BadValue ?xz_BadValue ?xu_BadValue ?xy_BadValue ?xg_BadValue ?xh_BadValue ?xD_BadValue ?xn_BadValue ?xe_BadValue ?xx_BadValue ?xj_BadValue ?xm_BadValue
    (case a_is_integer => k_is); (case l_is_integer => k_is); (case o_is_integer => k_is); (case k_is_integer => k_is)
    (case a_are_integers => k_is); (case l_are_integers => k_is); (case o_are_integers => k_is); (case k_are_integers => k_is)
    (case a_require => k_is); (case l_require => k_is); (case o_require => k_is); (case k_require => k_is)
    (case a_is_allocation => k_is); (case l_is_allocation => k_is); (case o_is_allocation => k_is); (case k_is_allocation => k_is)
    (case a_is_bounded_allocation => k_is); (case l_is_bounded_allocation => k_is); (case o_is_bounded_allocation => k_is); (case k_is_bounded_allocation => k_is)
    (case a_check_allocation => k_is); (case l_check_allocation => k_is); (case o_check_allocation => k_is); (case k_check_allocation => k_is)
    (case a_check_alike => k_is); (case l_check_alike => k_is); (case o_check_alike => k_is); (case k_check_alike => k_is)
    (case a_transfer => k_is); (case l_transfer => k_is); (case o_transfer => k_is); (case k_transfer => k_is)
    (case a_medians => k_is); (case l_medians => k_is); (case o_medians => k_is); (case k_medians => k_is)
    (case a_is_assignment => k_is); (case l_is_assignment => k_is); (case o_is_assignment => k_is); (case k_is_assignment => k_is)
    (case a_is_bounded_assignment => k_is); (case l_is_bounded_assignment => k_is); (case o_is_bounded_assignment => k_is); (case k_is_bounded_assignment => k_is)
    (case a_check_assignment => k_is); (case l_check_assignment => k_is); (case o_check_assignment => k_is); (case k_check_assignment => k_is)
    (case a_check_pair => k_is); (case l_check_pair => k_is); (case o_check_pair => k_is); (case k_check_pair => k_is)
    (case a_check_enough => k_is); (case l_check_enough => k_is); (case o_check_enough => k_is); (case k_check_enough => k_is)
    (case a_allocation_of => k_is); (case l_allocation_of => k_is); (case o_allocation_of => k_is); (case k_allocation_of => k_is)
    (case a_is_assignment_of => k_is); (case l_is_assignment_of => k_is); (case o_is_assignment_of => k_is); (case k_is_assignment_of => k_is)
    (case a_are_assignments_of => k_is); (case l_are_assignments_of => k_is); (case o_are_assignments_of => k_is); (case k_are_assignments_of => k_is)
    (case a_churn => k_is); (case l_churn => k_is); (case o_churn => k_is); (case k_churn => k_is)
    (case a_moves => k_is); (case l_moves => k_is); (case o_moves => k_is); (case k_moves => k_is)
    (case a_buckets_of => k_is); (case l_buckets_of => k_is); (case o_buckets_of => k_is); (case k_buckets_of => k_is)
    (case a_surplus => k_is); (case l_surplus => k_is); (case o_surplus => k_is); (case k_surplus => k_is)
    (case a_excess => k_is); (case l_excess => k_is); (case o_excess => k_is); (case k_excess => k_is)
    (case a_laid_out => k_is); (case l_laid_out => k_is); (case o_laid_out => k_is); (case k_laid_out => k_is)
    (case a_table_of_three => k_is); (case l_table_of_three => k_is); (case o_table_of_three => k_is); (case k_table_of_three => k_is)
    (case a_all_different => k_is); (case l_all_different => k_is); (case o_all_different => k_is); (case k_all_different => k_is)
    (case a_is_least => k_is); (case l_is_least => k_is); (case o_is_least => k_is); (case k_is_least => k_is)
    (case a_is_table_of_three => k_is); (case l_is_table_of_three => k_is); (case o_is_table_of_three => k_is); (case k_is_table_of_three => k_is)
    (case a_accepts_three => k_is); (case l_accepts_three => k_is); (case o_accepts_three => k_is); (case k_accepts_three => k_is)
    (case a_return_cost => k_is); (case l_return_cost => k_is); (case o_return_cost => k_is); (case k_return_cost => k_is)
    (case a_returning_cores => k_is); (case l_returning_cores => k_is); (case o_returning_cores => k_is); (case k_returning_cores => k_is)
    (case a_returned => k_is); (case l_returned => k_is); (case o_returned => k_is); (case k_returned => k_is)
    (case a_accepts_return => k_is); (case l_accepts_return => k_is); (case o_accepts_return => k_is); (case k_accepts_return => k_is)
    (case a_lies_between => k_is); (case l_lies_between => k_is); (case o_lies_between => k_is); (case k_lies_between => k_is)
    (case a_bridge => k_is); (case l_bridge => k_is); (case o_bridge => k_is); (case k_bridge => k_is)
    (case a__law_stream => k_is); (case l__law_stream => k_is); (case o__law_stream => k_is); (case k__law_stream => k_is)
    (case a__law_next => k_is); (case l__law_next => k_is); (case o__law_next => k_is); (case k__law_next => k_is)
    (case a__law_is_integer => k_is); (case l__law_is_integer => k_is); (case o__law_is_integer => k_is); (case k__law_is_integer => k_is)
    (case a__law_equal => k_is); (case l__law_equal => k_is); (case o__law_equal => k_is); (case k__law_equal => k_is)
    (case a__law_sizes => k_is); (case l__law_sizes => k_is); (case o__law_sizes => k_is); (case k__law_sizes => k_is)
    (case a__law_count => k_is); (case l__law_count => k_is); (case o__law_count => k_is); (case k__law_count => k_is)
    (case a__law_drawn => k_is); (case l__law_drawn => k_is); (case o__law_drawn => k_is); (case k__law_drawn => k_is)
    (case a__law_allocation => k_is); (case l__law_allocation => k_is); (case o__law_allocation => k_is); (case k__law_allocation => k_is)
    (case a__law_three => k_is); (case l__law_three => k_is); (case o__law_three => k_is); (case k__law_three => k_is)
    (case a__law_all => k_is); (case l__law_all => k_is); (case o__law_all => k_is); (case k__law_all => k_is)
    (case a__law_of => k_is); (case l__law_of => k_is); (case o__law_of => k_is); (case k__law_of => k_is)
    (case a__law_told => k_is); (case l__law_told => k_is); (case o__law_told => k_is); (case k__law_told => k_is)
    (case a__law_wrong => k_is); (case l__law_wrong => k_is); (case o__law_wrong => k_is); (case k__law_wrong => k_is)
    (case a_law => k_is); (case l_law => k_is); (case o_law => k_is); (case k_law => k_is)
    (case z_abs => k_is)
    (case z_all => k_is)
    (case z_bool => k_is)
    (case z_enumerate => k_is)
    (case z_int => k_is)
    (case z_isinstance => k_is)
    (case z_len => k_is)
    (case z_list => k_is)
    (case z_max => k_is)
    (case z_min => k_is)
    (case z_range => k_is)
    (case z_sorted => k_is)
    (case z_str => k_is)
    (case z_sum => k_is)
    (case z_tuple => k_is)
    (case z_zip => k_is)
    (case g_MOST_VARIANTS => k_is)
    (case g_MOST_BUCKETS => k_is)
    (case xa_BadValue => k_is)
    (case xi_BadValue => k_is)
    (case xl_BadValue => k_is)
    (case xo_BadValue => k_is)
    (case xd_BadValue => k_is)
    (case xv_BadValue => exact rfl)
    (case xf_BadValue => first | rfl | decide +kernel)
    (case xc_BadValue => k_is)
    (case xk_BadValue => k_is)
    (case xr_BadValue => first | rfl | decide +kernel)
    (case xs_BadValue => k_is)
    (case xb_BadValue => k_is)
    (case xt_BadValue => k_is)
    (case xp_BadValue => k_is)
    (case xw_BadValue => k_is)
    (case xz_BadValue => k_is)
    (case xu_BadValue => ks_is)
    (case xy_BadValue => k_is)
    (case xg_BadValue => k_is)
    (case xh_BadValue => k_is)
    (case xD_BadValue => k_is)
    (case xn_BadValue => k_is)
    (case xe_BadValue => k_is)
    (case xx_BadValue => k_is)
    (case xj_BadValue => k_is)
    (case xm_BadValue => first | rfl | decide +kernel)
