import PyProof.Rows.All
import Wide.All
import OpenK.AllK
import Wide.FinOn
import HandS.ForMost
import HandS.TupAny
import HandS.Zip
import HandS.IsInst
import HandS.Walk
import HandS.SortInts
import HandS.Strs
import HandS.SetFor
import HandS.Evl
import HandS.Conv
import PyProof.Draws
import KE.GoesEnum
import KE.KItemsList
import HandS.Gcd
import KE.KMathGC
import HandS.Deep
import HandS.Wide
import HandS.TupLe
import PyProof.ListNew
import HandS.GenList
import HandS.Sort
import HandS.ExcInit
import HandS.WordsExc
import HandS.FStr
import KE.KExcSuper
import KE.KSuper
import HandS.ExcOwn
import HandS.ExcField
import HandS.TupMul
import HandS.Style
import PyProof.CallType
import PyProof.P3In
import PyProof.Rows.SeqMore
import KE.SortData
import KE.SortLaws
import KE.SortKeyHeap
import HandS.SortKw
import HandS.WordsDict
import HandS.ExcIs
import KE.KExcIs
import HandS.WideBits
import HandS.Flow
import HandS.DictTup
import KE.KDictWalk
import PySem.Challenge.RW_leastmoved_k74_refusals_of_thresholds
set_option Elab.async false
set_option linter.all false
set_option maxRecDepth 100000
set_option maxHeartbeats 4000000
namespace Lm
open PySem PySem.Spec PyProof.Rows L2

/-- what is around: the written part, and (perhaps) the stream with the script's copy -/
structure Ct where
  K : PySem.W.Frag
  so : Option (Addr × Addr)
def okA (c : Ct) (a : Addr) : Prop := ∀ st l, c.so = some (st, l) → a ≠ st
/-- the stream at st: a copy of the script at l, a cell, a place -/
def Str1 (K : PySem.W.Frag) (st l : Addr) (H : Hp) : Prop :=
  ∃ (ns : List Int) (x k : Int), H st = some (.lst [.ref l, .int x, .int k]) ∧ H l = some (.lst (ns.map V.int)) ∧ l ≠ st ∧ 0 ≤ k
def Ji (c : Ct) (H : Hp) : Prop := ∀ st l, c.so = some (st, l) → Str1 c.K st l H
def Rr (c : Ct) (H H' : Hp) : Prop := (∀ a o, okA c a → H a = some o → H' a = some o) ∧ (Ji c H → Ji c H')
variable {c : Ct} {H H' H0 H1 H2 H3 : Hp}
theorem Rr.rf : Rr c H H := ⟨fun _ _ _ h => h, fun h => h⟩
theorem Rr.tr (a : Rr c H H1) (b : Rr c H1 H2) : Rr c H H2 := ⟨fun x o k h => b.1 x o k (a.1 x o k h), fun h => b.2 (a.2 h)⟩
theorem Ji.same (j : Ji c H) (e : Same H H') : Ji c H' := fun st l h => by
  obtain ⟨ns, x, k, h1, h2, h3, h4⟩ := j st l h
  exact ⟨ns, x, k, e _ _ h1, e _ _ h2, h3, h4⟩
theorem Rr.same (e : Same H H') : Rr c H H' := ⟨fun x o _ h => e x o h, fun j => j.same e⟩
theorem okA.fresh (j : Ji c H) {p : Addr} (h : H p = none) : okA c p := fun st l e z => by
  obtain ⟨ns, x, k, h1, _⟩ := j st l e
  rw [z, h1] at h
  cases h
theorem okA.tup (j : Ji c H) {p : Addr} {o : HO} (h : H p = some o) (n : ∀ xs, o ≠ .lst xs) : okA c p := fun st l e z => by
  obtain ⟨ns, x, k, h1, _⟩ := j st l e
  rw [z, h1] at h
  exact n _ (Option.some.inj h).symm
theorem Rr.back (r : Rr c H H') (j : Ji c H) {p : Addr} (h : H' p = none) : H p = none := by
  cases q : H p with
  | none => rfl
  | some o =>
    have k : okA c p := fun st l e z => by
      obtain ⟨ns, x, k, h1, _⟩ := r.2 j st l e
      rw [z, h1] at h
      cases h
    rw [r.1 p o k q] at h
    cases h
/-- a tuple (one that has no dict of its own) -/
def TpN (K : PySem.W.Frag) (H : Hp) (a : Addr) (xs : List V) : Prop :=
  (∃ o : Obj, o.dict = none ∧ H a = some (.frz o (.tup xs))) ∨
    ∃ (o : Obj) (its : Array Value) (n : Nat), K.lookup a = some o ∧ o.cls = .type "tuple" ∧ o.dict = none ∧ o.data = .seq its n ∧ its.size ≤ sizeLine ∧ Vals xs its.toList
theorem TpN.sq {K : PySem.W.Frag} {a : Addr} {xs : List V} (h : TpN K H a xs) : SqT K H a xs := by
  rcases h with ⟨o, _, h⟩ | ⟨o, its, n, h1, h2, _, h3, h4, h5⟩
  · exact .inl (.inr ⟨o, h⟩)
  · exact .inr ⟨o, its, n, h1, h2, h3, h4, h5⟩
theorem Rr.tup (r : Rr c H H') (j : Ji c H) {a : Addr} {xs : List V} (h : TpN c.K H a xs) : TpN c.K H' a xs := by
  rcases h with ⟨o, q, h⟩ | h
  · exact .inl ⟨o, q, r.1 _ _ (okA.tup j h (fun _ => by simp)) h⟩
  · exact .inr h
theorem Rr.lst (r : Rr c H H') {a : Addr} {xs : List V} (k : okA c a) (h : SqL c.K H a xs) : SqL c.K H' a xs := by
  rcases h with (h | ⟨o, h⟩) | h
  · exact .inl (.inl (r.1 _ _ k h))
  · exact .inl (.inr ⟨o, r.1 _ _ k h⟩)
  · exact .inr h

/-! ### values as data: ints, texts, tuples; lists whose addresses are not the stream's -/
mutual
inductive Bo (c : Ct) (H : Hp) : V → PyData → Prop
  | non : Bo c H .non .none
  | bl (b : Bool) : Bo c H (.bl b) (.bool b)
  | int (i : Int) : Bo c H (.int i) (.int i)
  | str (x : Str) : Bo c H (.str x) (.str x)
  | lst {a : Addr} {xs : List V} {ds : List PyData} : okA c a → SqL c.K H a xs → BoAll c H xs ds → Bo c H (.ref a) (.list ds)
  | tup {a : Addr} {xs : List V} {ds : List PyData} : TpN c.K H a xs → BoAll c H xs ds → Bo c H (.ref a) (.tuple ds)
inductive BoAll (c : Ct) (H : Hp) : List V → List PyData → Prop
  | nil : BoAll c H [] []
  | cons {v : V} {vs : List V} {d : PyData} {ds : List PyData} : Bo c H v d → BoAll c H vs ds → BoAll c H (v :: vs) (d :: ds)
end
mutual
theorem Bo.up (h : ∀ a xs, TpN c.K H a xs → TpN c.K H' a xs) (g : ∀ a xs, okA c a → SqL c.K H a xs → SqL c.K H' a xs) : ∀ {v : V} {d : PyData}, Bo c H v d → Bo c H' v d
  | _, _, .non => .non
  | _, _, .bl b => .bl b
  | _, _, .int b => .int b
  | _, _, .str b => .str b
  | _, _, .lst k s a => .lst k (g _ _ k s) (BoAll.up h g a)
  | _, _, .tup s a => .tup (h _ _ s) (BoAll.up h g a)
theorem BoAll.up (h : ∀ a xs, TpN c.K H a xs → TpN c.K H' a xs) (g : ∀ a xs, okA c a → SqL c.K H a xs → SqL c.K H' a xs) : ∀ {v : List V} {d : List PyData}, BoAll c H v d → BoAll c H' v d
  | _, _, .nil => .nil
  | _, _, .cons a b => .cons (Bo.up h g a) (BoAll.up h g b)
end
theorem Bo.mono (j : Ji c H) (r : Rr c H H') {v : V} {d : PyData} (h : Bo c H v d) : Bo c H' v d := h.up (fun _ _ s => r.tup j s) (fun _ _ k s => r.lst k s)
theorem BoAll.mono (j : Ji c H) (r : Rr c H H') {v : List V} {d : List PyData} (h : BoAll c H v d) : BoAll c H' v d := h.up (fun _ _ s => r.tup j s) (fun _ _ k s => r.lst k s)
theorem sqT_same {K : PySem.W.Frag} (e : Same H H') {a : Addr} {xs : List V} (h : TpN K H a xs) : TpN K H' a xs := by
  rcases h with ⟨o, q, h⟩ | h
  · exact .inl ⟨o, q, e _ _ h⟩
  · exact .inr h
theorem Bo.same (e : Same H H') {v : V} {d : PyData} (h : Bo c H v d) : Bo c H' v d := h.up (fun _ _ s => sqT_same e s) (fun _ _ k s => e.seq s)
theorem BoAll.same (e : Same H H') {v : List V} {d : List PyData} (h : BoAll c H v d) : BoAll c H' v d := h.up (fun _ _ s => sqT_same e s) (fun _ _ k s => e.seq s)
theorem BoAll.len : ∀ {v : List V} {d : List PyData}, BoAll c H v d → v.length = d.length
  | _, _, .nil => rfl
  | _, _, .cons _ b => by simp [BoAll.len b]
theorem BoAll.get : ∀ {v : List V} {d : List PyData} {i : Nat} {x : V}, BoAll c H v d → v[i]? = some x → ∃ e, d[i]? = some e ∧ Bo c H x e
  | _, _, _, _, .nil, h => by simp at h
  | _, _, 0, x, .cons a b, h => by
    have e : _ = x := Option.some.inj h
    subst e
    exact ⟨_, rfl, a⟩
  | _, _, i + 1, x, .cons a b, h => BoAll.get (i := i) b (by simpa using h)
theorem BoAll.gets : ∀ {v : List V} {d : List PyData} {i : Nat} {e : PyData}, BoAll c H v d → d[i]? = some e → ∃ x, v[i]? = some x ∧ Bo c H x e
  | _, _, _, _, .nil, h => by simp at h
  | _, _, 0, x, .cons a b, h => by
    have e : _ = x := Option.some.inj h
    subst e
    exact ⟨_, rfl, a⟩
  | _, _, i + 1, x, .cons a b, h => BoAll.gets (i := i) b (by simpa using h)
theorem BoAll.app : ∀ {v w : List V} {d e : List PyData}, BoAll c H v d → BoAll c H w e → BoAll c H (v ++ w) (d ++ e)
  | _, _, _, _, .nil, b => b
  | _, _, _, _, .cons a r, b => .cons a (BoAll.app r b)
theorem BoAll.set : ∀ {v : List V} {d : List PyData} {i : Nat} {x : V} {e : PyData}, BoAll c H v d → Bo c H x e → BoAll c H (v.set i x) (d.set i e)
  | _, _, _, _, _, .nil, b => .nil
  | _, _, 0, _, _, .cons a r, b => .cons b r
  | _, _, i + 1, _, _, .cons a r, b => .cons a (BoAll.set r b)
theorem BoAll.take : ∀ {v : List V} {d : List PyData} (i : Nat), BoAll c H v d → BoAll c H (v.take i) (d.take i)
  | _, _, 0, _ => .nil
  | _, _, i + 1, .nil => .nil
  | _, _, i + 1, .cons a b => .cons a (BoAll.take i b)
theorem BoAll.drop : ∀ {v : List V} {d : List PyData} (i : Nat), BoAll c H v d → BoAll c H (v.drop i) (d.drop i)
  | _, _, 0, h => h
  | _, _, i + 1, .nil => .nil
  | _, _, i + 1, .cons a b => BoAll.drop i b
theorem Bo.int' {v : V} {i : Int} (h : Bo c H v (.int i)) : v = .int i := by cases h; rfl
theorem Bo.bl' {v : V} {i : Bool} (h : Bo c H v (.bool i)) : v = .bl i := by cases h; rfl
theorem Bo.str' {v : V} {i : Str} (h : Bo c H v (.str i)) : v = .str i := by cases h; rfl
theorem Bo.tup' {v : V} {ds : List PyData} (h : Bo c H v (.tuple ds)) : ∃ a xs, v = .ref a ∧ TpN c.K H a xs ∧ BoAll c H xs ds := by cases h with | tup s a => exact ⟨_, _, rfl, s, a⟩
theorem Bo.lst' {v : V} {ds : List PyData} (h : Bo c H v (.list ds)) : ∃ a xs, v = .ref a ∧ okA c a ∧ SqL c.K H a xs ∧ BoAll c H xs ds := by cases h with | lst k s a => exact ⟨_, _, rfl, k, s, a⟩
theorem BoAll.ints : ∀ {v : List V} {ns : List Int}, BoAll c H v (ns.map PyData.int) → v = ns.map V.int
  | v, [], h => by cases h; rfl
  | v, n :: ns, h => by
    cases h with
    | cons a b => rw [a.int', BoAll.ints b]; rfl
theorem BoAll.ofInts : ∀ (ns : List Int), BoAll c H (ns.map V.int) (ns.map PyData.int)
  | [] => .nil
  | n :: ns => .cons (.int n) (BoAll.ofInts ns)
theorem BoAll.bools : ∀ {v : List V} {ns : List Bool}, BoAll c H v (ns.map PyData.bool) → v = ns.map V.bl
  | v, [], h => by cases h; rfl
  | v, n :: ns, h => by
    cases h with
    | cons a b => rw [a.bl', BoAll.bools b]; rfl
mutual
theorem Bo.dp : ∀ {v : V} {d : PyData}, Bo c H v d → Dp c.K H v d
  | _, _, .non => .non
  | _, _, .bl b => .bl b
  | _, _, .int b => .int b
  | _, _, .str b => .str b
  | _, _, .lst _ s a => .lst s (BoAll.dp a)
  | _, _, .tup s a => .tup s.sq (BoAll.dp a)
theorem BoAll.dp : ∀ {v : List V} {d : List PyData}, BoAll c H v d → DpAll c.K H v d
  | _, _, .nil => .nil
  | _, _, .cons a b => .cons (Bo.dp a) (BoAll.dp b)
end
/-! no stream, no care -/
mutual
theorem Bo.pure : ∀ {v : V} {d : PyData}, Bo c H v d → Bo ⟨c.K, none⟩ H v d
  | _, _, .non => .non
  | _, _, .bl b => .bl b
  | _, _, .int b => .int b
  | _, _, .str b => .str b
  | _, _, .lst _ s a => .lst (fun _ _ e => nomatch e) s (BoAll.pure a)
  | _, _, .tup s a => .tup s (BoAll.pure a)
theorem BoAll.pure : ∀ {v : List V} {d : List PyData}, BoAll c H v d → BoAll ⟨c.K, none⟩ H v d
  | _, _, .nil => .nil
  | _, _, .cons a b => .cons (Bo.pure a) (BoAll.pure b)
end
/-! data without lists -/
mutual
def flatD : PyData → Bool
  | .none => true
  | .bool _ => true
  | .int _ => true
  | .str _ => true
  | .tuple ds => flatAll ds
  | _ => false
def flatAll : List PyData → Bool
  | [] => true
  | d :: ds => flatD d && flatAll ds
end
theorem flatAll_ints (ns : List Int) : flatAll (ns.map PyData.int) = true := by
  induction ns with
  | nil => rfl
  | cons n ns ih =>
    show (flatD (.int n) && flatAll (ns.map PyData.int)) = true
    rw [ih]
    rfl
theorem flatAll_mem {ds : List PyData} (h : ∀ d ∈ ds, flatD d = true) : flatAll ds = true := by
  induction ds with
  | nil => rfl
  | cons d ds ih =>
    show (flatD d && flatAll ds) = true
    rw [h d (by simp), ih fun e he => h e (by simp [he])]
    rfl
mutual
theorem Bo.flat {c' : Ct} (hk : c'.K = c.K) : ∀ {v : V} {d : PyData}, flatD d = true → Bo c H v d → Bo c' H v d
  | _, _, _, .non => .non
  | _, _, _, .bl b => .bl b
  | _, _, _, .int b => .int b
  | _, _, _, .str b => .str b
  | _, _, q, .lst _ s a => by simp [flatD] at q
  | _, _, q, .tup s a => .tup (by rw [hk]; exact s) (BoAll.flat hk (by simpa [flatD] using q) a)
theorem BoAll.flat {c' : Ct} (hk : c'.K = c.K) : ∀ {v : List V} {d : List PyData}, flatAll d = true → BoAll c H v d → BoAll c' H v d
  | _, _, _, .nil => .nil
  | _, _, q, .cons a b => by
    have q' : (flatD _ && flatAll _) = true := q
    rw [Bool.and_eq_true] at q'
    exact .cons (Bo.flat hk q'.1 a) (BoAll.flat hk q'.2 b)
end

/-! ### the heap without some addresses -/
def mns (H : Hp) (O : List Addr) : Hp := fun a => if a ∈ O then none else H a
theorem mns_in {O : List Addr} {a : Addr} (h : a ∈ O) : mns H O a = none := if_pos h
theorem mns_out {O : List Addr} {a : Addr} (h : a ∉ O) : mns H O a = H a := if_neg h
theorem mns_same {O : List Addr} : Same (mns H O) H := fun a o h => by
  by_cases q : a ∈ O
  · rw [mns_in q] at h; cases h
  · rw [mns_out q] at h; exact h
theorem mns_some {O : List Addr} {a : Addr} {o : HO} (h : mns H O a = some o) : a ∉ O ∧ H a = some o := by
  by_cases q : a ∈ O
  · rw [mns_in q] at h; cases h
  · rw [mns_out q] at h; exact ⟨q, h⟩
theorem mns_sub {O O' : List Addr} (s : ∀ a, a ∈ O' → a ∈ O) : Same (mns H O) (mns H O') := fun a o h => by
  obtain ⟨q, h⟩ := mns_some h
  rw [mns_out (fun z => q (s a z))]
  exact h
theorem mns_nil : mns H [] = H := by
  funext a
  exact mns_out (by simp)
theorem Rr.mns {O : List Addr} (r : Rr c H H') (j : Ji c (mns H O)) (q : ∀ a ∈ O, okA c a) : Rr c (mns H O) (mns H' O) := by
  refine ⟨fun a o k h => ?_, fun _ st l e => ?_⟩
  · obtain ⟨n, h⟩ := mns_some h
    rw [mns_out n]
    exact r.1 a o k h
  · obtain ⟨ns, x, k, h1, h2, h3, h4⟩ := j st l e
    obtain ⟨n1, h1⟩ := mns_some h1
    obtain ⟨n2, h2⟩ := mns_some h2
    have jH : Ji c H := j.same mns_same
    obtain ⟨ns', x', k', g1, g2, g3, g4⟩ := r.2 jH st l e
    refine ⟨ns', x', k', ?_, ?_, g3, g4⟩
    · rw [mns_out n1]; exact g1
    · rw [mns_out n2]; exact g2
end Lm


namespace Lm
open PySem PySem.Spec PyProof.Rows L2
variable {c : Ct} {H H' H0 H1 H2 H3 : Hp} {O : List Addr}

/-! flat data leans on tuples alone -/
mutual
theorem Bo.flatTo {c' : Ct} (h : ∀ a xs, TpN c.K H a xs → TpN c'.K H' a xs) : ∀ {v : V} {d : PyData}, flatD d = true → Bo c H v d → Bo c' H' v d
  | _, _, _, .non => .non
  | _, _, _, .bl b => .bl b
  | _, _, _, .int b => .int b
  | _, _, _, .str b => .str b
  | _, _, q, .lst _ s a => by simp [flatD] at q
  | _, _, q, .tup s a => .tup (h _ _ s) (BoAll.flatTo h (by simpa [flatD] using q) a)
theorem BoAll.flatTo {c' : Ct} (h : ∀ a xs, TpN c.K H a xs → TpN c'.K H' a xs) : ∀ {v : List V} {d : List PyData}, flatAll d = true → BoAll c H v d → BoAll c' H' v d
  | _, _, _, .nil => .nil
  | _, _, q, .cons a b => by
    have q' : (flatD _ && flatAll _) = true := q
    rw [Bool.and_eq_true] at q'
    exact .cons (Bo.flatTo h q'.1 a) (BoAll.flatTo h q'.2 b)
end
/-- what may be written -/
def OwnU : HO → Prop
  | .lst _ => True
  | .dK _ => True
  | .dT _ => True
  | .set _ _ => True
  | _ => False
theorem sqT_mns {K : PySem.W.Frag} (hO : ∀ a ∈ O, ∃ u, H a = some u ∧ OwnU u) {a : Addr} {xs : List V} (h : TpN K H a xs) : TpN K (mns H O) a xs := by
  have n : ∀ u, H a = some u → ¬ OwnU u → mns H O a = some u := fun u e k => by
    have : a ∉ O := fun z => by
      obtain ⟨y, q, w⟩ := hO a z
      rw [q] at e
      exact k (Option.some.inj e ▸ w)
    rw [mns_out this]; exact e
  rcases h with ⟨o, q, h⟩ | h
  · exact .inl ⟨o, q, n _ h fun w => w⟩
  · exact .inr h
theorem sqT_updO {K : PySem.W.Frag} {p : Addr} {y o : HO} (hp : H p = some y) (hy : OwnU y) {a : Addr} {xs : List V} (h : TpN K H a xs) : TpN K (upd H p o) a xs := by
  have n : ∀ u, H a = some u → ¬ OwnU u → upd H p o a = some u := fun u e k => by
    have : a ≠ p := fun z => by
      rw [z, hp] at e
      exact k (Option.some.inj e ▸ hy)
    rw [upd_ne this]; exact e
  rcases h with ⟨o, q, h⟩ | h
  · exact .inl ⟨o, q, n _ h fun w => w⟩
  · exact .inr h
theorem sqT_upd {K : PySem.W.Frag} {p : Addr} {zs : List V} {o : HO} (hp : H p = some (.lst zs)) {a : Addr} {xs : List V} (h : TpN K H a xs) : TpN K (upd H p o) a xs := by
  have n : ∀ u, H a = some u → (∀ ys, u ≠ .lst ys) → upd H p o a = some u := fun u e k => by
    have : a ≠ p := fun z => by
      rw [z, hp] at e
      exact k zs (Option.some.inj e).symm
    rw [upd_ne this]; exact e
  rcases h with ⟨o, q, h⟩ | h
  · exact .inl ⟨o, q, n _ h fun _ => by simp⟩
  · exact .inr h

/-! ### lists of one's own: the addresses that may be written -/
mutual
inductive Fo (c : Ct) (H : Hp) : V → PyData → List Addr → Prop
  | leaf {v : V} {d : PyData} : flatD d = true → Bo c H v d → Fo c H v d []
  | lst {a : Addr} {xs : List V} {ds : List PyData} {fp : List Addr} : H a = some (.lst xs) → FoAll c H xs ds fp → Fo c H (.ref a) (.list ds) (a :: fp)
inductive FoAll (c : Ct) (H : Hp) : List V → List PyData → List Addr → Prop
  | nil : FoAll c H [] [] []
  | cons {v : V} {vs : List V} {d : PyData} {ds : List PyData} {f fs : List Addr} : Fo c H v d f → FoAll c H vs ds fs → FoAll c H (v :: vs) (d :: ds) (f ++ fs)
end
mutual
theorem Fo.up (h : ∀ a xs, TpN c.K H a xs → TpN c.K H' a xs) : ∀ {v : V} {d : PyData} {fp : List Addr}, (∀ a ∈ fp, ∀ o, H a = some o → H' a = some o) → Fo c H v d fp → Fo c H' v d fp
  | _, _, _, _, .leaf q b => .leaf q (b.flatTo h q)
  | _, _, _, k, .lst e a => .lst (k _ (by simp) _ e) (FoAll.up h (fun b hb => k b (by simp [hb])) a)
theorem FoAll.up (h : ∀ a xs, TpN c.K H a xs → TpN c.K H' a xs) : ∀ {v : List V} {d : List PyData} {fp : List Addr}, (∀ a ∈ fp, ∀ o, H a = some o → H' a = some o) → FoAll c H v d fp → FoAll c H' v d fp
  | _, _, _, _, .nil => .nil
  | _, _, _, k, .cons a b => .cons (Fo.up h (fun x hx => k x (by simp [hx])) a) (FoAll.up h (fun x hx => k x (by simp [hx])) b)
end
mutual
theorem Fo.bo : ∀ {v : V} {d : PyData} {fp : List Addr}, (∀ a ∈ fp, okA c a) → Fo c H v d fp → Bo c H v d
  | _, _, _, _, .leaf _ b => b
  | _, _, _, k, .lst e a => .lst (k _ (by simp)) (.inl (.inl e)) (FoAll.bo (fun b hb => k b (by simp [hb])) a)
theorem FoAll.bo : ∀ {v : List V} {d : List PyData} {fp : List Addr}, (∀ a ∈ fp, okA c a) → FoAll c H v d fp → BoAll c H v d
  | _, _, _, _, .nil => .nil
  | _, _, _, k, .cons a b => .cons (Fo.bo (fun x hx => k x (by simp [hx])) a) (FoAll.bo (fun x hx => k x (by simp [hx])) b)
end
theorem FoAll.leaves : ∀ {v : List V} {d : List PyData}, flatAll d = true → BoAll c H v d → FoAll c H v d []
  | _, _, _, .nil => .nil
  | _, _, q, .cons a b => by
    have q' : (flatD _ && flatAll _) = true := q
    rw [Bool.and_eq_true] at q'
    exact .cons (f := []) (fs := []) (.leaf q'.1 a) (FoAll.leaves q'.2 b)
mutual
theorem Fo.isL : ∀ {v : V} {d : PyData} {fp : List Addr}, Fo c H v d fp → ∀ a ∈ fp, ∃ xs, H a = some (.lst xs)
  | _, _, _, .leaf _ _, a, h => by simp at h
  | _, _, _, .lst e f, a, h => by
    rcases List.mem_cons.mp h with q | q
    · rw [q]; exact ⟨_, e⟩
    · exact FoAll.isL f a q
theorem FoAll.isL : ∀ {v : List V} {d : List PyData} {fp : List Addr}, FoAll c H v d fp → ∀ a ∈ fp, ∃ xs, H a = some (.lst xs)
  | _, _, _, .nil, a, h => by simp at h
  | _, _, _, .cons e f, a, h => by
    rcases List.mem_append.mp h with q | q
    · exact Fo.isL e a q
    · exact FoAll.isL f a q
end
theorem FoAll.app : ∀ {v w : List V} {d e : List PyData} {f g : List Addr}, FoAll c H v d f → FoAll c H w e g → FoAll c H (v ++ w) (d ++ e) (f ++ g)
  | _, _, _, _, _, _, .nil, b => b
  | _, _, _, _, _, _, .cons a r, b => by
    rw [List.append_assoc]
    exact .cons a (FoAll.app r b)
/-- a flat list of one's own -/
theorem Fo.list' {v : V} {ds : List PyData} {fp : List Addr} (h : Fo c H v (.list ds) fp) : ∃ a xs f, v = .ref a ∧ fp = a :: f ∧ H a = some (.lst xs) ∧ FoAll c H xs ds f := by
  cases h with
  | leaf q _ => simp [flatD] at q
  | lst e a => exact ⟨_, _, _, rfl, rfl, e, a⟩
theorem FoAll.flat0 : ∀ {v : List V} {d : List PyData} {f : List Addr}, flatAll d = true → FoAll c H v d f → f = [] ∧ BoAll c H v d
  | _, _, _, _, .nil => ⟨rfl, .nil⟩
  | _, _, _, q, .cons a b => by
    have q' : (flatD _ && flatAll _) = true := q
    rw [Bool.and_eq_true] at q'
    obtain ⟨e1, b1⟩ := FoAll.flat0 q'.2 b
    cases a with
    | leaf _ x => exact ⟨by rw [e1]; rfl, .cons x b1⟩
    | lst _ _ => simp [flatD] at q'

/-! ### what the slots hold -/
inductive Rs where
  /-- a value that will not change -/
  | v (d : PyData)
  /-- a list of one's own -/
  | o (d : PyData)
  /-- this very value -/
  | r (x : V)
  /-- a dict or set of one's own -/
  | d (u : HO)
  /-- a list of one's own whose items stay -/
  | w (ds : List PyData)
def RepO (c : Ct) (O : List Addr) (H : Hp) (x : Option V) : Option Rs → List Addr → Prop
  | none, fp => fp = []
  | some (.v d), fp => fp = [] ∧ ∃ v, x = some v ∧ Bo c (mns H O) v d
  | some (.o d), fp => ∃ v, x = some v ∧ Fo c H v d fp
  | some (.r y), fp => fp = [] ∧ x = some y
  | some (.d u), fp => ∃ a, fp = [a] ∧ x = some (.ref a) ∧ H a = some u ∧ OwnU u
  | some (.w ds), fp => ∃ a xs, fp = [a] ∧ x = some (.ref a) ∧ H a = some (.lst xs) ∧ BoAll c (mns H O) xs ds
inductive Reps (c : Ct) (O : List Addr) (H : Hp) : L2.St → List (Option Rs) → List Addr → Prop
  | nil : Reps c O H [] [] []
  | cons {x : Option V} {s : Option Rs} {f fs : List Addr} {σ : L2.St} {Γ : List (Option Rs)} : RepO c O H x s f → Reps c O H σ Γ fs → Reps c O H (x :: σ) (s :: Γ) (f ++ fs)
theorem Reps.len {σ : L2.St} {Γ : List (Option Rs)} {fp : List Addr} (h : Reps c O H σ Γ fp) : σ.length = Γ.length := by
  induction h with
  | nil => rfl
  | cons _ _ ih => simp [ih]
theorem Reps.map {O' : List Addr} {σ : L2.St} {Γ : List (Option Rs)} {fp : List Addr} (h : Reps c O H σ Γ fp) (k : ∀ x s f, (∀ a ∈ f, a ∈ fp) → RepO c O H x s f → RepO c O' H' x s f) : Reps c O' H' σ Γ fp := by
  induction h with
  | nil => exact .nil
  | cons a b ih => exact .cons (k _ _ _ (fun x hx => by simp [hx]) a) (ih fun x s f q => k x s f fun y hy => by simp [q y hy])
/-- the i-th slot, and how it is changed -/
theorem Reps.nth {σ : L2.St} {Γ : List (Option Rs)} {fp : List Addr} (h : Reps c O H σ Γ fp) : ∀ {i : Nat} {s : Option Rs}, Γ[i]? = some s →
    ∃ x f pre post, σ[i]? = some x ∧ RepO c O H x s f ∧ fp = pre ++ (f ++ post) ∧
      ∀ (O' : List Addr) (H' : Hp) (x' : Option V) (s' : Option Rs) (f' : List Addr), (∀ y t g, (∀ a ∈ g, a ∈ pre ++ post) → RepO c O H y t g → RepO c O' H' y t g) → RepO c O' H' x' s' f' → Reps c O' H' (σ.set i x') (Γ.set i s') (pre ++ (f' ++ post)) := by
  induction h with
  | nil => intro i s e; simp at e
  | cons a b ih =>
    rename_i x0 s0 f0 fs0 σ0 Γ0
    intro i s e
    cases i with
    | zero =>
      have e' : s0 = s := by simpa using e
      subst e'
      refine ⟨x0, f0, [], fs0, rfl, a, rfl, fun O' H' x' s' f' k r => ?_⟩
      show Reps c O' H' (x' :: σ0) (s' :: Γ0) (f' ++ fs0)
      exact .cons r (b.map fun y t g q z => k y t g (fun u hu => by simpa using q u hu) z)
    | succ i =>
      obtain ⟨x, f, pre, post, h1, h2, h3, h4⟩ := ih (i := i) (by simpa using e)
      refine ⟨x, f, f0 ++ pre, post, by simpa using h1, h2, by rw [h3]; simp, fun O' H' x' s' f' k r => ?_⟩
      have := h4 O' H' x' s' f' (fun y t g q z => k y t g (fun u hu => by have := q u hu; simp at this ⊢; rcases this with w | w <;> simp [w]) z) r
      rw [List.append_assoc]
      exact .cons (k _ _ _ (fun u hu => by simp [hu]) a) this

/-- the entry's heap H0, the addresses of one's own O, the heap H, the slots σ and what they hold -/
structure Env (c : Ct) (H0 : Hp) (O : List Addr) (H : Hp) (σ : L2.St) (Γ : List (Option Rs)) : Prop where
  r0 : Rr c H0 (mns H O)
  j : Ji c (mns H O)
  fr : ∀ a ∈ O, H0 a = none
  dm : ∀ a ∈ O, ∃ u, H a = some u ∧ OwnU u
  rep : ∃ fp, Reps c O H σ Γ fp ∧ fp.Nodup ∧ ∀ a ∈ fp, a ∈ O
variable {σ : L2.St} {Γ : List (Option Rs)}
theorem Env.jH (e : Env c H0 O H σ Γ) : Ji c H := e.j.same mns_same
theorem Env.okO (e : Env c H0 O H σ Γ) : ∀ a ∈ O, okA c a := fun a ha st l q z => by
  obtain ⟨ns, x, k, h1, _⟩ := e.j st l q
  rw [← z, mns_in ha] at h1
  cases h1
theorem Env.rH (e : Env c H0 O H σ Γ) : Rr c H0 H := e.r0.tr (Rr.same mns_same)
theorem Env.len (e : Env c H0 O H σ Γ) : σ.length = Γ.length := let ⟨_, h, _⟩ := e.rep; h.len
/-- the heap goes on -/
theorem Env.on (e : Env c H0 O H σ Γ) (r : Rr c H H') : Env c H0 O H' σ Γ := by
  have rm := r.mns e.j e.okO
  refine ⟨e.r0.tr rm, rm.2 e.j, e.fr, fun a ha => ?_, ?_⟩
  · obtain ⟨u, q, w⟩ := e.dm a ha
    exact ⟨u, r.1 a _ (e.okO a ha) q, w⟩
  · obtain ⟨fp, h, nd, sub⟩ := e.rep
    refine ⟨fp, h.map fun x s f q z => ?_, nd, sub⟩
    cases s with
    | none => exact z
    | some s =>
      cases s with
      | v d => exact ⟨z.1, z.2.elim fun v hv => ⟨v, hv.1, hv.2.mono e.j rm⟩⟩
      | o d => exact z.elim fun v hv => ⟨v, hv.1, hv.2.up (fun _ _ s => r.tup e.jH s) fun a ha o ho => r.1 a o (e.okO a (sub a (q a ha))) ho⟩
      | r y => exact z
      | d u => exact z.elim fun a ⟨w1, w2, w3, w4⟩ => ⟨a, w1, w2, r.1 a _ (e.okO a (sub a (q a (by rw [w1]; simp)))) w3, w4⟩
      | w ds => exact z.elim fun a ⟨xs, w1, w2, w3, w4⟩ => ⟨a, xs, w1, w2, r.1 a _ (e.okO a (sub a (q a (by rw [w1]; simp)))) w3, w4.mono e.j rm⟩
theorem Env.slotV (e : Env c H0 O H σ Γ) {i : Nat} {d : PyData} (h : Γ[i]? = some (some (.v d))) : ∃ v, σ[i]? = some (some v) ∧ Bo c (mns H O) v d := by
  obtain ⟨fp, hr, nd, sub⟩ := e.rep
  obtain ⟨x, f, pre, post, h1, h2, h3, h4⟩ := hr.nth h
  obtain ⟨v, hv, b⟩ := h2.2
  subst hv
  exact ⟨v, h1, b⟩
theorem Env.slotO (e : Env c H0 O H σ Γ) {i : Nat} {d : PyData} (h : Γ[i]? = some (some (.o d))) : ∃ v fp, σ[i]? = some (some v) ∧ Fo c H v d fp ∧ fp.Nodup ∧ ∀ a ∈ fp, a ∈ O := by
  obtain ⟨fp, hr, nd, sub⟩ := e.rep
  obtain ⟨x, f, pre, post, h1, h2, h3, h4⟩ := hr.nth h
  obtain ⟨v, hv, b⟩ := h2
  subst hv
  subst h3
  have n2 := (List.nodup_append.mp nd).2.1
  exact ⟨v, f, h1, b, (List.nodup_append.mp n2).1, fun a ha => sub a (by simp [ha])⟩
theorem Env.slotR (e : Env c H0 O H σ Γ) {i : Nat} {y : V} (h : Γ[i]? = some (some (.r y))) : σ[i]? = some (some y) := by
  obtain ⟨fp, hr, nd, sub⟩ := e.rep
  obtain ⟨x, f, pre, post, h1, h2, h3, h4⟩ := hr.nth h
  have hy : x = some y := h2.2
  rw [h1, hy]
/-- any slot is given another value that does not change -/
theorem Env.setV (e : Env c H0 O H σ Γ) {i : Nat} {v : V} {d : PyData} (b : Bo c (mns H O) v d) : Env c H0 O H (σ.set i (some v)) (Γ.set i (some (.v d))) := by
  refine ⟨e.r0, e.j, e.fr, e.dm, ?_⟩
  obtain ⟨fp, hr, nd, sub⟩ := e.rep
  by_cases hi : i < Γ.length
  · obtain ⟨x, f, pre, post, h1, h2, h3, h4⟩ := hr.nth (s := Γ[i]) (List.getElem?_eq_getElem hi)
    subst h3
    refine ⟨pre ++ ([] ++ post), h4 O H _ _ [] (fun _ _ _ _ z => z) ⟨rfl, v, rfl, b⟩, ?_, fun a ha => sub a ?_⟩
    · refine nd.sublist ?_
      simp
    · simp at ha ⊢
      rcases ha with q | q <;> simp [q]
  · have hs : ¬ i < σ.length := by rw [hr.len]; exact hi
    rw [List.set_eq_of_length_le (by omega), List.set_eq_of_length_le (by omega)]
    exact ⟨fp, hr, nd, sub⟩
/-- a slot is forgotten, whatever it holds then -/
theorem Env.setN (e : Env c H0 O H σ Γ) {i : Nat} {x : Option V} : Env c H0 O H (σ.set i x) (Γ.set i none) := by
  refine ⟨e.r0, e.j, e.fr, e.dm, ?_⟩
  obtain ⟨fp, hr, nd, sub⟩ := e.rep
  by_cases hi : i < Γ.length
  · obtain ⟨y, f, pre, post, h1, h2, h3, h4⟩ := hr.nth (s := Γ[i]) (List.getElem?_eq_getElem hi)
    subst h3
    refine ⟨pre ++ ([] ++ post), h4 O H _ _ [] (fun _ _ _ _ z => z) rfl, ?_, fun a ha => sub a ?_⟩
    · refine nd.sublist ?_
      simp
    · simp at ha ⊢
      rcases ha with q | q <;> simp [q]
  · have hs : ¬ i < σ.length := by rw [hr.len]; exact hi
    rw [List.set_eq_of_length_le (by omega), List.set_eq_of_length_le (by omega)]
    exact ⟨fp, hr, nd, sub⟩
/-- a slot is given a new list -/
theorem Env.setO (e : Env c H0 O H σ Γ) (r : Rr c H H') {i : Nat} {v : V} {d : PyData} {f : List Addr} (b : Fo c H' v d f) (nd' : f.Nodup) (new : ∀ a ∈ f, H a = none) :
    Env c H0 (f ++ O) H' (σ.set i (some v)) (Γ.set i (some (.o d))) := by
  have e' := e.on r
  have hdis : ∀ a ∈ f, a ∉ O := fun a ha hO => by
    obtain ⟨xs, q, _⟩ := e.dm a hO
    rw [new a ha] at q
    cases q
  have hn : ∀ a ∈ f, mns H O a = none := fun a ha => by
    rw [mns_out (hdis a ha)]; exact new a ha
  have same : Same (mns H O) (mns H' (f ++ O)) → True := fun _ => trivial
  have hrm : Rr c (mns H O) (mns H' (f ++ O)) := by
    have rm := r.mns e.j e.okO
    refine ⟨fun a o k h => ?_, fun _ st l q => ?_⟩
    · have h' := rm.1 a o k h
      obtain ⟨n1, h'⟩ := mns_some h'
      have : a ∉ f := fun z => by rw [hn a z] at h; cases h
      rw [mns_out (by simp [this, n1])]
      exact h'
    · obtain ⟨ns, x, k, h1, h2, h3, h4⟩ := e.j st l q
      obtain ⟨ns', x', k', g1, g2, g3, g4⟩ := e'.j st l q
      obtain ⟨m1, g1⟩ := mns_some g1
      obtain ⟨m2, g2⟩ := mns_some g2
      have a1 : st ∉ f := fun z => by rw [hn _ z] at h1; cases h1
      have a2 : l ∉ f := fun z => by rw [hn _ z] at h2; cases h2
      exact ⟨ns', x', k', by rw [mns_out (by simp [a1, m1])]; exact g1, by rw [mns_out (by simp [a2, m2])]; exact g2, g3, g4⟩
  have jn : Ji c (mns H' (f ++ O)) := hrm.2 e.j
  refine ⟨e.r0.tr hrm, jn, fun a ha => ?_, fun a ha => ?_, ?_⟩
  · rcases List.mem_append.mp ha with q | q
    · have := e.r0
      cases h : H0 a with
      | none => rfl
      | some o =>
        have jH0 : okA c a := fun st l q' z => by
          obtain ⟨ns, x, k, h1, _⟩ := e.j st l q'
          rw [← z, hn a q] at h1
          cases h1
        have := e.r0.1 a o jH0 h
        rw [hn a q] at this
        cases this
    · exact e.fr a q
  · rcases List.mem_append.mp ha with q | q
    · exact (b.isL a q).elim fun xs h => ⟨_, h, trivial⟩
    · exact e'.dm a q
  · obtain ⟨fp, hr, nd, sub⟩ := e.rep
    have keep : ∀ y t g, (∀ a ∈ g, a ∈ O) → RepO c O H y t g → RepO c (f ++ O) H' y t g := fun y t g hg z => by
      cases t with
      | none => exact z
      | some t =>
        cases t with
        | v d => exact ⟨z.1, z.2.elim fun v hv => ⟨v, hv.1, hv.2.mono e.j hrm⟩⟩
        | o d => exact z.elim fun v hv => ⟨v, hv.1, hv.2.up (fun _ _ s => r.tup e.jH s) fun a ha o ho => r.1 a o (e.okO a (hg a ha)) ho⟩
        | r y => exact z
        | d u => exact z.elim fun a ⟨w1, w2, w3, w4⟩ => ⟨a, w1, w2, r.1 a _ (e.okO a (hg a (by rw [w1]; simp))) w3, w4⟩
        | w ds => exact z.elim fun a ⟨xs, w1, w2, w3, w4⟩ => ⟨a, xs, w1, w2, r.1 a _ (e.okO a (hg a (by rw [w1]; simp))) w3, w4.mono e.j hrm⟩
    by_cases hi : i < Γ.length
    · obtain ⟨x, g, pre, post, h1, h2, h3, h4⟩ := hr.nth (s := Γ[i]) (List.getElem?_eq_getElem hi)
      subst h3
      refine ⟨pre ++ (f ++ post), h4 _ _ _ _ f (fun y t g' q z => keep y t g' (fun a ha => sub a (by have := q a ha; simp at this ⊢; rcases this with w | w <;> simp [w])) z) ⟨v, rfl, b⟩, ?_, fun a ha => ?_⟩
      · have n0 : (pre ++ post).Nodup := nd.sublist (by simp)
        rw [List.nodup_append] at n0 ⊢
        refine ⟨n0.1, ?_, ?_⟩
        · rw [List.nodup_append]
          refine ⟨nd', n0.2.1, fun a ha b' hb q => ?_⟩
          subst q
          exact hdis a ha (sub a (by simp [hb]))
        · intro a ha b' hb q
          subst q
          rcases List.mem_append.mp hb with w | w
          · exact hdis a w (sub a (by simp [ha]))
          · exact n0.2.2 a ha a w rfl
      · simp only [List.mem_append] at ha ⊢
        rcases ha with q | q | q
        · exact .inr (sub a (by simp [q]))
        · exact .inl q
        · exact .inr (sub a (by simp [q]))
    · have hs : ¬ i < σ.length := by rw [hr.len]; exact hi
      rw [List.set_eq_of_length_le (by omega), List.set_eq_of_length_le (by omega)]
      exact ⟨fp, hr.map fun x s g q z => keep x s g (fun a ha => sub a (q a ha)) z, nd, fun a ha => by simp [sub a ha]⟩
/-- a list of one's own is written: the slot's list at p -/
theorem Env.write (e : Env c H0 O H σ Γ) {i : Nat} {ds es : List PyData} (h : Γ[i]? = some (some (.o (.list ds)))) :
    ∃ p xs f, σ[i]? = some (some (.ref p)) ∧ H p = some (.lst xs) ∧ FoAll c H xs ds f ∧ p ∉ f ∧ (∀ a ∈ f, a ∈ O) ∧
      ∀ ys : List V, FoAll c (upd H p (.lst ys)) ys es f → Env c H0 O (upd H p (.lst ys)) σ (Γ.set i (some (.o (.list es)))) := by
  obtain ⟨fp, hr, nd, sub⟩ := e.rep
  obtain ⟨x, f0, pre, post, h1, h2, h3, h4⟩ := hr.nth h
  obtain ⟨v, hv, b⟩ := h2
  subst hv
  obtain ⟨p, xs, f, rfl, rfl, hp, hfa⟩ := b.list'
  subst h3
  have hpO : p ∈ O := sub p (by simp)
  have n2 := (List.nodup_append.mp nd).2.1
  have hpf : p ∉ f := fun z => by
    have := (List.nodup_append.mp n2).1
    exact (List.nodup_cons.mp this).1 z
  refine ⟨p, xs, f, h1, hp, hfa, hpf, fun a ha => sub a (by simp [ha]), fun ys hy => ?_⟩
  have em : mns (upd H p (.lst ys)) O = mns H O := by
    funext a
    by_cases ha : a ∈ O
    · rw [mns_in ha, mns_in ha]
    · rw [mns_out ha, mns_out ha, upd_ne (fun z => ha (by rw [z]; exact hpO))]
  refine ⟨by rw [em]; exact e.r0, by rw [em]; exact e.j, e.fr, fun a ha => ?_, ?_⟩
  · by_cases q : a = p
    · rw [q]; exact ⟨_, upd_same, trivial⟩
    · rw [upd_ne q]; exact e.dm a ha
  · have hσ : σ.set i (some (.ref p)) = σ := by
      obtain ⟨hlt, e1⟩ := List.getElem?_eq_some_iff.mp h1
      rw [← e1]
      exact List.set_getElem_self hlt
    have := h4 O (upd H p (.lst ys)) (some (.ref p)) (some (.o (.list es))) (p :: f) (fun y t g q z => ?_) ⟨.ref p, rfl, .lst upd_same hy⟩
    · rw [hσ] at this
      exact ⟨_, this, nd, sub⟩
    · cases t with
      | none => exact z
      | some t =>
        cases t with
        | v d => exact ⟨z.1, z.2.elim fun v hv => ⟨v, hv.1, by rw [em]; exact hv.2⟩⟩
        | o d =>
          refine z.elim fun v hv => ⟨v, hv.1, hv.2.up (fun _ _ s => sqT_upd hp s) fun a ha o ho => ?_⟩
          have : a ≠ p := fun w => by
            subst w
            have hm := q a ha
            rcases List.mem_append.mp hm with u | u
            · exact (List.nodup_append.mp nd).2.2 a u a (by simp) rfl
            · exact (List.nodup_append.mp n2).2.2 a (by simp) a u rfl
          rw [upd_ne this]
          exact ho
        | r y => exact z
        | d u =>
          refine z.elim fun a ⟨w1, w2, w3, w4⟩ => ⟨a, w1, w2, ?_, w4⟩
          have : a ≠ p := fun w => by
            subst w
            have hm := q a (by rw [w1]; simp)
            rcases List.mem_append.mp hm with u | u
            · exact (List.nodup_append.mp nd).2.2 a u a (by simp) rfl
            · exact (List.nodup_append.mp n2).2.2 a (by simp) a u rfl
          rw [upd_ne this]
          exact w3
        | w ds =>
          refine z.elim fun a ⟨xs, w1, w2, w3, w4⟩ => ⟨a, xs, w1, w2, ?_, by rw [em]; exact w4⟩
          have : a ≠ p := fun w => by
            subst w
            have hm := q a (by rw [w1]; simp)
            rcases List.mem_append.mp hm with u | u
            · exact (List.nodup_append.mp nd).2.2 a u a (by simp) rfl
            · exact (List.nodup_append.mp n2).2.2 a (by simp) a u rfl
          rw [upd_ne this]
          exact w3
/-- from now on this list is not written -/
theorem Env.freeze (e : Env c H0 O H σ Γ) {i : Nat} {d : PyData} (h : Γ[i]? = some (some (.o d))) : ∃ O', Env c H0 O' H σ (Γ.set i (some (.v d))) ∧ Same (mns H O) (mns H O') := by
  obtain ⟨fp, hr, nd, sub⟩ := e.rep
  obtain ⟨x, f, pre, post, h1, h2, h3, h4⟩ := hr.nth h
  obtain ⟨v, hv, b⟩ := h2
  subst hv
  subst h3
  have n2 := (List.nodup_append.mp nd).2.1
  have dis : ∀ a ∈ pre ++ post, a ∉ f := fun a ha hf => by
    rcases List.mem_append.mp ha with u | u
    · exact (List.nodup_append.mp nd).2.2 a u a (by simp [hf]) rfl
    · exact (List.nodup_append.mp n2).2.2 a hf a u rfl
  have hm : ∀ a, a ∈ O.filter (fun a => !decide (a ∈ f)) ↔ a ∈ O ∧ a ∉ f := fun a => by simp [List.mem_filter]
  have sm : Same (mns H O) (mns H (O.filter fun a => !decide (a ∈ f))) := mns_sub fun a ha => ((hm a).mp ha).1
  refine ⟨O.filter fun a => !decide (a ∈ f), ⟨e.r0.tr (Rr.same sm), e.j.same sm, fun a ha => e.fr a ((hm a).mp ha).1, fun a ha => e.dm a ((hm a).mp ha).1, ?_⟩, sm⟩
  have hσ : σ.set i (some v) = σ := by
    obtain ⟨hlt, e1⟩ := List.getElem?_eq_some_iff.mp h1
    rw [← e1]
    exact List.set_getElem_self hlt
  have hb : Bo c (mns H (O.filter fun a => !decide (a ∈ f))) v d := by
    refine Fo.bo (fun a ha => e.okO a (sub a (by simp [ha]))) (b.up (fun a xs s => sqT_mns (fun b' hb' => e.dm b' ((hm b').mp hb').1) s) fun a ha o ho => ?_)
    rw [mns_out fun z => ((hm a).mp z).2 ha]
    exact ho
  have := h4 (O.filter fun a => !decide (a ∈ f)) H (some v) (some (.v d)) [] (fun y t g q z => ?_) ⟨rfl, v, rfl, hb⟩
  · rw [hσ] at this
    exact ⟨_, this, nd.sublist (by simp), fun a ha => (hm a).mpr ⟨sub a (by simp at ha ⊢; rcases ha with w | w <;> simp [w]), dis a (by simpa using ha)⟩⟩
  · cases t with
    | none => exact z
    | some t =>
      cases t with
      | v d => exact ⟨z.1, z.2.elim fun v hv => ⟨v, hv.1, hv.2.same sm⟩⟩
      | o d => exact z
      | r y => exact z
      | d u => exact z
      | w ds => exact z.elim fun a ⟨xs, w1, w2, w3, w4⟩ => ⟨a, xs, w1, w2, w3, w4.same sm⟩
/-- a later entry is as good as an earlier one -/
theorem Env.base (e : Env c H0 O H σ Γ) : Env c (mns H O) O H σ Γ := ⟨Rr.rf, e.j, fun a ha => mns_in ha, e.dm, e.rep⟩
theorem Env.fromB {O1 : List Addr} {σ1 : L2.St} {Γ1 : List (Option Rs)} (e : Env c H0 O H σ Γ) (e1 : Env c (mns H O) O1 H1 σ1 Γ1) : Env c H0 O1 H1 σ1 Γ1 :=
  ⟨e.r0.tr e1.r0, e1.j, (fun a ha => by
    have h1 := e1.fr a ha
    cases h : H0 a with
    | none => rfl
    | some o =>
      have k : okA c a := fun st l q z => by
        obtain ⟨ns, x, k, g1, _⟩ := e.j st l q
        rw [← z, h1] at g1
        cases g1
      have := e.r0.1 a o k h
      rw [h1] at this
      cases this), e1.dm, e1.rep⟩
end Lm


namespace Lm
open PySem PySem.Spec PyProof.Rows L2
section
variable {X : Cx} {H : Hp}
def NewT (H : Hp) (xs : List V) (Q : VK) : Prop := ∀ p o, o.dict = none → H p = none → Q (.ref p) (upd H p (.frz o (.tup xs)))
theorem newT {pins : List (Addr × Obj)} {σ : L2.St} {s : Shared} {xs : List V} {us : List Value} {Q : VK} (I : Inv X pins σ H s) (r : Vals xs us) (z : xs.length ≤ sizeLine) (q : NewT H xs Q) :
    EP X pins σ Q (.ref s.heap.objs.size) { s with heap := s.heap.push { cls := .type "tuple", data := .seq us.toArray } } := by
  refine ⟨.ref s.heap.objs.size, upd H s.heap.objs.size (.frz { cls := .type "tuple", data := .seq us.toArray } (.tup xs)), I.laid (t' := s.toks) (fun b u e => Heap.get?_push_of_some _ e) (Nat.le_refl _) ?_, rfl, q _ _ rfl (I.hok.fresh (Nat.le_refl _))⟩
  exact ⟨Heap.get?_push_size _ rfl, z, us, r, ⟨_, Heap.get?_push_size _ rfl, rfl, _, rfl⟩⟩
def tTupN (t : TA) : TE := fun σ H Q => t σ H fun xs H1 => xs.length ≤ sizeLine ∧ NewT H1 xs Q
theorem pe_tupN {es : List Expr} {t : TA} {pos : Pos} {x1} (h : PA X es t) : PE X (.Tuple es x1 pos) (tTupN t) := by
  refine ⟨fun pins s σ H Q I hq => ?_⟩
  refine wpAny_Tuple_spliced (thn (h.run pos pins s σ H _ I hq) fun us s1 ⟨xs, H1, I1, r, z, q⟩ => ⟨by rw [← r.length]; exact z, ?_⟩)
  exact newT I1 r z q
/-- tuple(list), tuple(tuple) -/
def rTuple (K : PySem.W.Frag) : List V → Hp → VK → Prop := fun xs H Q => ∃ p ys, xs = [.ref p] ∧ ((SqL K H p ys ∧ NewT H ys Q) ∨ (SqT K H p ys ∧ Q (.ref p) H))
theorem cr_tuple : CallR X (.type "tuple") (rTuple X.K) := by
  intro pins s σ H xs us Q I r h
  obtain ⟨p, ys, rfl, h⟩ := h
  obtain ⟨u, rfl, rx⟩ := vals1 r
  cases rx
  rcases h with ⟨hq, q⟩ | ⟨hq, q⟩
  · obtain ⟨its, r', pl, hz⟩ := I.list hq
    have hlen := r'.length
    refine call_tuple_list pl.isList (fun h' kp => ?_) (by simp only [List.size_toArray] <;> omega)
    have I1 : Inv X pins σ H { s with heap := h' } := I.kept (t' := s.toks) kp
    exact newT I1 r' hz q
  · obtain ⟨its, r', pl, hz⟩ := I.tuple hq
    exact call_tuple_same pl ⟨.ref p, H, I, rfl, q⟩
/-- t + u -/
def rCatN (K : PySem.W.Frag) : R2 := fun x y H Q => ∃ a b xs ys, x = .ref a ∧ y = .ref b ∧ SqT K H a xs ∧ SqT K H b ys ∧ xs.length + ys.length ≤ sizeLine ∧
  (xs = [] → Q (.ref b) H) ∧ (xs ≠ [] → ys = [] → Q (.ref a) H) ∧ (xs ≠ [] → ys ≠ [] → NewT H (xs ++ ys) Q)
theorem op_catN : OpR X (binaryOp .Add) (rCatN X.K) := by
  intro pins s σ H x y v u Q I rx ry h
  obtain ⟨a, b, xs, ys, rfl, rfl, ha, hb, hz, q0, q1, q2⟩ := h
  cases rx
  cases ry
  obtain ⟨its, r1, p1, _⟩ := I.tuple ha
  obtain ⟨its2, r2, p2, _⟩ := I.tuple hb
  by_cases hx : xs = []
  · subst hx
    cases r1
    exact cat_tup0 p1 p2 ⟨.ref b, H, I, rfl, q0 rfl⟩
  · refine HT.cat_tup p1 p2 (fun z => hx (r1.nil_iff.mp z)) (fun z => ⟨.ref a, H, I, rfl, q1 hx (r2.nil_iff.mp z)⟩) (fun z => ?_) (by rw [← r1.length, ← r2.length]; exact hz)
    have := newT (Q := Q) I (r1.append r2) (by rw [List.length_append]; exact hz) (q2 hx (fun w => z (r2.nil_iff.mpr w)))
    exact this
/-- t[lo:hi] -/
def rSlN (K : PySem.W.Frag) : V → Option Int → Option Int → Hp → VK → Prop := fun x lo hi H Q => ∃ a xs, x = .ref a ∧ SqT K H a xs ∧
  (HT.sIx xs.length 0 lo = 0 ∧ HT.sIx xs.length xs.length hi = xs.length → Q (.ref a) H) ∧ (¬ (HT.sIx xs.length 0 lo = 0 ∧ HT.sIx xs.length xs.length hi = xs.length) → NewT H (cutV xs lo hi) Q)
theorem sl_tupN : SlR X (rSlN X.K) := by
  intro pins s σ H x v vl vu lo hi sl Q I rx hs pl pu h
  obtain ⟨a, xs, rfl, hx, q1, q2⟩ := h
  cases rx
  obtain ⟨its, r, ht, hz⟩ := I.tuple hx
  have hlen : its.toArray.size = xs.length := by rw [List.size_toArray]; exact r.length.symm
  refine ⟨"tuple", _, PyProof.Rows.slot_tuple_getitem.lookup, ht.typeIs, ?_⟩
  by_cases hw : HT.sIx xs.length 0 lo = 0 ∧ HT.sIx xs.length xs.length hi = xs.length
  · exact getItem_tuple_whole ht hs pl pu (by rw [hlen]; exact hw) ⟨.ref a, H, I, rfl, q1 hw⟩
  · refine HT.getItem_tuple_cut ht hs pl pu (by rw [hlen]; exact hw) ?_ (by rw [hlen]; exact hz)
    rw [hlen]
    have := newT (Q := Q) I ((r.drop (HT.sIx xs.length 0 lo)).take (HT.sIx xs.length xs.length hi - HT.sIx xs.length 0 lo)) (Nat.le_trans (cutV_length xs lo hi) hz) (q2 hw)
    exact this
end
end Lm
namespace Lm
open PySem PySem.Spec PyProof.Rows L2
section
variable {X : Cx}
end
end Lm


namespace Lm
open PySem PySem.Spec PyProof.Rows L2
variable {c : Ct} {H H' H0 H1 H2 H3 : Hp} {O : List Addr} {σ : L2.St} {Γ : List (Option Rs)}

/-- what an expression gives: a value that stays, a new list, something to be read at once -/
inductive Kd | v | o | b
def Res (c : Ct) (O : List Addr) (H H2 : Hp) (v : V) (d : PyData) : Kd → Prop
  | .v => Bo c (mns H2 O) v d
  | .o => ∃ fp, Fo c H2 v d fp ∧ fp.Nodup ∧ ∀ a ∈ fp, H a = none
  | .b => Bo c H2 v d
theorem Res.bo {v : V} {d : PyData} {k : Kd} (e : Env c H0 O H σ Γ) (h : Res c O H H2 v d k) : Bo c H2 v d := by
  cases k with
  | v => exact Bo.same mns_same h
  | o =>
    obtain ⟨fp, f, nd, new⟩ := h
    exact f.bo fun a ha => okA.fresh e.jH (new a ha)
  | b => exact h
theorem Res.on {v : V} {d : PyData} {k : Kd} (e : Env c H0 O H σ Γ) (r1 : Rr c H H2) (r : Rr c H2 H3) (h : Res c O H H2 v d k) : Res c O H H3 v d k := by
  have e2 := e.on r1
  cases k with
  | v => exact Bo.mono e2.j (r.mns e2.j e2.okO) h
  | o =>
    obtain ⟨fp, f, nd, new⟩ := h
    exact ⟨fp, f.up (fun _ _ s => r.tup e2.jH s) (fun a ha o q => r.1 a o (okA.fresh e.jH (new a ha)) q), nd, new⟩
  | b => exact Bo.mono e2.jH r h
/-- fresh behind is fresh before -/
theorem Res.back {v : V} {d : PyData} {k : Kd} (e : Env c H0 O H σ Γ) (r1 : Rr c H H2) (h : Res c O H2 H3 v d k) : Res c O H H3 v d k := by
  cases k with
  | v => exact h
  | o =>
    obtain ⟨fp, f, nd, new⟩ := h
    exact ⟨fp, f, nd, fun a ha => r1.back e.jH (new a ha)⟩
  | b => exact h
theorem Bo.flatM {v : V} {d : PyData} (e : Env c H0 O H σ Γ) (r : Rr c H H2) (q : flatD d = true) (h : Bo c H2 v d) : Bo c (mns H2 O) v d :=
  h.flatTo (fun a xs s => sqT_mns (fun b hb => (e.on r).dm b hb) s) q

def Ev (c : Ct) (te : TE) (Γ : List (Option Rs)) (k : Kd) (d : PyData) : Prop :=
  ∀ H0 O H σ, Env c H0 O H σ Γ → ∀ Q : VK, (∀ v H2, Rr c H H2 → Res c O H H2 v d k → Q v H2) → te σ H Q
/-- .. one of several -/
def EvN (c : Ct) (te : TE) (Γ : List (Option Rs)) (k : Kd) (P : PyData → Prop) : Prop :=
  ∀ H0 O H σ, Env c H0 O H σ Γ → ∀ Q : VK, (∀ v d H2, P d → Rr c H H2 → Res c O H H2 v d k → Q v H2) → te σ H Q
def EvT (c : Ct) (tt : TT) (Γ : List (Option Rs)) (b : Bool) : Prop :=
  ∀ H0 O H σ, Env c H0 O H σ Γ → ∀ Q : Bool → Hp → Prop, (∀ H2, Rr c H H2 → Q b H2) → tt σ H Q
/-- arguments, to be read; (kv) each a value that stays -/
def EvA (c : Ct) (ta : TA) (Γ : List (Option Rs)) (kv : Bool) (ds : List PyData) : Prop :=
  ∀ H0 O H σ, Env c H0 O H σ Γ → ∀ Q : List V → Hp → Prop, (∀ vs H2, Rr c H H2 → BoAll c (if kv then mns H2 O else H2) vs ds → Q vs H2) → ta σ H Q
section
variable {te ta tb tx : TE} {tt tu : TT} {tr : TA} {k ka kb : Kd} {d x y z : PyData} {i j : Int} {a b : Bool} {kv : Bool} {ds : List PyData}
theorem Ev.n (h : Ev c te Γ k d) : EvN c te Γ k (fun x => x = d) := fun H0 O H σ e Q q => h H0 O H σ e Q fun v H2 r s => q v d H2 rfl r s
theorem EvN.det (h : EvN c te Γ k (fun x => x = d)) : Ev c te Γ k d := fun H0 O H σ e Q q => h H0 O H σ e Q fun v d H2 p r s => by subst p; exact q v H2 r s
theorem EvN.imp {P P' : PyData → Prop} (h : EvN c te Γ k P) (i : ∀ d, P d → P' d) : EvN c te Γ k P' := fun H0 O H σ e Q q => h H0 O H σ e Q fun v d H2 p => q v d H2 (i d p)
theorem Ev.to (h : Ev c te Γ k x) (e : x = y) : Ev c te Γ k y := e ▸ h
theorem EvT.to (h : EvT c tt Γ a) (e : a = b) : EvT c tt Γ b := e ▸ h
/-- flat data stay -/
theorem Ev.fl (h : Ev c te Γ k d) (f : flatD d = true) : Ev c te Γ .v d := fun H0 O H σ e Q q => h H0 O H σ e Q fun v H2 r s => q v H2 r (Bo.flatM e r f (Res.bo e s))
theorem Ev.fo (h : Ev c te Γ k d) (f : flatD d = true) : Ev c te Γ .o d := fun H0 O H σ e Q q => h H0 O H σ e Q fun v H2 r s => q v H2 r ⟨[], .leaf f (Res.bo e s), List.nodup_nil, fun _ h => nomatch h⟩
theorem EvN.fo {P : PyData → Prop} (h : EvN c te Γ k P) (f : ∀ d, P d → flatD d = true) : EvN c te Γ .o P := fun H0 O H σ e Q q => h H0 O H σ e Q fun v d H2 p r s => q v d H2 p r ⟨[], .leaf (f d p) (Res.bo e s), List.nodup_nil, fun _ h => nomatch h⟩
theorem EvN.fl {P : PyData → Prop} (h : EvN c te Γ k P) (f : ∀ d, P d → flatD d = true) : EvN c te Γ .v P := fun H0 O H σ e Q q => h H0 O H σ e Q fun v d H2 p r s => q v d H2 p r (Bo.flatM e r (f d p) (Res.bo e s))

/-! ### leaves -/
theorem d_int : Ev c (tC (.int i)) Γ .v (.int i) := fun H0 O H σ e Q q => q _ H Rr.rf (.int i)
theorem d_bl : Ev c (tC (.bl a)) Γ .v (.bool a) := fun H0 O H σ e Q q => q _ H Rr.rf (.bl a)
theorem d_str {s : Str} : Ev c (tC (.str s)) Γ .v (.str s) := fun H0 O H σ e Q q => q _ H Rr.rf (.str s)
theorem d_non : Ev c (tC .non) Γ .v .none := fun H0 O H σ e Q q => q _ H Rr.rf .non
theorem d_var {n : Nat} (h : Γ[n]? = some (some (.v d))) : Ev c (tVar n) Γ .v d := fun H0 O H σ e Q q => by
  obtain ⟨v, hv, b⟩ := e.slotV h
  exact ⟨v, hv, q v H Rr.rf b⟩
theorem d_varO {n : Nat} (h : Γ[n]? = some (some (.o d))) : Ev c (tVar n) Γ .b d := fun H0 O H σ e Q q => by
  obtain ⟨v, fp, hv, f, nd, sub⟩ := e.slotO h
  exact ⟨v, hv, q v H Rr.rf (f.bo fun a ha => e.okO a (sub a ha))⟩
/-! ### two operands -/
theorem d_bin {r : R2} (ha : Ev c ta Γ ka x) (hb : Ev c tb Γ kb y)
    (hr : ∀ H O v u (Q : VK), Bo c H v x → Bo c H u y → (∀ v' H2, Rr c H H2 → Bo c (mns H2 O) v' z → Q v' H2) → r v u H Q) : Ev c (tOp r ta tb) Γ .v z := fun H0 O H σ e Q q =>
  ha H0 O H σ e _ fun v H1 r1 s1 => hb H0 O H1 σ (e.on r1) _ fun u H2 r2 s2 =>
    hr H2 O v u Q (Res.bo e (Res.on e r1 r2 s1)) (Res.bo (e.on r1) s2) fun v' H3 r3 b => q v' H3 ((r1.tr r2).tr r3) b
theorem d_I0 {g : Int → Int → V} {w : V} (ha : Ev c ta Γ ka (.int i)) (hb : Ev c tb Γ kb (.int j)) (hw : g i j = w) (hz : ∀ H, Bo c H w z) : Ev c (tOp (rI0 g) ta tb) Γ .v z :=
  d_bin ha hb fun H O v u Q bv bu q => ⟨i, j, bv.int', bu.int', q _ H Rr.rf (hw ▸ hz _)⟩
theorem d_sub (ha : Ev c ta Γ ka (.int i)) (hb : Ev c tb Γ kb (.int j)) : Ev c (tOp (rI0 fun i j => .int (i - j)) ta tb) Γ .v (.int (i - j)) := d_I0 ha hb rfl fun _ => .int _
theorem d_le (ha : Ev c ta Γ ka (.int i)) (hb : Ev c tb Γ kb (.int j)) : Ev c (tOp (rI0 fun i j => .bl (decide (i ≤ j))) ta tb) Γ .v (.bool (decide (i ≤ j))) := d_I0 ha hb rfl fun _ => .bl _
theorem d_gt (ha : Ev c ta Γ ka (.int i)) (hb : Ev c tb Γ kb (.int j)) : Ev c (tOp (rI0 fun i j => .bl (decide (j < i))) ta tb) Γ .v (.bool (decide (j < i))) := d_I0 ha hb rfl fun _ => .bl _
theorem decI {i j : Int} : decide (V.int i = V.int j) = decide (i = j) := by
  by_cases h : i = j
  · subst h; simp
  · rw [decide_eq_false h, decide_eq_false (fun e => h (V.int.inj e))]
/-- an item -/
theorem atI_bo {v : List V} (h : BoAll c H v ds) (e : atI ds i = some d) : ∃ x, atI v i = some x ∧ Bo c H x d := by
  unfold atI at e ⊢
  rw [h.len]
  cases q : ixN ds.length i with
  | none => rw [q] at e; cases e
  | some n =>
    rw [q] at e
    exact h.gets e
/-! ### truth -/
theorem d_andV (ha : Ev c ta Γ ka (.bool a)) (hb : a = true → Ev c tb Γ .v (.bool b)) : Ev c (tAndV ta tb) Γ .v (.bool (a && b)) := fun H0 O H σ e Q q =>
  ha H0 O H σ e _ fun v H1 r1 s1 => ⟨a, (Res.bo e s1).bl', by
    cases a with
    | true =>
      refine iteT (hb rfl H0 O H1 σ (e.on r1) _ fun u H2 r2 s2 => ?_)
      rw [(Res.bo (e.on r1) s2).bl']
      exact q _ H2 (r1.tr r2) (.bl _)
    | false => exact iteF (q _ H1 r1 (.bl _))⟩
theorem t_test (h : Ev c te Γ k (.bool a)) : EvT c (tTest te) Γ a := fun H0 O H σ e Q q => h H0 O H σ e _ fun v H2 r s => ⟨a, (Res.bo e s).bl', q H2 r⟩
theorem t_B (h : Ev c te Γ k (.bool a)) : EvT c (tB te) Γ a := fun H0 O H σ e Q q => h H0 O H σ e _ fun v H2 r s => ⟨a, (Res.bo e s).bl', q H2 r⟩
theorem t_not (h : EvT c tt Γ a) : EvT c (tNot tt) Γ (!a) := fun H0 O H σ e Q q => h H0 O H σ e _ fun H2 r => q H2 r
theorem t_and (h : EvT c tt Γ a) (g : a = true → EvT c tu Γ b) : EvT c (tAnd tt tu) Γ (a && b) := fun H0 O H σ e Q q => h H0 O H σ e _ fun H2 r => by
  cases a with
  | true => exact iteT (g rfl H0 O H2 σ (e.on r) _ fun H3 r3 => q H3 (r.tr r3))
  | false => exact iteF (q H2 r)
theorem t_or (h : EvT c tt Γ a) (g : a = false → EvT c tu Γ b) : EvT c (tOr tt tu) Γ (a || b) := fun H0 O H σ e Q q => h H0 O H σ e _ fun H2 r => by
  cases a with
  | false => exact iteF (g rfl H0 O H2 σ (e.on r) _ fun H3 r3 => q H3 (r.tr r3))
  | true => exact iteT (q H2 r)
theorem t_yes : EvT c tYes Γ true := fun H0 O H σ e Q q => q H Rr.rf
/-! ### arguments -/
theorem a_nil : EvA c tNil Γ kv [] := fun H0 O H σ e Q q => q [] H Rr.rf .nil
theorem a_cons (h : Ev c te Γ k d) (hr : EvA c tr Γ false ds) : EvA c (tCons te tr) Γ false (d :: ds) := fun H0 O H σ e Q q =>
  h H0 O H σ e _ fun v H1 r1 s1 => hr H0 O H1 σ (e.on r1) _ fun vs H2 r2 s2 => q _ H2 (r1.tr r2) (.cons (Res.bo e (s1.on e r1 r2)) s2)
theorem a_consV (h : Ev c te Γ .v d) (hr : EvA c tr Γ true ds) : EvA c (tCons te tr) Γ true (d :: ds) := fun H0 O H σ e Q q =>
  h H0 O H σ e _ fun v H1 r1 s1 => hr H0 O H1 σ (e.on r1) _ fun vs H2 r2 s2 => q _ H2 (r1.tr r2) (.cons (s1.on e r1 r2) s2)
end
end Lm


namespace Lm
open PySem PySem.Spec PyProof.Rows L2
variable {c : Ct} {H H' H0 H1 H2 H3 : Hp} {O : List Addr} {σ : L2.St} {Γ Γ' : List (Option Rs)}

/-! ### what is walked -/
/-- an item: data, or a tuple made for the target alone -/
inductive Im where
  | d (x : PyData)
  | t (xs : List Im)
mutual
inductive Lo (c : Ct) (F : Hp) (fz : Bool) (H : Hp) : V → Im → Prop
  | leaf {v : V} {d : PyData} : (flatD d = true ∧ Bo c H v d) ∨ (fz = true ∧ Bo c F v d) → Lo c F fz H v (.d d)
  | tup {a : Addr} {xs : List V} {ds : List Im} : SqT c.K H a xs → LoAll c F fz H xs ds → Lo c F fz H (.ref a) (.t ds)
inductive LoAll (c : Ct) (F : Hp) (fz : Bool) (H : Hp) : List V → List Im → Prop
  | nil : LoAll c F fz H [] []
  | cons {v : V} {vs : List V} {d : Im} {ds : List Im} : Lo c F fz H v d → LoAll c F fz H vs ds → LoAll c F fz H (v :: vs) (d :: ds)
end
theorem LoAll.ofFlat {F : Hp} {fz : Bool} : ∀ {v : List V} {d : List PyData}, flatAll d = true → BoAll c H v d → LoAll c F fz H v (d.map Im.d)
  | _, _, _, .nil => .nil
  | _, _, q, .cons a b => by
    have q' : (flatD _ && flatAll _) = true := q
    rw [Bool.and_eq_true] at q'
    exact .cons (.leaf (.inl ⟨q'.1, a⟩)) (LoAll.ofFlat q'.2 b)
theorem LoAll.ofFz {F : Hp} : ∀ {v : List V} {d : List PyData}, BoAll c F v d → LoAll c F true H v (d.map Im.d)
  | _, _, .nil => .nil
  | _, _, .cons a b => .cons (.leaf (.inr ⟨rfl, a⟩)) (LoAll.ofFz b)
theorem LoAll.len {F : Hp} {fz : Bool} : ∀ {v : List V} {d : List Im}, LoAll c F fz H v d → v.length = d.length
  | _, _, .nil => rfl
  | _, _, .cons _ b => by simp [LoAll.len b]
/-- a tuple's parts -/
theorem Lo.parts {F : Hp} {fz : Bool} {v : V} {ds : List PyData} (j : Ji c F) (r : Rr c F H) (h : Lo c F fz H v (.d (.tuple ds))) : ∃ a xs, v = .ref a ∧ SqT c.K H a xs ∧ LoAll c F fz H xs (ds.map Im.d) := by
  cases h with
  | leaf h =>
    rcases h with ⟨q, b⟩ | ⟨q, b⟩
    · obtain ⟨a, xs, rfl, s, al⟩ := b.tup'
      exact ⟨a, xs, rfl, s.sq, .ofFlat (by simpa [flatD] using q) al⟩
    · obtain ⟨a, xs, rfl, s, al⟩ := b.tup'
      subst q
      exact ⟨a, xs, rfl, (r.tup j s).sq, .ofFz al⟩
def WD (c : Ct) (F : Hp) (fz : Bool) (J : It) (ds : List Im) : Prop :=
  Ji c F ∧ Walk J ds.length (fun H => Rr c F H) (fun i H x H' => Same H H' ∧ ∃ d, ds[i]? = some d ∧ Lo c F fz H' x d)
def EvI (c : Ct) (wi : TI) (Γ : List (Option Rs)) (fz : Bool) (ds : List Im) : Prop :=
  ∀ H0 O H σ, Env c H0 O H σ Γ → ∀ R : It → Hp → Prop, (∀ J H1, Rr c H H1 → WD c (if fz then mns H1 O else H1) fz J ds → R J H1) → wi σ H R
/-- a target takes an item -/
def EvG (c : Ct) (g : TG) (d : Im) (Γ Γ' : List (Option Rs)) (js : List Nat) : Prop :=
  ∀ H0 O H σ F fz x, Env c H0 O H σ Γ → Ji c F → Rr c F H → (fz = true → Rr c F (mns H O)) → Lo c F fz H x d → ∀ Q : L2.St → Hp → Prop,
    (∀ σ', Env c H0 O H σ' Γ' → (∀ vs, (∀ j ∈ js, j ∈ vs) → wipe σ' vs = wipe σ vs) → Q σ' H) → g x σ H Q
def EvGs (c : Ct) (g : TGs) (ds : List Im) (Γ Γ' : List (Option Rs)) (js : List Nat) : Prop :=
  ∀ H0 O H σ F fz xs, Env c H0 O H σ Γ → Ji c F → Rr c F H → (fz = true → Rr c F (mns H O)) → LoAll c F fz H xs ds → ∀ Q : L2.St → Hp → Prop,
    (∀ σ', Env c H0 O H σ' Γ' → (∀ vs, (∀ j ∈ js, j ∈ vs) → wipe σ' vs = wipe σ vs) → Q σ' H) → g xs σ H Q
theorem wipe_set {x : Option V} {j : Nat} {σ : L2.St} : ∀ {vs : List Nat}, j ∈ vs → wipe (σ.set j x) vs = wipe σ vs
  | [], h => by simp at h
  | v :: vs, h => by
    unfold wipe
    by_cases hj : j ∈ vs
    · rw [wipe_set hj]
    · have e : j = v := by simpa [hj] using h
      subst e
      have : ∀ (us : List Nat) (σ : L2.St), (wipe (σ.set j x) us).set j none = (wipe σ us).set j none := by
        intro us
        induction us with
        | nil => intro σ; simp [wipe]
        | cons u us ih =>
          intro σ
          show ((wipe (σ.set j x) us).set u none).set j none = ((wipe σ us).set u none).set j none
          by_cases q : u = j
          · subst q; simpa using ih σ
          · rw [List.set_comm _ _ q, ih σ, List.set_comm _ _ (fun z => q z.symm)]
      exact this vs σ
theorem wipe_wipe {σ : L2.St} : ∀ {vs us : List Nat}, (∀ v ∈ vs, v ∈ us) → wipe (wipe σ vs) us = wipe σ us
  | [], us, h => rfl
  | v :: vs, us, h => by
    show wipe ((wipe σ vs).set v none) us = wipe σ us
    rw [wipe_set (h v (by simp)), wipe_wipe fun w hw => h w (by simp [hw])]
def wipeG (Γ : List (Option Rs)) : List Nat → List (Option Rs)
  | [] => Γ
  | v :: vs => (wipeG Γ vs).set v none
theorem Env.wipe (e : Env c H0 O H σ Γ) : ∀ vs : List Nat, Env c H0 O H (L2.wipe σ vs) (wipeG Γ vs)
  | [] => e
  | v :: vs => (Env.wipe e vs).setN
theorem g_name {j : Nat} {d : PyData} : EvG c (gName j) (.d d) Γ (Γ.set j (some (.v d))) [j] := fun H0 O H σ F fz x e jF rF rM h Q q => by
  have b : Bo c (mns H O) x d := by
    cases h with
    | leaf h =>
      rcases h with ⟨f, b⟩ | ⟨f, b⟩
      · exact b.flatTo (fun a xs s => sqT_mns (fun b hb => e.dm b hb) s) f
      · exact b.mono jF (rM f)
  exact q _ (e.setV b) fun vs hv => wipe_set (hv j (by simp))
theorem g_nil : EvGs c gNil [] Γ Γ [] := fun H0 O H σ F fz xs e jF rF rM h Q q => by
  cases h
  exact ⟨rfl, q σ e fun _ _ => rfl⟩
theorem g_cons {g : TG} {gs : TGs} {d : Im} {ds : List Im} {Γ1 Γ2 : List (Option Rs)} {js ks : List Nat} (h : EvG c g d Γ Γ1 js) (hs : EvGs c gs ds Γ1 Γ2 ks) : EvGs c (gCons g gs) (d :: ds) Γ Γ2 (js ++ ks) := fun H0 O H σ F fz xs e jF rF rM l Q q => by
  cases l with
  | cons a b =>
    exact ⟨_, _, rfl, h H0 O H σ F fz _ e jF rF rM a _ fun σ1 e1 w1 => hs H0 O H σ1 F fz _ e1 jF rF rM b _ fun σ2 e2 w2 => q σ2 e2 fun vs hv =>
      (w2 vs fun j hj => hv j (by simp [hj])).trans (w1 vs fun j hj => hv j (by simp [hj]))⟩
theorem g_tup {n : Nat} {gs : TGs} {ds : List Im} {js : List Nat} (hn : ds.length = n) (hs : EvGs c gs ds Γ Γ' js) : EvG c (gTup c.K n gs) (.t ds) Γ Γ' js := fun H0 O H σ F fz x e jF rF rM h Q q => by
  cases h with
  | tup s al => exact ⟨_, _, rfl, s, al.len.trans hn, hs H0 O H σ F fz _ e jF rF rM al Q q⟩
theorem g_tupD {n : Nat} {gs : TGs} {ds : List PyData} {js : List Nat} (hn : ds.length = n) (hs : EvGs c gs (ds.map Im.d) Γ Γ' js) : EvG c (gTup c.K n gs) (.d (.tuple ds)) Γ Γ' js := fun H0 O H σ F fz x e jF rF rM h Q q => by
  obtain ⟨a, xs, rfl, s, al⟩ := h.parts jF rF
  exact ⟨_, _, rfl, s, al.len.trans (by simpa using hn), hs H0 O H σ F fz _ e jF rF rM al Q q⟩
end Lm


namespace Lm
open PySem PySem.Spec PyProof.Rows L2
variable {c : Ct} {H H' H0 H1 H2 H3 : Hp} {O : List Addr} {σ : L2.St} {Γ Γ' : List (Option Rs)}
variable {te ta tb tx tl : TE} {tt tu : TT} {tr : TA} {k ka kb : Kd} {d x y z : PyData} {i j : Int} {a b : Bool} {kv fz : Bool} {ds es : List PyData}

/-! ### what is walked: lists, tuples, ranges -/
theorem sizeOk {n : Nat} (h : n ≤ 1000000) : n ≤ sizeLine := Nat.le_trans h (by decide)
theorem map_get? {α : Type} {f : PyData → α} {i : Nat} {d : PyData} (h : ds[i]? = some d) : (ds.map f)[i]? = some (f d) := by simp [h]
/-- the frozen part -/
theorem Res.frozen {v : V} (e : Env c H0 O H σ Γ) (r : Rr c H H2) (h : Res c O H H2 v d k) (hk : k ≠ .b) : Bo c (mns H2 O) v d := by
  cases k with
  | v => exact h
  | o =>
    obtain ⟨fp, f, nd, new⟩ := h
    have e2 := e.on r
    have no : ∀ a ∈ fp, a ∉ O := fun a ha hO => by
      obtain ⟨xs, q, _⟩ := e.dm a hO
      rw [new a ha] at q
      cases q
    exact (f.up (fun a xs s => sqT_mns (fun b hb => e2.dm b hb) s) fun a ha o q => by rw [mns_out (no a ha)]; exact q).bo fun a ha => okA.fresh e.jH (new a ha)
  | b => exact absurd rfl hk
theorem i_core {J : It} {xs : List V} {F : Hp} (jF : Ji c F) (hw : Walk J xs.length (fun H => Rr c F H) (YAt xs)) (hb : BoAll c F xs ds) (hf : fz = true ∨ flatAll ds = true) : WD c F fz J (ds.map Im.d) := by
  refine ⟨jF, ?_⟩
  have hl : xs.length = (ds.map Im.d).length := by rw [hb.len]; simp
  rw [hl] at hw
  refine hw.mono (fun _ h => h) fun i H x H' hi g y => ?_
  obtain ⟨rfl, hx⟩ := y
  obtain ⟨d, hd, bd⟩ := hb.get hx
  refine ⟨Same.refl _, .d d, map_get? hd, .leaf ?_⟩
  rcases hf with hf | hf
  · exact .inr ⟨hf, bd⟩
  · refine .inl ⟨?_, bd.mono jF g⟩
    have : ∀ (l : List PyData), flatAll l = true → ∀ d ∈ l, flatD d = true := by
      intro l
      induction l with
      | nil => intro _ _ h; simp at h
      | cons a l ih =>
        intro q d hd
        have q' : (flatD a && flatAll l) = true := q
        rw [Bool.and_eq_true] at q'
        rcases List.mem_cons.mp hd with w | w
        · rw [w]; exact q'.1
        · exact ih q'.2 d w
    exact this ds hf d (List.mem_of_getElem? hd)
theorem i_listB (h : Ev c tl Γ k (.list ds)) (hf : flatAll ds = true) : EvI c (iList c.K tl) Γ false (ds.map Im.d) := fun H0 O H σ e R q =>
  h H0 O H σ e _ fun v H1 r s => by
    obtain ⟨p, xs, rfl, kp, sl, al⟩ := (Res.bo e s).lst'
    have j1 := (e.on r).jH
    exact ⟨p, rfl, ⟨xs, sl⟩, q _ H1 r (i_core j1 (walk_list.mono (fun H h => h.lst kp sl) fun _ _ _ _ _ _ y => y) al (.inr hf))⟩
theorem i_list (h : Ev c tl Γ k (.list ds)) (hk : k ≠ .b) : EvI c (iList c.K tl) Γ true (ds.map Im.d) := fun H0 O H σ e R q =>
  h H0 O H σ e _ fun v H1 r s => by
    obtain ⟨p, xs, rfl, kp, sl, al⟩ := (Res.frozen e r s hk).lst'
    exact ⟨p, rfl, ⟨xs, mns_same.seq sl⟩, q _ H1 r (i_core (e.on r).j (walk_list.mono (fun H h => h.lst kp sl) fun _ _ _ _ _ _ y => y) al (.inl rfl))⟩
theorem i_tup (h : Ev c tl Γ k (.tuple ds)) (hk : k ≠ .b) : EvI c (iTup c.K tl) Γ true (ds.map Im.d) := fun H0 O H σ e R q =>
  h H0 O H σ e _ fun v H1 r s => by
    obtain ⟨p, xs, rfl, sl, al⟩ := (Res.frozen e r s hk).tup'
    exact ⟨p, rfl, ⟨xs, (sqT_same mns_same sl).sq⟩, q _ H1 r (i_core (e.on r).j (walk_tup.mono (fun H h => (h.tup (e.on r).j sl).sq) fun _ _ _ _ _ _ y => y) al (.inl rfl))⟩
/-- the upI from lo on, n of them -/
def upI (lo : Int) (n : Nat) : List Int := (List.range n).map fun (i : Nat) => lo + (i : Int)
theorem i_range {F : Hp} (jF : Ji c F) {lo : Int} {n : Nat} : WD c F fz (Itr lo n) ((upI lo n).map fun i => Im.d (.int i)) := by
  refine ⟨jF, ?_⟩
  have hl : ((upI lo n).map fun i => Im.d (.int i)).length = n := by simp [upI]
  rw [hl]
  refine walk_range.mono (fun _ _ => trivial) fun i H x H' hi g y => ?_
  obtain ⟨rfl, rfl⟩ := y
  exact ⟨Same.refl _, .d (.int (lo + i)), by simp [upI, hi], .leaf (.inl ⟨rfl, .int _⟩)⟩
theorem i_rng1 {n : Int} (h : EvA c tr Γ kv [.int n]) (hn : n ≤ 1000000) (hn' : -1000000 ≤ n) : EvI c (iRng1 tr) Γ true ((upI 0 n.toNat).map fun i => Im.d (.int i)) := fun H0 O H σ e R q =>
  h H0 O H σ e _ fun vs H1 r s => by
    cases s with
    | cons b bs =>
      cases bs
      have := b.int'
      subst this
      exact ⟨n, rfl, by omega, by omega, q _ H1 r (i_range (e.on r).j)⟩
/-! ### comprehensions -/
theorem flatAll_one {d : PyData} {ds : List PyData} (h : flatAll ds = true) (m : d ∈ ds) : flatD d = true := by
  induction ds with
  | nil => simp at m
  | cons a l ih =>
    have q' : (flatD a && flatAll l) = true := h
    rw [Bool.and_eq_true] at q'
    rcases List.mem_cons.mp m with w | w
    · rw [w]; exact q'.1
    · exact ih q'.2 w
theorem ifFz {F : Hp} {H1 : Hp} {O : List Addr} (e : Env c H0 O H σ Γ) (r1 : Rr c H H1) (r : Rr c H1 H2) : Rr c (if fz then mns H1 O else H1) H2 ∧ (fz = true → Rr c (if fz then mns H1 O else H1) (mns H2 O)) := by
  cases fz with
  | true => exact ⟨(Rr.same mns_same).tr r, fun _ => r.mns (e.on r1).j e.okO⟩
  | false => exact ⟨r, fun h => nomatch h⟩
theorem n_lc {wi : TI} {g : TG} {vs : List Nat} {items : List Im} (M : Nat → List PyData → Prop) (hi : EvI c wi Γ fz items) (hl : items.length ≤ 1000000) (h0 : M 0 [])
    (hb : ∀ (n : Nat) (a : Im) (acc : List PyData), items[n]? = some a → M n acc → ∃ Γ' js, EvG c g a (wipeG Γ vs) Γ' js ∧ (∀ j ∈ js, j ∈ vs) ∧
      ∃ (b : Bool) (P : PyData → Prop), EvT c tt Γ' b ∧ (b = true → EvN c te Γ' .o P ∧ ∀ d, P d → M (n + 1) (acc ++ [d])) ∧ (b = false → M (n + 1) acc)) :
    EvN c (tLc wi g tt te vs) Γ .o (fun d => ∃ acc, d = .list acc ∧ M items.length acc) := fun H0 O H σ e Q q =>
  hi H0 O H σ e _ fun J H1 r1 w D hD => by
    obtain ⟨jF, w⟩ := w
    refine lc_it w (fun n H' => Rr c H1 H' ∧ ∃ acc ds fp, H' D = some (.lst acc) ∧ FoAll c H' acc ds fp ∧ fp.Nodup ∧ (∀ a ∈ fp, H1 a = none) ∧ D ∉ fp ∧ ds.length ≤ n ∧ M n ds) ?_ ?_ ?_ ?_
    · exact ⟨Rr.same fun b o z => by rw [upd_ne (ne_of_none z hD)]; exact z, [], [], [], upd_same, .nil, List.nodup_nil, (fun _ h => nomatch h), (fun h => nomatch h), Nat.le_refl _, h0⟩
    · intro n H' _ p
      exact (ifFz (F := H) e r1 p.1).1
    · rintro n x H' H'' hn ⟨p1, acc, ds, fp, p2, p3, p4, p5, p6, p7, p8⟩ ⟨sm, im, him, lo⟩
      have e2 : Env c H0 O H'' σ Γ := e.on ((r1.tr p1).tr (Rr.same sm))
      have fzz := ifFz (fz := fz) (F := H) e r1 (p1.tr (Rr.same sm))
      obtain ⟨Γ', js, hg, hjs, b, P, ht, hy, hno⟩ := hb n im ds him p8
      refine hg H0 O H'' _ _ fz x (e2.wipe vs) jF fzz.1 fzz.2 lo _ fun σ2 e3 hw => ⟨(hw vs hjs).trans (wipe_wipe fun _ h => h), ht H0 O H'' σ2 e3 _ fun H3 r3 => ?_⟩
      have p3' : FoAll c H'' acc ds fp := p3.up (fun _ _ s => sqT_same sm s) fun a _ o z => sm a o z
      have okf : ∀ a ∈ fp, okA c a := fun a ha => okA.fresh (e.on r1).jH (p5 a ha)
      have okD : okA c D := okA.fresh (e.on r1).jH hD
      have f3 : FoAll c H3 acc ds fp := p3'.up (fun _ _ s => r3.tup e2.jH s) fun a ha o z => r3.1 a o (okf a ha) z
      have D3 : H3 D = some (.lst acc) := r3.1 D _ okD (sm _ _ p2)
      have r13 : Rr c H1 H3 := (p1.tr (Rr.same sm)).tr r3
      cases b with
      | true =>
        refine iteT ?_
        obtain ⟨hyN, hyM⟩ := hy rfl
        refine hyN H0 O H3 σ2 (e3.on r3) _ fun v d H4 pd r4 s4 => ?_
        obtain ⟨fq, f4, nq, newq⟩ := s4
        have e3' := e3.on r3
        have D4 : H4 D = some (.lst acc) := r4.1 D _ okD D3
        have f3' : FoAll c H4 acc ds fp := f3.up (fun _ _ s => r4.tup e3'.jH s) fun a ha o z => r4.1 a o (okf a ha) z
        have Dq : D ∉ fq := fun z => by rw [newq D z] at D3; cases D3
        have all : FoAll c H4 (acc ++ [v]) (ds ++ [d]) (fp ++ (fq ++ [])) := f3'.app (.cons f4 .nil)
        rw [List.append_nil] at all
        have lacc : acc.length = ds.length := (f3'.bo okf).len
        have hle : ds.length ≤ 1000000 := by omega
        have nodq : ∀ a ∈ fp, a ∉ fq := fun a ha hq => by
          obtain ⟨xs, z⟩ := f3.isL a ha
          rw [newq a hq] at z; cases z
        refine ⟨acc, D4, by rw [lacc, sizeLine_eq]; omega, ?_, acc ++ [v], ds ++ [d], fp ++ fq, upd_same, ?_, ?_, ?_, ?_, by simp; omega, hyM d pd⟩
        · refine ⟨fun a o ok z => ?_, fun jj => ?_⟩
          · rw [upd_ne (ne_of_none z hD)]; exact (r13.tr r4).1 a o ok z
          · intro st l eq
            obtain ⟨ns, x, k, g1, g2, g3, g4⟩ := (r13.tr r4).2 jj st l eq
            have d1 : st ≠ D := fun z => by
              obtain ⟨ns', x', k', g1', _⟩ := jj st l eq
              rw [z, hD] at g1'; cases g1'
            have d2 : l ≠ D := fun z => by
              obtain ⟨ns', x', k', _, g2', _⟩ := jj st l eq
              rw [z, hD] at g2'; cases g2'
            exact ⟨ns, x, k, by rw [upd_ne d1]; exact g1, by rw [upd_ne d2]; exact g2, g3, g4⟩
        · refine all.up (fun _ _ s => sqT_upd D4 s) fun a ha o z => ?_
          have : a ≠ D := fun w => by
            subst w
            rcases List.mem_append.mp ha with u | u
            · exact p6 u
            · exact Dq u
          rw [upd_ne this]; exact z
        · rw [List.nodup_append]
          exact ⟨p4, nq, fun a ha b hb z => by subst z; exact nodq a ha hb⟩
        · intro a ha
          rcases List.mem_append.mp ha with u | u
          · exact p5 a u
          · exact r13.back (e.on r1).jH (newq a u)
        · intro z
          rcases List.mem_append.mp z with u | u
          · exact p6 u
          · exact Dq u
      | false =>
        exact iteF ⟨r13, acc, ds, fp, D3, f3, p4, p5, p6, by omega, hno rfl⟩
    · rintro H' ⟨p1, acc, ds, fp, p2, p3, p4, p5, p6, p7, p8⟩
      refine q (.ref D) (.list ds) H' ⟨ds, rfl, p8⟩ (r1.tr p1) ⟨D :: fp, .lst p2 p3, ?_, fun a ha => ?_⟩
      · exact List.nodup_cons.mpr ⟨p6, p4⟩
      · rcases List.mem_cons.mp ha with w | w
        · rw [w]; exact r1.back e.jH hD
        · exact r1.back e.jH (p5 a w)
theorem d_lc {α : Type} {wi : TI} {g : TG} {vs : List Nat} {l : List α} {en : α → Im} (p : α → Bool) (m : α → PyData) (hi : EvI c wi Γ fz (l.map en)) (hl : l.length ≤ 1000000)
    (hb : ∀ a ∈ l, ∃ Γ' js, EvG c g (en a) (wipeG Γ vs) Γ' js ∧ (∀ j ∈ js, j ∈ vs) ∧ EvT c tt Γ' (p a) ∧ (p a = true → Ev c te Γ' .o (m a))) :
    Ev c (tLc wi g tt te vs) Γ .o (.list ((l.filter p).map m)) := by
  refine ((n_lc (fun n acc => acc = ((l.take n).filter p).map m) hi (by simpa using hl) rfl ?_).imp ?_).det
  · intro n a acc hn hacc
    rw [List.getElem?_map] at hn
    cases ha : l[n]? with
    | none => rw [ha] at hn; cases hn
    | some a0 =>
      rw [ha] at hn
      have : en a0 = a := Option.some.inj hn
      subst this
      have tk : l.take (n + 1) = l.take n ++ [a0] := by
        rw [List.take_add_one, ha]; rfl
      obtain ⟨Γ', js, h1, h2, h3, h4⟩ := hb a0 (List.mem_of_getElem? ha)
      refine ⟨Γ', js, h1, h2, p a0, fun d => d = m a0, h3, fun hp => ⟨(h4 hp).n, fun d hd => ?_⟩, fun hp => ?_⟩
      · rw [hacc, tk, hd]; simp [hp]
      · rw [hacc, tk]; simp [hp]
  · rintro d ⟨acc, rfl, h⟩
    have : (l.map en).length = l.length := by simp
    rw [this, List.take_length] at h
    rw [h]
/-- without a test -/
theorem d_lcA {α : Type} {wi : TI} {g : TG} {vs : List Nat} {l : List α} {en : α → Im} (m : α → PyData) (hi : EvI c wi Γ fz (l.map en)) (hl : l.length ≤ 1000000)
    (hb : ∀ a ∈ l, ∃ Γ' js, EvG c g (en a) (wipeG Γ vs) Γ' js ∧ (∀ j ∈ js, j ∈ vs) ∧ Ev c te Γ' .o (m a)) :
    Ev c (tLc wi g tYes te vs) Γ .o (.list (l.map m)) := by
  have := d_lc (te := te) (tt := tYes) (g := g) (vs := vs) (fun _ => true) m hi hl fun a ha => by
    obtain ⟨Γ', js, h1, h2, h3⟩ := hb a ha
    exact ⟨Γ', js, h1, h2, t_yes, fun _ => h3⟩
  have e : l.filter (fun _ => true) = l := List.filter_eq_self.mpr fun _ _ => rfl
  rwa [e] at this
end Lm


namespace Lm
open PySem PySem.Spec PyProof.Rows L2
variable {c : Ct} {H H' H0 H1 H2 H3 : Hp} {O : List Addr} {σ : L2.St} {Γ Γ' Γ1 : List (Option Rs)}
variable {te ta tb tx tl : TE} {tt tu : TT} {tr : TA} {k ka kb : Kd} {d x y z : PyData} {i j : Int} {a b : Bool} {kv fz : Bool} {ds es : List PyData}

/-! ### how a statement ends -/
inductive Out where
  | nx (Γ : List (Option Rs))
  | rt (k : Kd) (d : PyData)
  | bk (Γ : List (Option Rs))
  | ct (Γ : List (Option Rs))
def Rt (c : Ct) (H0 H : Hp) (v : V) (d : PyData) : Kd → Prop
  | .v => flatD d = true ∧ Bo c H v d
  | .o => ∃ fp, Fo c H v d fp ∧ fp.Nodup ∧ ∀ a ∈ fp, H0 a = none
  | .b => (∃ x, c.so = some x) ∧ Bo c H v d
def Sat (c : Ct) (H0 : Hp) (D : Ends) : Out → Prop
  | .nx Γ => ∀ O H σ, Env c H0 O H σ Γ → D.nx σ H
  | .rt k d => ∀ v H, Rr c H0 H → Rt c H0 H v d k → D.rt v H
  | .bk Γ => ∀ O H σ, Env c H0 O H σ Γ → D.bk σ H
  | .ct Γ => ∀ O H σ, Env c H0 O H σ Γ → D.ct σ H
def Sd (c : Ct) (t : TS) (Γ : List (Option Rs)) (P : Out → Prop) : Prop :=
  ∀ H0 O H σ D, Env c H0 O H σ Γ → (∀ o, P o → Sat c H0 D o) → t D σ H
section
variable {t u w : TS} {P P1 : Out → Prop} {n : Nat}
theorem Env.back0 (e : Env c H0 O H σ Γ) {a : Addr} (h : mns H O a = none) : H0 a = none := by
  cases q : H0 a with
  | none => rfl
  | some o =>
    have k : okA c a := fun st l z w => by
      obtain ⟨ns, x, k, g1, _⟩ := e.j st l z
      rw [← w, h] at g1
      cases g1
    have := e.r0.1 a o k q
    rw [h] at this
    cases this
theorem s_next (h : P (.nx Γ)) : Sd c tNext Γ P := fun H0 O H σ D e s => s _ h O H σ e
theorem s_seq (h : Sd c t Γ P1) (hn : ∀ Γ1, P1 (.nx Γ1) → Sd c u Γ1 P) (hr : ∀ k d, P1 (.rt k d) → P (.rt k d)) (hb : ∀ Γ1, P1 (.bk Γ1) → P (.bk Γ1)) (hc : ∀ Γ1, P1 (.ct Γ1) → P (.ct Γ1)) : Sd c (tSeq t u) Γ P := fun H0 O H σ D e s =>
  h H0 O H σ _ e fun o po => match o with
    | .nx Γ1 => fun O1 H1 σ1 e1 => hn Γ1 po H0 O1 H1 σ1 D e1 s
    | .rt k d => fun v H1 r q => s _ (hr k d po) v H1 r q
    | .bk Γ1 => fun O1 H1 σ1 e1 => s _ (hb Γ1 po) O1 H1 σ1 e1
    | .ct Γ1 => fun O1 H1 σ1 e1 => s _ (hc Γ1 po) O1 H1 σ1 e1
theorem s_seq1 (h : Sd c t Γ (fun o => o = .nx Γ1)) (hn : Sd c u Γ1 P) : Sd c (tSeq t u) Γ P :=
  s_seq h (fun _ e => by cases e; exact hn) (fun _ _ e => nomatch e) (fun _ e => nomatch e) (fun _ e => nomatch e)
theorem Sd.imp (h : Sd c t Γ P1) (i : ∀ o, P1 o → P o) : Sd c t Γ P := fun H0 O H σ D e s => h H0 O H σ D e fun o po => s o (i o po)
/-- another description of the slots -/
theorem Sd.pre (h : Sd c t Γ1 P) (i : ∀ H0 O H σ, Env c H0 O H σ Γ → ∃ O', Env c H0 O' H σ Γ1) : Sd c t Γ P := fun H0 O H σ D e s => by
  obtain ⟨O', e'⟩ := i H0 O H σ e
  exact h H0 O' H σ D e' s
theorem s_freeze (h : Γ[n]? = some (some (.o d))) (hs : Sd c t (Γ.set n (some (.v d))) P) : Sd c t Γ P :=
  hs.pre fun H0 O H σ e => let ⟨O', e', _⟩ := e.freeze h; ⟨O', e'⟩
/-- what an expression gave is stored: to be returned -/
theorem Rt.of {v : V} (e : Env c H0 O H σ Γ) (r : Rr c H H2) (h : Res c O H H2 v d k) (hk : k = .o ∨ (k = .v ∧ flatD d = true)) : Rt c H0 H2 v d k := by
  rcases hk with rfl | ⟨rfl, f⟩
  · obtain ⟨fp, q, nd, new⟩ := h
    refine ⟨fp, q, nd, fun a ha => e.back0 ?_⟩
    have : a ∉ O := fun z => by
      obtain ⟨xs, w, _⟩ := e.dm a z
      rw [new a ha] at w; cases w
    rw [mns_out this]; exact new a ha
  · exact ⟨f, Bo.same mns_same h⟩
theorem s_ret (h : Ev c te Γ k d) (hk : k = .o ∨ (k = .v ∧ flatD d = true)) (p : P (.rt k d)) : Sd c (tRet te) Γ P := fun H0 O H σ D e s =>
  h H0 O H σ e _ fun v H2 r q => s _ p v H2 (e.rH.tr r) (Rt.of e r q hk)
/-- what stays is returned, lists in it too: to be read at once -/
theorem s_retB {x : Addr × Addr} (Pd : PyData → Prop) (hs : c.so = some x) (h : EvN c te Γ .v Pd) (p : ∀ d, Pd d → P (.rt .b d)) : Sd c (tRet te) Γ P := fun H0 O H σ D e s =>
  h H0 O H σ e _ fun v d H2 pd r q => s _ (p d pd) v H2 (e.rH.tr r) ⟨⟨x, hs⟩, Bo.same mns_same q⟩
theorem s_asg (h : Ev c te Γ .v d) (p : P (.nx (Γ.set n (some (.v d))))) : Sd c (tAsg te (gName n)) Γ P := fun H0 O H σ D e s =>
  h H0 O H σ e _ fun v H2 r q => s _ p O H2 _ ((e.on r).setV q)
theorem s_asgO (h : Ev c te Γ .o d) (p : P (.nx (Γ.set n (some (.o d))))) : Sd c (tAsg te (gName n)) Γ P := fun H0 O H σ D e s =>
  h H0 O H σ e _ fun v H2 r ⟨fp, f, nd, new⟩ => s _ p _ H2 _ (e.setO r f nd new)
theorem q_asg (h : Ev c te Γ .v d) (p : Sd c u (Γ.set n (some (.v d))) P) : Sd c (tSeq (tAsg te (gName n)) u) Γ P := s_seq1 (s_asg h rfl) p
theorem q_asgO (h : Ev c te Γ .o d) (p : Sd c u (Γ.set n (some (.o d))) P) : Sd c (tSeq (tAsg te (gName n)) u) Γ P := s_seq1 (s_asgO h rfl) p
theorem q_asgN (Pd : PyData → Prop) (h : EvN c te Γ .v Pd) (p : ∀ d, Pd d → Sd c u (Γ.set n (some (.v d))) P) : Sd c (tSeq (tAsg te (gName n)) u) Γ P := fun H0 O H σ D e s =>
  h H0 O H σ e _ fun v d H2 pd r q => p d pd H0 O H2 _ D ((e.on r).setV q) s
theorem q_drop (h : Ev c te Γ k d) (p : Sd c u Γ P) : Sd c (tSeq (tDrop te) u) Γ P := fun H0 O H σ D e s =>
  h H0 O H σ e _ fun v H2 r q => p H0 O H2 σ D (e.on r) s
theorem s_drop (h : Ev c te Γ k d) (p : P (.nx Γ)) : Sd c (tDrop te) Γ P := fun H0 O H σ D e s =>
  h H0 O H σ e _ fun v H2 r q => s _ p O H2 σ (e.on r)
theorem s_if (h : EvT c tt Γ a) (h1 : a = true → Sd c t Γ P) (h2 : a = false → Sd c u Γ P) : Sd c (tIfS tt t u) Γ P := fun H0 O H σ D e s =>
  h H0 O H σ e _ fun H2 r => by
    cases a with
    | true => exact iteT (h1 rfl H0 O H2 σ D (e.on r) s)
    | false => exact iteF (h2 rfl H0 O H2 σ D (e.on r) s)
/-- if, then the rest -/
theorem q_if (h : EvT c tt Γ a) (h1 : a = true → Sd c (tSeq t w) Γ P) (h2 : a = false → Sd c (tSeq u w) Γ P) : Sd c (tSeq (tIfS tt t u) w) Γ P := fun H0 O H σ D e s =>
  h H0 O H σ e _ fun H2 r => by
    cases a with
    | true => exact iteT (h1 rfl H0 O H2 σ D (e.on r) s)
    | false => exact iteF (h2 rfl H0 O H2 σ D (e.on r) s)
theorem q_next (h : Sd c u Γ P) : Sd c (tSeq tNext u) Γ P := fun H0 O H σ D e s => h H0 O H σ D e s
theorem q_ret (h : Ev c te Γ k d) (hk : k = .o ∨ (k = .v ∧ flatD d = true)) (p : P (.rt k d)) : Sd c (tSeq (tRet te) u) Γ P := fun H0 O H σ D e s =>
  h H0 O H σ e _ fun v H2 r q => s _ p v H2 (e.rH.tr r) (Rt.of e r q hk)
/-- if that surely is not so (or is) -/
theorem q_no (h : EvT c tt Γ false) (h2 : Sd c w Γ P) : Sd c (tSeq (tIfS tt t tNext) w) Γ P := q_if h (fun e => nomatch e) (fun _ => q_next h2)
theorem s_no (h : EvT c tt Γ false) (h2 : Sd c u Γ P) : Sd c (tIfS tt t u) Γ P := s_if h (fun e => nomatch e) (fun _ => h2)
theorem s_yes (h : EvT c tt Γ true) (h2 : Sd c t Γ P) : Sd c (tIfS tt t u) Γ P := s_if h (fun _ => h2) (fun e => nomatch e)
/-- x += e -/
theorem s_aug {f : Int → Int → Int} (hx : Γ[n]? = some (some (.v (.int i)))) (h : Ev c te Γ k (.int j)) (p : P (.nx (Γ.set n (some (.v (.int (f i j))))))) : Sd c (tAug n te (ipI f)) Γ P := fun H0 O H σ D e s => by
  obtain ⟨v, hv, b⟩ := e.slotV hx
  refine ⟨v, hv, h H0 O H σ e _ fun w H2 r q => ⟨i, j, b.int', (Res.bo e q).int', s _ p O H2 _ ((e.on r).setV (.int _))⟩⟩
theorem q_aug {f : Int → Int → Int} (hx : Γ[n]? = some (some (.v (.int i)))) (h : Ev c te Γ k (.int j)) (p : Sd c u (Γ.set n (some (.v (.int (f i j))))) P) : Sd c (tSeq (tAug n te (ipI f)) u) Γ P := s_seq1 (s_aug hx h rfl) p
/-- xs.append(e) -/
theorem s_app (hx : Γ[n]? = some (some (.o (.list ds)))) (h : Ev c te Γ k d) (hf : flatD d = true) (hl : ds.length < 1000000) (p : P (.nx (Γ.set n (some (.o (.list (ds ++ [d]))))))) : Sd c (tDrop (tBM c.K "list" rAppend (tVar n) (tCons te tNil))) Γ P := fun H0 O H σ D e s => by
  obtain ⟨q, xs, f, hq, hp, fa, qf, qO, _⟩ := e.write (es := ds ++ [d]) hx
  refine ⟨.ref q, hq, .inl ⟨rfl, xs, .inl (.inl hp)⟩, h H0 O H σ e _ fun v H2 r rs => ?_⟩
  have e2 := e.on r
  obtain ⟨q', xs', f', hq', hp', fa', qf', qO', wr⟩ := e2.write (es := ds ++ [d]) hx
  have : q' = q := by rw [hq] at hq'; cases hq'; rfl
  subst this
  have bo : Bo c H2 v d := Res.bo e rs
  have lx : xs'.length = ds.length := (fa'.bo fun a ha => e.okO a (qO' a ha)).len
  refine ⟨q', xs', v, rfl, rfl, hp', by rw [lx, sizeLine_eq]; omega, s _ p O _ σ (wr (xs' ++ [v]) ?_)⟩
  have := fa'.app (.cons (.leaf hf bo) .nil : FoAll c H2 [v] [d] ([] ++ []))
  rw [List.append_nil, List.append_nil] at this
  exact this.up (fun _ _ s => sqT_upd hp' s) fun a ha o z => by
    have : a ≠ q' := fun w => qf' (w ▸ ha)
    rw [upd_ne this]; exact z
theorem FoAll.set0 : ∀ {v : List V} {d : List PyData} {m : Nat} {x : V} {e : PyData}, FoAll c H v d [] → flatD e = true → Bo c H x e → FoAll c H (v.set m x) (d.set m e) [] := by
  intro v
  induction v with
  | nil =>
    intro d m x e h q b
    cases h
    exact .nil
  | cons v0 v ih =>
    intro d m x e h q b
    generalize hz : ([] : List Addr) = z at h
    cases h with
    | cons a r =>
      obtain ⟨h1, h2⟩ := List.append_eq_nil_iff.mp hz.symm
      subst h1
      subst h2
      cases m with
      | zero => exact .cons (f := []) (fs := []) (.leaf q b) r
      | succ m => exact .cons (f := []) (fs := []) a (ih r q b)
/-- xs[i] = e, xs a list of flat things -/
theorem s_setI (hx : Γ[n]? = some (some (.o (.list ds)))) (hds : flatAll ds = true) (h : Ev c te Γ k d) (hf : flatD d = true) (hi : Ev c ta Γ ka (.int (i : Int))) (hj : ixN ds.length i = some m) (p : P (.nx (Γ.set n (some (.o (.list (ds.set m d))))))) : Sd c (tAsg te (gSub (tVar n) ta rSetL)) Γ P := fun H0 O H σ D e s =>
  h H0 O H σ e _ fun v H2 r rs => by
    have e2 := e.on r
    obtain ⟨q, xs, f, hq, hp, fa, qf, qO, _⟩ := e2.write (es := ds.set m d) hx
    refine ⟨.ref q, hq, hi H0 O H2 σ e2 _ fun w H3 r3 ws => ?_⟩
    have e3 := e2.on r3
    obtain ⟨q', xs', f', hq', hp', fa', qf', qO', wr⟩ := e3.write (es := ds.set m d) hx
    have : q' = q := by rw [hq] at hq'; cases hq'; rfl
    subst this
    have bo : Bo c H3 v d := Res.bo e (Res.on e r r3 rs)
    have lx : xs'.length = ds.length := (fa'.bo fun a ha => e.okO a (qO' a ha)).len
    refine ⟨q', xs', i, m, rfl, (Res.bo e2 ws).int', hp', by rw [lx]; exact hj, s _ p O _ σ (wr _ ?_)⟩
    obtain ⟨rfl, ba⟩ := fa'.flat0 hds
    exact (FoAll.set0 fa' hf bo).up (fun _ _ s => sqT_upd hp' s) fun a ha => nomatch ha
/-! ### for -/
theorem s_for {wi : TI} {g : TG} {tb : TS} {items : List Im} (hi : EvI c wi Γ true items) (I : Nat → List (Option Rs) → Prop) (h0 : I 0 Γ)
    (hs : ∀ n a Γ1, items[n]? = some a → I n Γ1 → ∃ Γ2 js, EvG c g a Γ1 Γ2 js ∧
      Sd c tb Γ2 (fun o => (∃ Γ3, (o = .nx Γ3 ∨ o = .ct Γ3) ∧ I (n + 1) Γ3) ∨ (∃ Γ3, o = .bk Γ3 ∧ P (.nx Γ3)) ∨ ∃ k d, o = .rt k d ∧ P o))
    (hd : ∀ Γ1, I items.length Γ1 → P (.nx Γ1)) : Sd c (tFor wi g tb) Γ P := fun H0 O H σ D e s =>
  hi H0 O H σ e _ fun J H1 r1 w => by
    obtain ⟨jF, w⟩ := w
    have e1 := e.on r1
    refine for_it w (fun n σ' H' => ∃ O' Γ', I n Γ' ∧ Env c (mns H1 O) O' H' σ' Γ') ⟨O, Γ, h0, e1.base⟩ ?_ ?_ ?_
    · rintro n σ' H' _ ⟨O', Γ', _, e'⟩
      exact e'.rH
    · rintro n x σ' H' H'' hn ⟨O', Γ', hI, e'⟩ ⟨sm, im, him, lo⟩
      have e2 := e'.on (Rr.same sm)
      obtain ⟨Γ2, js, hg, hb⟩ := hs n im Γ' him hI
      refine hg _ _ _ _ _ true x e2 jF e2.rH (fun _ => e2.r0) lo _ fun σ2 e3 _ => hb _ _ _ _ _ e3 fun o po => ?_
      rcases po with ⟨Γ3, ho, h3⟩ | ⟨Γ3, ho, h3⟩ | ⟨k, d, ho, h3⟩
      · rcases ho with rfl | rfl
        · exact fun O4 H4 σ4 e4 => ⟨O4, Γ3, h3, e4⟩
        · exact fun O4 H4 σ4 e4 => ⟨O4, Γ3, h3, e4⟩
      · subst ho
        exact fun O4 H4 σ4 e4 => s _ h3 O4 H4 σ4 (e1.fromB e4)
      · subst ho
        intro v H4 r4 rt
        refine s _ h3 v H4 ((e.r0.tr (r1.mns e.j e.okO)).tr r4) ?_
        cases k with
        | v => exact rt
        | o =>
          obtain ⟨fp, q, nd, new⟩ := rt
          exact ⟨fp, q, nd, fun a ha => e1.back0 (new a ha)⟩
        | b => exact rt
    · rintro σ' H' ⟨O', Γ', hI, e'⟩
      exact s _ (hd Γ' hI) O' H' σ' (e1.fromB e')
theorem q_for {wi : TI} {g : TG} {tb : TS} {items : List Im} (hi : EvI c wi Γ true items) (I : Nat → List (Option Rs) → Prop) (h0 : I 0 Γ)
    (hs : ∀ n a Γ1, items[n]? = some a → I n Γ1 → ∃ Γ2 js, EvG c g a Γ1 Γ2 js ∧
      Sd c tb Γ2 (fun o => (∃ Γ3, (o = .nx Γ3 ∨ o = .ct Γ3) ∧ I (n + 1) Γ3) ∨ (∃ Γ3, o = .bk Γ3 ∧ Sd c u Γ3 P) ∨ ∃ k d, o = .rt k d ∧ P o))
    (hd : ∀ Γ1, I items.length Γ1 → Sd c u Γ1 P) : Sd c (tSeq (tFor wi g tb) u) Γ P :=
  s_seq (P1 := fun o => match o with | .nx Γ3 => Sd c u Γ3 P | .rt k d => P (.rt k d) | _ => False)
    (s_for hi I h0 (fun n a Γ1 h1 h2 => by
      obtain ⟨Γ2, js, hg, hb⟩ := hs n a Γ1 h1 h2
      refine ⟨Γ2, js, hg, hb.imp fun o po => ?_⟩
      rcases po with w | ⟨Γ3, ho, h3⟩ | ⟨k, d, ho, h3⟩
      · exact .inl w
      · exact .inr (.inl ⟨Γ3, ho, h3⟩)
      · subst ho; exact .inr (.inr ⟨k, d, rfl, h3⟩)) hd) (fun _ h => h) (fun _ _ h => h) (fun _ h => h.elim) (fun _ h => h.elim)
end

/-! ### new tuples and lists; built-ins -/
theorem newTk {xs : List V} {Q : VK} (h : ∀ p H2, H p = none → Same H H2 → TpN c.K H2 p xs → Q (.ref p) H2) : NewT H xs Q := fun p o ho hp =>
  h p _ hp (fun b u z => by rw [upd_ne (ne_of_none z hp)]; exact z) (.inl ⟨o, ho, upd_same⟩)
theorem BoAll.vm {O : List Addr} {vs : List V} (h : BoAll c (if true = true then mns H O else H) vs ds) : BoAll c (mns H O) vs ds := h
theorem new_notO (e : Env c H0 O H σ Γ) {p : Addr} (h : H p = none) : p ∉ O := fun z => by
  obtain ⟨xs, w, _⟩ := e.dm p z
  rw [h] at w; cases w
theorem tpN_mns (e : Env c H0 O H σ Γ) (r : Rr c H H2) {p : Addr} {xs : List V} (h : TpN c.K H2 p xs) : TpN c.K (mns H2 O) p xs := sqT_mns (fun b hb => (e.on r).dm b hb) h
theorem d_tup (h : EvA c tr Γ true ds) (hl : ds.length ≤ 1000000) : Ev c (tTupN tr) Γ .v (.tuple ds) := fun H0 O H σ e Q q =>
  h H0 O H σ e _ fun vs H1 r s => by
    have s' := BoAll.vm s
    refine ⟨by rw [s'.len]; exact sizeOk hl, newTk (c := c) fun p H2 hp sm tp => q _ H2 (r.tr (Rr.same sm)) ?_⟩
    have r2 : Rr c H H2 := r.tr (Rr.same sm)
    exact .tup (tpN_mns e r2 tp) (s'.mono (e.on r).j ((Rr.same sm : Rr c H1 H2).mns (e.on r).j e.okO))
theorem d_lst (h : EvA c tr Γ kv ds) (hf : flatAll ds = true) (hl : ds.length ≤ 1000000) : Ev c (tLst tr) Γ .o (.list ds) := fun H0 O H σ e Q q =>
  h H0 O H σ e _ fun vs H1 r s => by
    have s' : BoAll c H1 vs ds := by
      cases kv with
      | true => exact BoAll.same mns_same (BoAll.vm s)
      | false => exact s
    refine ⟨by rw [s'.len]; exact sizeOk hl, fun p hp => q _ _ (r.tr (Rr.same fun b u z => by rw [upd_ne (ne_of_none z hp)]; exact z)) ?_⟩
    have sm : Same H1 (upd H1 p (.lst vs)) := fun b u z => by rw [upd_ne (ne_of_none z hp)]; exact z
    exact ⟨[p], .lst upd_same (FoAll.leaves hf (s'.same sm)), by simp, fun a ha => by
      have : a = p := by simpa using ha
      rw [this]; exact r.back e.jH hp⟩
/-- a call by values -/
theorem d_cb {r : List V → Hp → VK → Prop} (h : EvA c tr Γ false ds) (hr : ∀ H O vs (Q : VK), BoAll c H vs ds → (∀ v H2, Rr c H H2 → Bo c (mns H2 O) v z → Q v H2) → r vs H Q) : Ev c (tCB r tr) Γ .v z := fun H0 O H σ e Q q =>
  h H0 O H σ e _ fun vs H1 r1 s => hr H1 O vs Q s fun v H2 r2 b => q v H2 (r1.tr r2) b
theorem BoAll.one {v : List V} (h : BoAll c H v [d]) : ∃ x, v = [x] ∧ Bo c H x d := by
  cases h with
  | cons a b => cases b; exact ⟨_, rfl, a⟩
theorem BoAll.two {v : List V} (h : BoAll c H v [d, x]) : ∃ y z, v = [y, z] ∧ Bo c H y d ∧ Bo c H z x := by
  cases h with
  | cons a b =>
    cases b with
    | cons a' b => cases b; exact ⟨_, _, rfl, a, a'⟩
def rLen (K : PySem.W.Frag) : List V → Hp → VK → Prop := fun xs H Q => ∃ p ys, xs = [.ref p] ∧ (SqL K H p ys ∨ SqT K H p ys) ∧ Q (.int ys.length) H
theorem d_lenT (h : Ev c te Γ k (.tuple ds)) : Ev c (tCB (rLen c.K) (tCons te tNil)) Γ .v (.int ds.length) :=
  d_cb (a_cons h a_nil) fun H O vs Q s q => by
    obtain ⟨x, rfl, b⟩ := s.one
    obtain ⟨p, xs, rfl, s, al⟩ := b.tup'
    exact ⟨p, xs, rfl, .inr s.sq, by rw [al.len]; exact q _ H Rr.rf (.int _)⟩
theorem d_lenL (h : Ev c te Γ k (.list ds)) : Ev c (tCB (rLen c.K) (tCons te tNil)) Γ .v (.int ds.length) :=
  d_cb (a_cons h a_nil) fun H O vs Q s q => by
    obtain ⟨x, rfl, b⟩ := s.one
    obtain ⟨p, xs, rfl, _, s, al⟩ := b.lst'
    exact ⟨p, xs, rfl, .inl s, by rw [al.len]; exact q _ H Rr.rf (.int _)⟩
theorem d_all {bs : List Bool} (h : Ev c te Γ k (.list (bs.map .bool))) : Ev c (tCB (rAll c.K) (tCons te tNil)) Γ .v (.bool (bs.all id)) :=
  d_cb (a_cons h a_nil) fun H O vs Q s q => by
    obtain ⟨x, rfl, b⟩ := s.one
    obtain ⟨p, xs, rfl, _, s, al⟩ := b.lst'
    have := al.bools
    subst this
    exact ⟨p, bs, rfl, s, q _ H Rr.rf (.bl _)⟩
theorem n_tuple {P : List PyData → Prop} (h : EvN c te Γ k (fun d => ∃ ds, d = .list ds ∧ P ds)) (hf : ∀ ds, P ds → flatAll ds = true) : EvN c (tCB (rTuple c.K) (tCons te tNil)) Γ .v (fun d => ∃ ds, d = .tuple ds ∧ P ds) := fun H0 O H σ e Q q =>
  h H0 O H σ e _ fun v d H1 ⟨ds, hd, pd⟩ r s => by
    subst hd
    obtain ⟨p, xs, rfl, _, sl, al⟩ := (Res.bo e s).lst'
    refine ⟨p, xs, rfl, .inl ⟨sl, newTk (c := c) fun p' H2 hp sm tp => q _ (.tuple ds) H2 ⟨ds, rfl, pd⟩ (r.tr (Rr.same sm)) ?_⟩⟩
    have r2 : Rr c H H2 := r.tr (Rr.same sm)
    exact .tup (tpN_mns e r2 tp) ((al.same sm).flatTo (fun a xs s => sqT_mns (fun b hb => (e.on r2).dm b hb) s) (hf ds pd))
theorem d_tuple (h : Ev c te Γ k (.list ds)) (hf : flatAll ds = true) : Ev c (tCB (rTuple c.K) (tCons te tNil)) Γ .v (.tuple ds) :=
  ((n_tuple (P := fun es => es = ds) (h.n.imp fun d hd => ⟨ds, hd, rfl⟩) fun es he => he ▸ hf).imp fun d ⟨es, h1, h2⟩ => by rw [h1, h2]).det
end Lm


namespace Lm
open PySem PySem.Spec PyProof.Rows L2
variable {c : Ct} {H H' H0 H1 H2 H3 : Hp} {O : List Addr} {σ : L2.St} {Γ Γ' Γ1 : List (Option Rs)}
variable {te ta tb tx tl : TE} {tt tu : TT} {tr : TA} {k ka kb : Kd} {d x y z : PyData} {i j : Int} {a b : Bool} {kv fz : Bool} {ds es : List PyData}

/-! ### promises of defs over data -/
abbrev pc (K : PySem.W.Frag) : Ct := ⟨K, none⟩
/-- args, how the answer is held, the answer -/
abbrev Pre := List PyData → Kd → PyData → Prop
def spD (K : PySem.W.Frag) (pre : Pre) : Sp := fun vs H Q _ => ∃ ds k d, BoAll (pc K) H vs ds ∧ pre ds k d ∧ ∀ v H', Same H H' → Rt (pc K) H H' v d k → Q v H'
/-- with the stream first: one of several answers -/
abbrev PreS := List PyData → Kd → (PyData → Prop) → Prop
abbrev sc (K : PySem.W.Frag) (st l : Addr) : Ct := ⟨K, some (st, l)⟩
def spS (K : PySem.W.Frag) (pre : PreS) : Sp := fun vs H Q _ => ∃ st l vs' ds k P, vs = .ref st :: vs' ∧ Str1 K st l H ∧ BoAll (sc K st l) H vs' ds ∧ pre ds k P ∧ ∀ v d H', P d → Rr (sc K st l) H H' → Rt (sc K st l) H H' v d k → Q v H'
mutual
theorem Fo.ct {c' : Ct} (hk : c'.K = c.K) : ∀ {v : V} {d : PyData} {fp : List Addr}, Fo c H v d fp → Fo c' H v d fp
  | _, _, _, .leaf q b => .leaf q (b.flat hk q)
  | _, _, _, .lst e a => .lst e (FoAll.ct hk a)
theorem FoAll.ct {c' : Ct} (hk : c'.K = c.K) : ∀ {v : List V} {d : List PyData} {fp : List Addr}, FoAll c H v d fp → FoAll c' H v d fp
  | _, _, _, .nil => .nil
  | _, _, _, .cons a b => .cons (Fo.ct hk a) (FoAll.ct hk b)
end
theorem Rt.res {v : V} (e : Env c H0 O H σ Γ) (r : Rr c H H2) (h : Rt c H H2 v d k) : Res c O H H2 v d k := by
  cases k with
  | v => exact Bo.flatM e r h.1 h.2
  | o => exact h
  | b => exact h.2
theorem d_call {pre : Pre} {E : XK} (h : EvA c tr Γ false ds) (hp : pre ds k d) : Ev c (tCall (spD c.K pre) [] E tr) Γ k d := fun H0 O H σ e Q q =>
  h H0 O H σ e _ fun vs H1 r s => by
    refine ⟨ds, k, d, by rw [List.append_nil]; exact s.pure, hp, fun v H2 sm rt => q v H2 (r.tr (Rr.same sm)) ?_⟩
    have r2 : Rr c H H2 := r.tr (Rr.same sm)
    cases k with
    | v => exact (Bo.flat (c := pc c.K) (c' := c) rfl rt.1 rt.2).flatM e r2 rt.1
    | o =>
      obtain ⟨fp, f, nd, new⟩ := rt
      exact ⟨fp, Fo.ct (c := pc c.K) (c' := c) rfl f, nd, fun a ha => r.back e.jH (new a ha)⟩
    | b => obtain ⟨⟨_, e⟩, _⟩ := rt; exact nomatch e
theorem n_call {pre : PreS} {E : XK} {st l : Addr} {P : PyData → Prop} {n : Nat} (hc : c.so = some (st, l)) (hst : Γ[n]? = some (some (.r (.ref st)))) (h : EvA c tr Γ false ds) (hp : pre ds k P) :
    EvN c (tCall (spS c.K pre) [] E (tCons (tVar n) tr)) Γ k P := fun H0 O H σ e Q q => by
  have hcc : c = sc c.K st l := by cases c; cases hc; rfl
  refine ⟨_, e.slotR hst, h H0 O H σ e _ fun vs H1 r s => ?_⟩
  refine ⟨st, l, vs, ds, k, P, by simp, (e.on r).jH st l hc, by rw [← hcc]; exact s, hp, fun v d H2 pd r2 rt => ?_⟩
  rw [← hcc] at r2 rt
  refine q v d H2 pd (r.tr r2) ?_
  exact (Rt.res (e.on r) r2 rt).back e r
/-! ### a def's body -/
def argsG (ds : List PyData) (n : Nat) : List (Option Rs) := ds.map (fun d => some (.v d)) ++ List.replicate (n - ds.length) none
theorem reps_none {O : List Addr} : ∀ n : Nat, Reps c O H (List.replicate n none) (List.replicate n none) []
  | 0 => .nil
  | n + 1 => .cons (f := []) (fs := []) rfl (reps_none n)
theorem reps_args {O : List Addr} {rest : L2.St} {restG : List (Option Rs)} (hr : Reps c O H rest restG []) : ∀ {vs : List V} {ds : List PyData}, BoAll c (mns H O) vs ds → Reps c O H (vs.map some ++ rest) (ds.map (fun d => some (.v d)) ++ restG) []
  | _, _, .nil => hr
  | _, _, .cons a b => .cons (f := []) (fs := []) ⟨rfl, _, rfl, a⟩ (reps_args hr b)
theorem env_args {N : List Str} {vs : List V} (j : Ji c H) (h : BoAll c H vs ds) : Env c H [] H (start N vs) (argsG ds N.length) := by
  refine ⟨Rr.same (by rw [mns_nil]; exact Same.refl _), by rw [mns_nil]; exact j, (fun _ h => nomatch h), (fun _ h => nomatch h), [], ?_, List.nodup_nil, (fun _ h => nomatch h)⟩
  unfold L2.start argsG
  rw [h.len]
  exact reps_args (reps_none _) (by rw [mns_nil]; exact h)
theorem Ji.pc {K : PySem.W.Frag} {H : Hp} : Ji (pc K) H := fun _ _ e => nomatch e
/-- the body of a def without the stream -/
theorem run_pure {K : PySem.W.Frag} {N : List Str} {t : TS} {pre : Pre} {vs : List V} {Q : VK} {E : XK} (hs : ∀ ds k d, pre ds k d → Sd (pc K) t (argsG ds N.length) (fun o => o = .rt k d ∨ (k = .v ∧ d = .none ∧ ∃ Γ, o = .nx Γ)))
    (h : spD K pre vs H Q E) : t { nx := fun _ H' => Q .non H', rt := Q } (start N vs) H := by
  obtain ⟨ds, k, d, hb, hp, hq⟩ := h
  have sm : ∀ H', Rr (Lm.pc K) H H' → Same H H' := fun H' r a o z => r.1 a o (fun _ _ e => nomatch e) z
  refine hs ds k d hp H [] H (start N vs) _ (env_args Ji.pc hb) fun o po => ?_
  rcases po with rfl | ⟨rfl, rfl, Γ, rfl⟩
  · exact fun v H' r rt => hq v H' (sm H' r) rt
  · intro O H' σ e
    exact hq .non H' (sm H' (e.r0.tr (Rr.same mns_same))) ⟨rfl, .non⟩
theorem spD_len {K : PySem.W.Frag} {pre : Pre} {vs : List V} {Q : VK} {E : XK} {n : Nat} (h : spD K pre vs H Q E) (hl : ∀ ds k d, pre ds k d → ds.length = n) : vs.length = n := by
  obtain ⟨ds, k, d, hb, hp, _⟩ := h
  rw [hb.len, hl ds k d hp]
/-- the body of a def with the stream first -/
theorem run_str {K : PySem.W.Frag} {N : List Str} {t : TS} {pre : PreS} {vs : List V} {Q : VK} {E : XK}
    (hs : ∀ st l ds k P, pre ds k P → Sd (sc K st l) t (some (.r (.ref st)) :: (ds.map (fun d => some (.v d)) ++ List.replicate (N.length - (ds.length + 1)) none)) (fun o => ∃ d, o = .rt k d ∧ P d))
    (h : spS K pre vs H Q E) : t { nx := fun _ H' => Q .non H', rt := Q } (start N vs) H := by
  obtain ⟨st, l, vs', ds, k, P, rfl, hst, hb, hp, hq⟩ := h
  have j : Ji (sc K st l) H := fun st' l' e => by cases e; exact hst
  refine hs st l ds k P hp H [] H (start N (.ref st :: vs')) _ ⟨Rr.same (by rw [mns_nil]; exact Same.refl _), by rw [mns_nil]; exact j, (fun _ h => nomatch h), (fun _ h => nomatch h), [], ?_, List.nodup_nil, (fun _ h => nomatch h)⟩ fun o po => ?_
  · unfold L2.start
    have : (V.ref st :: vs').length = ds.length + 1 := by simp [hb.len]
    rw [this]
    exact .cons (f := []) (fs := []) ⟨rfl, rfl⟩ (reps_args (reps_none _) (by rw [mns_nil]; exact hb))
  · obtain ⟨d, rfl, pd⟩ := po
    exact fun v H' r rt => hq v d H' pd r rt
theorem spS_len {K : PySem.W.Frag} {pre : PreS} {vs : List V} {Q : VK} {E : XK} {n : Nat} (h : spS K pre vs H Q E) (hl : ∀ ds k P, pre ds k P → ds.length + 1 = n) : vs.length = n := by
  obtain ⟨st, l, vs', ds, k, P, rfl, _, hb, hp, _⟩ := h
  simp [hb.len, hl ds k P hp]
/-- what a caller knows of a def: where it stands, what it promises -/
structure Cal (P : Program) (w : World) (K : PySem.W.Frag) (mg : Str → Option Value) (base : Heap) (CX : CXT) (k : Nat) (x : Str) (ps : List Str) (sp : Sp) : Prop where
  ok : ∃ f fd, FnOk P w K mg base CX k f fd ps sp ∧ mg x = some (.ref f) ∧ PySem.W.keepIn K (.ref f) = true ∧ Binds K fd ps []
section
variable {X : Cx}
theorem pe_cal {CX : CXT} {E : XK} {k : Nat} {x : Str} {ps : List Str} {sp : Sp} {p pos : Pos} {e : Expr} {es : List Expr} {t : TA} (F : Cal X.prog X.w X.K X.mg X.base CX k x ps sp) (hr : Room k X.A) (hg : Gl X x) (hx : Passes CX X E) (ha : PA X (e :: es) t)
    (hdb : (x == ("__debug__" : Str)) = false := by decide) (he : starEach (e :: es) X.env = (false, eval e X.env) :: starEach es X.env := by rfl) (hpl : (backTo pos (starEach es X.env)).any (·.1) = false := by rfl) :
    PE X (.Call (.Name x p) (e :: es) [] pos) (tCall sp [] E t) := by
  obtain ⟨f, fd, F1, F2, F3, F4⟩ := F.ok
  exact pe_call F1 hr hg F2 F3 F4 .nil hx ha hdb he hpl
end
/-! ### methods of tuples -/
end Lm


namespace Lm
open PySem PySem.Spec PyProof.Rows L2
section
variable {X : Cx}
/-! ### rules that serve several kinds of values: the derivation need not know which -/
def rAddA (K : PySem.W.Frag) : R2 := fun x y H Q => rI0 (fun i j => .int (i + j)) x y H Q ∨ rCatN K x y H Q ∨ rCat x y H Q
theorem op_addA : OpR X (binaryOp .Add) (rAddA X.K) := op_add.or (op_catN.or op_cat)
def rMulA : R2 := fun x y H Q => rI CMul (fun i j => .int (i * j)) x y H Q ∨ rRep x y H Q
theorem op_mulA : OpR X (binaryOp .Mult) rMulA := op_mul.or op_rep
def rEqA (K : PySem.W.Frag) : R2 := fun x y H Q => rEq x y H Q ∨ rEqD K x y H Q
theorem op_eqA (hu : X.A.units + 64 < cLine) : OpR X (compareOp .Eq) (rEqA X.K) := op_eq.or (op_eqD hu)
def rNeA (K : PySem.W.Frag) : R2 := fun x y H Q => rNe x y H Q ∨ rNeD K x y H Q
theorem op_neA (hu : X.A.units + 64 < cLine) : OpR X (compareOp .NotEq) (rNeA X.K) := op_ne.or (op_neD hu)
def iSeq (K : PySem.W.Frag) (tl : TE) : TI := fun σ H R => iList K tl σ H R ∨ iTup K tl σ H R
theorem pi_seq {e tg : Expr} {tl : TE} (h : PE X e tl) : PI X tg e (iSeq X.K tl) := by
  refine ⟨fun pins s σ H R I q => ?_⟩
  rcases q with q | q
  · exact (pi_list h).run pins s σ H R I q
  · exact (pi_tup h).run pins s σ H R I q
def rUnits {k : Nat} {A : Around} (hr : Room k A) : A.units + 64 < cLine := by have := hr.un; omega
end
variable {c : Ct} {H H' H0 H1 H2 H3 : Hp} {O : List Addr} {σ : L2.St} {Γ Γ' Γ1 : List (Option Rs)}
variable {te ta tb tx tl : TE} {tt tu : TT} {tr : TA} {k ka kb kc : Kd} {d x y z : PyData} {i j : Int} {a b : Bool} {kv fz : Bool} {ds es : List PyData}
theorem e_add (ha : Ev c ta Γ ka (.int i)) (hb : Ev c tb Γ kb (.int j)) : Ev c (tOp (rAddA c.K) ta tb) Γ .v (.int (i + j)) :=
  d_bin ha hb fun H O v u Q bv bu q => .inl ⟨i, j, bv.int', bu.int', q _ H Rr.rf (.int _)⟩
theorem e_eqI (ha : Ev c ta Γ ka (.int i)) (hb : Ev c tb Γ kb (.int j)) : Ev c (tOp (rEqA c.K) ta tb) Γ .v (.bool (decide (i = j))) :=
  d_bin ha hb fun H O v u Q bv bu q => .inl ⟨by rw [bv.int', bu.int']; rfl, by rw [bv.int', bu.int', decI]; exact q _ H Rr.rf (.bl _)⟩
theorem e_neI (ha : Ev c ta Γ ka (.int i)) (hb : Ev c tb Γ kb (.int j)) : Ev c (tOp (rNeA c.K) ta tb) Γ .v (.bool (!decide (i = j))) :=
  d_bin ha hb fun H O v u Q bv bu q => .inl ⟨by rw [bv.int', bu.int']; rfl, by rw [bv.int', bu.int', decI]; exact q _ H Rr.rf (.bl _)⟩
theorem e_eqD (ha : Ev c ta Γ ka x) (hb : Ev c tb Γ kb y) (hx : SeqAt.shaped x = true) (hy : SeqAt.shaped y = true) : Ev c (tOp (rEqA c.K) ta tb) Γ .v (.bool (PyData.eqv x y)) :=
  d_bin ha hb fun H O v u Q bv bu q => .inr ⟨x, y, bv.dp, bu.dp, hx, hy, q _ H Rr.rf (.bl _)⟩
theorem e_neD (ha : Ev c ta Γ ka x) (hb : Ev c tb Γ kb y) (hx : SeqAt.shaped x = true) (hy : SeqAt.shaped y = true) : Ev c (tOp (rNeA c.K) ta tb) Γ .v (.bool (!PyData.eqv x y)) :=
  d_bin ha hb fun H O v u Q bv bu q => .inr ⟨x, y, bv.dp, bu.dp, hx, hy, q _ H Rr.rf (.bl _)⟩
theorem e_ixT (ha : Ev c ta Γ ka (.tuple ds)) (hb : Ev c tb Γ kb (.int i)) (he : atI ds i = some d) (hf : flatD d = true) : Ev c (tOp (rIx c.K) ta tb) Γ .v d := fun H0 O H σ e Q q =>
  ha H0 O H σ e _ fun v H1 r1 s1 => hb H0 O H1 σ (e.on r1) _ fun u H2 r2 s2 => by
    obtain ⟨p, xs, rfl, s, al⟩ := (Res.bo e (Res.on e r1 r2 s1)).tup'
    obtain ⟨x, hx, bx⟩ := atI_bo al he
    exact .inr (.inl ⟨p, xs, i, x, rfl, (Res.bo (e.on r1) s2).int', s.sq, hx, q x H2 (r1.tr r2) (Bo.flatM e (r1.tr r2) hf bx)⟩)
theorem e_ixL (ha : Ev c ta Γ ka (.list ds)) (hb : Ev c tb Γ kb (.int i)) (he : atI ds i = some d) (hf : flatD d = true) : Ev c (tOp (rIx c.K) ta tb) Γ .v d := fun H0 O H σ e Q q =>
  ha H0 O H σ e _ fun v H1 r1 s1 => hb H0 O H1 σ (e.on r1) _ fun u H2 r2 s2 => by
    obtain ⟨p, xs, rfl, _, s, al⟩ := (Res.bo e (Res.on e r1 r2 s1)).lst'
    obtain ⟨x, hx, bx⟩ := atI_bo al he
    exact .inl ⟨p, xs, i, x, rfl, (Res.bo (e.on r1) s2).int', s, hx, q x H2 (r1.tr r2) (Bo.flatM e (r1.tr r2) hf bx)⟩
/-- an item of a frozen tuple, whatever it is -/
theorem e_ixTv (ha : Ev c ta Γ .v (.tuple ds)) (hb : Ev c tb Γ kb (.int i)) (he : atI ds i = some d) : Ev c (tOp (rIx c.K) ta tb) Γ .v d := fun H0 O H σ e Q q =>
  ha H0 O H σ e _ fun v H1 r1 s1 => hb H0 O H1 σ (e.on r1) _ fun u H2 r2 s2 => by
    obtain ⟨p, xs, rfl, s, al⟩ := Bo.tup' (Res.on e r1 r2 s1)
    obtain ⟨x, hx, bx⟩ := atI_bo al he
    exact .inr (.inl ⟨p, xs, i, x, rfl, (Res.bo (e.on r1) s2).int', (sqT_same mns_same s).sq, hx, q x H2 (r1.tr r2) bx⟩)
theorem e_ixLv (ha : Ev c ta Γ .v (.list ds)) (hb : Ev c tb Γ kb (.int i)) (he : atI ds i = some d) : Ev c (tOp (rIx c.K) ta tb) Γ .v d := fun H0 O H σ e Q q =>
  ha H0 O H σ e _ fun v H1 r1 s1 => hb H0 O H1 σ (e.on r1) _ fun u H2 r2 s2 => by
    obtain ⟨p, xs, rfl, _, s, al⟩ := Bo.lst' (Res.on e r1 r2 s1)
    obtain ⟨x, hx, bx⟩ := atI_bo al he
    exact .inl ⟨p, xs, i, x, rfl, (Res.bo (e.on r1) s2).int', mns_same.seq s, hx, q x H2 (r1.tr r2) bx⟩
/-- a < b < c of ints -/
theorem d_chain {f g : Int → Int → Bool} {l : Int} (ha : Ev c ta Γ ka (.int i)) (hb : Ev c tb Γ kb (.int j)) (hc : f i j = true → Ev c tx Γ kc (.int l)) :
    Ev c (tChain (rI0 fun i j => .bl (f i j)) (rI0 fun i j => .bl (g i j)) ta tb tx) Γ .v (.bool (f i j && g j l)) := fun H0 O H σ e Q q =>
  ha H0 O H σ e _ fun v H1 r1 s1 => hb H0 O H1 σ (e.on r1) _ fun u H2 r2 s2 => by
    refine ⟨i, j, (Res.bo e s1).int', (Res.bo (e.on r1) s2).int', f i j, rfl, ?_⟩
    cases hf : f i j with
    | true =>
      refine iteT (hc hf H0 O H2 σ ((e.on r1).on r2) _ fun w H3 r3 s3 => ?_)
      exact ⟨j, l, (Res.bo (e.on r1) s2).int', (Res.bo ((e.on r1).on r2) s3).int', by
        have := q (.bl (g j l)) H3 ((r1.tr r2).tr r3)
        rw [hf, Bool.true_and] at this
        exact this (.bl _)⟩
    | false =>
      refine iteF ?_
      have := q (.bl false) H2 (r1.tr r2)
      rw [hf, Bool.false_and] at this
      exact this (.bl _)
/-! ### isinstance -/
def tyD : PyData → String
  | .none => "NoneType"
  | .bool _ => "bool"
  | .int _ => "int"
  | .str _ => "str"
  | .list _ => "list"
  | .tuple _ => "tuple"
  | .dict _ => "dict"
theorem Bo.ty {v : V} (h : Bo c H v d) : TyX c.K H v (.type (tyD d)) := by
  cases h with
  | non => exact .base .non
  | bl b => exact .base (.bl b)
  | int i => exact .base (.int i)
  | str x => exact .base (.str x)
  | lst _ s a =>
    rcases s with (s | ⟨o, s⟩) | ⟨o, its, n, h1, h2, _⟩
    · exact .base (.lst s)
    · exact .base (.frz s)
    · exact .kList h1 h2
  | tup s a =>
    rcases s with ⟨o, _, s⟩ | ⟨o, its, n, h1, h2, _⟩
    · exact .fTuple s
    · exact .kTuple h1 h2
theorem e_isi {n : String} (h : Ev c te Γ k d) (e : kitB (tyD d) n = some b) : Ev c (tCB (rIsi c.K) (tCons te (tCons (tC (.ty n)) tNil))) Γ .v (.bool b) := fun H0 O H σ en Q q =>
  h H0 O H σ en _ fun v H1 r1 s1 => ⟨v, .ty n, _, _, b, rfl, .ty n, (Res.bo en s1).ty, kit_ty e, q _ H1 r1 (.bl b)⟩
/-! ### what is walked -/
theorem i_seqL (h : Ev c tl Γ k (.list ds)) (hk : k ≠ .b) : EvI c (iSeq c.K tl) Γ true (ds.map Im.d) := fun H0 O H σ e R q => .inl (i_list h hk H0 O H σ e R q)
theorem i_seqB (h : Ev c tl Γ k (.list ds)) (hf : flatAll ds = true) : EvI c (iSeq c.K tl) Γ false (ds.map Im.d) := fun H0 O H σ e R q => .inl (i_listB h hf H0 O H σ e R q)
theorem i_seqT (h : Ev c tl Γ k (.tuple ds)) (hk : k ≠ .b) : EvI c (iSeq c.K tl) Γ true (ds.map Im.d) := fun H0 O H σ e R q => .inr (i_tup h hk H0 O H σ e R q)
end Lm


namespace Lm
open PySem PySem.Spec PyProof.Rows L2
section
variable {prog : Program} {w : World} {A : Around} {E : Value → Shared → Prop} {s : Shared}
/-- iter(t), what it takes to walk t -/
theorem iterTup {a : Addr} {its : Array Value} {Q : Value → Shared → Prop} (ht : s.heap.IsTuple a its)
    (h : ∀ s2 : Shared, s2 = { s with heap := s.heap.push { cls := .type "tuple_iterator", data := .fields #[.ref a, .int 0 0] } } → s2.heap.IsTupleIter s.heap.objs.size a 0 ∧ s2.heap.IsTuple a its → (∀ b ∈ [s.heap.objs.size, a], b < s2.heap.objs.size) → a ≠ s.heap.objs.size →
      (∀ b o, s.heap.get? b = some o → b ∉ [s.heap.objs.size] ∧ s2.heap.get? b = some o) → Q (.ref s.heap.objs.size) s2) : wpAny (model prog w) A (pyIter (.ref a)) Q E s := by
  have hlt : a < s.heap.objs.size := let ⟨_, g, _⟩ := ht; Heap.lt_size g
  refine wpAny_pyIter_tuple ht (h _ rfl ⟨⟨_, Heap.get?_push_size _ rfl, rfl, rfl⟩, ht.at fun o q => Heap.get?_push_of_some _ q⟩ (fun b hb => ?_) (Nat.ne_of_lt hlt) fun b o q => ⟨by simpa using Nat.ne_of_lt (Heap.lt_size q), Heap.get?_push_of_some _ q⟩)
  show b < (s.heap.push _).objs.size
  rw [Heap.size_push]
  rcases List.mem_cons.mp hb with rfl | hb
  · exact Nat.lt_succ_self _
  · cases List.mem_singleton.mp hb
    exact Nat.lt_succ_of_lt hlt
theorem preSum_take (ns : List Int) : ∀ j, j ≤ ns.length → preSum (fun i => ns.getD i 0) j = (ns.take j).sum
  | 0, _ => rfl
  | j + 1, h => by
    have e : ns[j]? = some ns[j] := List.getElem?_eq_getElem h
    rw [preSum, preSum_take ns j (Nat.le_of_succ_le h), sum_take e, List.getD_eq_getElem?_getD, e]
    rfl
theorem callSumT {a : Addr} {its : Array Value} {ns : List Int} {Q : Value → Shared → Prop} (hh : A.handled = none) (ht : s.heap.IsTuple a its) (hi : IntsAre its.toList ns)
    (h : ∀ h' tk t', (∀ b o, s.heap.get? b = some o → h'.get? b = some o) → Q (.int ns.sum t') { s with heap := h', toks := tk }) : wpAny (model prog w) A (call (.builtin "sum") [.ref a]) Q E s := by
  have hsz : its.size = ns.length := by rw [← Array.length_toList]; exact hi.length
  refine call_sum_walkG (iterTup ht fun s2 e st hfp hne old => ?_)
  refine ⟨_, _, _, ns.length, _, _, fun i => ns.getD i 0, rfl, hsz ▸ Walks.tuple (A := A.in1) hh _ a hne its, st, hfp, fun i v q => ?_, fun h' tk t' hk => ?_⟩
  · have h1 : its.toList[i]? = some v := by simpa using q
    have hlt : i < ns.length := by rw [← hi.length]; exact (List.getElem?_eq_some_iff.mp h1).1
    obtain ⟨t, h2⟩ := hi.get i ns[i] (List.getElem?_eq_getElem hlt)
    rw [h1] at h2
    refine ⟨t, ?_⟩
    show v = Value.int (ns.getD i 0) t
    rw [List.getD_eq_getElem?_getD, List.getElem?_eq_getElem hlt]
    exact Option.some.inj h2
  · rw [preSum_take ns _ (Nat.le_refl _), List.take_length]
    subst e
    exact h h' tk t' fun b o q => hk b o (old b o q).1 (old b o q).2
end
def rSumT (K : PySem.W.Frag) : List V → Hp → VK → Prop := fun vs H Q => ∃ (a : Addr) (ns : List Int), vs = [V.ref a] ∧ SqT K H a (ns.map V.int) ∧ Q (.int ns.sum) H
def rSumA (K : PySem.W.Frag) : List V → Hp → VK → Prop := fun vs H Q => rSum K vs H Q ∨ rSumT K vs H Q
section
variable {X : Cx}
theorem cr_sumT (hc : X.calm = true) : CallR X (.builtin "sum") (rSumT X.K) := by
  rintro pins s σ H vs us Q I r ⟨a, ns, rfl, hs, q⟩
  obtain ⟨its, rv, p, _⟩ := I.tuple hs
  rw [Vals.ref1 r]
  exact callSumT (I.ok.hd hc) (show s.heap.IsTuple a its.toArray from p) rv.ints fun h' tk t' hk => ⟨.int _, H, I.kept hk, ⟨_, rfl⟩, q⟩
theorem cr_sumA (hc : X.calm = true) : CallR X (.builtin "sum") (rSumA X.K) := (cr_sum hc).or (cr_sumT hc)
theorem cr_len : CallR X (.builtin "len") (rLen X.K) := call_len_seq
/-- a module's int -/
theorem pe_const {x : Str} {n : Int} {pos : Pos} (hg : Gl X x) (hm : ∃ t, X.mg x = some (.int n t)) (hd : (x == ("__debug__" : Str)) = false := by decide) : PE X (.Name x pos) (tC (.int n)) := by
  obtain ⟨t, h⟩ := hm
  exact pe_glob hg h ⟨t, rfl⟩ hd
/-- a built-in class as a value -/
theorem pe_ty {x : Str} {n : String} {pos : Pos} (hg : Gl X x) (hm : X.mg x = none) (hv : bootBuiltins x = some (.type n)) (hn : x ≠ "__name__" := by decide) (hd : (x == ("__debug__" : Str)) = false := by decide) : PE X (.Name x pos) (tC (.ty n)) :=
  pe_bltn hg hm hv rfl hn hd
/-- list(x) -/
def rListA (K : PySem.W.Frag) : List V → Hp → VK → Prop := fun xs H Q => ∃ p ys, xs = [.ref p] ∧ (SqL K H p ys ∨ SqT K H p ys) ∧ ∀ l, H l = none → Q (.ref l) (upd H l (.lst ys))
theorem cr_list : CallR X (.type "list") (rListA X.K) := call_list_of
end
variable {c : Ct} {H H' H0 H1 H2 H3 : Hp} {O : List Addr} {σ : L2.St} {Γ Γ' Γ1 : List (Option Rs)}
variable {te ta tb tx tl : TE} {tt tu : TT} {tr : TA} {k ka kb kc : Kd} {d x y z : PyData} {i j : Int} {a b : Bool} {kv fz : Bool} {ds es : List PyData}
theorem e_sumT {ns : List Int} (h : Ev c te Γ k (.tuple (ns.map .int))) : Ev c (tCB (rSumA c.K) (tCons te tNil)) Γ .v (.int ns.sum) :=
  d_cb (a_cons h a_nil) fun H O vs Q s q => by
    obtain ⟨x, rfl, b⟩ := s.one
    obtain ⟨p, xs, rfl, s, al⟩ := b.tup'
    have := al.ints
    subst this
    exact .inr ⟨p, ns, rfl, s.sq, q _ H Rr.rf (.int _)⟩
theorem e_sumL {ns : List Int} (h : Ev c te Γ k (.list (ns.map .int))) : Ev c (tCB (rSumA c.K) (tCons te tNil)) Γ .v (.int ns.sum) :=
  d_cb (a_cons h a_nil) fun H O vs Q s q => by
    obtain ⟨x, rfl, b⟩ := s.one
    obtain ⟨p, xs, rfl, _, s, al⟩ := b.lst'
    have := al.ints
    subst this
    exact .inl ⟨p, ns, rfl, s, q _ H Rr.rf (.int _)⟩
theorem e_listT (h : Ev c te Γ k (.tuple ds)) (hf : flatAll ds = true) : Ev c (tCB (rListA c.K) (tCons te tNil)) Γ .o (.list ds) := fun H0 O H σ e Q q =>
  h H0 O H σ e _ fun v H1 r s => by
    obtain ⟨p, xs, rfl, sl, al⟩ := (Res.bo e s).tup'
    refine ⟨p, xs, rfl, .inr sl.sq, fun l hl => ?_⟩
    have sm : Same H1 (upd H1 l (.lst xs)) := fun b u z => by rw [upd_ne (ne_of_none z hl)]; exact z
    exact q _ _ (r.tr (Rr.same sm)) ⟨[l], .lst upd_same (FoAll.leaves hf (al.same sm)), by simp, fun a ha => by
      cases List.mem_singleton.mp ha
      exact r.back e.jH hl⟩
end Lm
namespace Lm
open PySem PySem.Spec PyProof.Rows L2
variable {c : Ct} {Γ : List (Option Rs)} {te : TE} {tt : TT} {fz : Bool} {α : Type} {wi : TI} {g : TG} {vs : List Nat} {l : List α} {en : α → Im}
theorem d_lcB (m : α → Bool) (hi : EvI c wi Γ fz (l.map en)) (hl : l.length ≤ 1000000)
    (hb : ∀ a ∈ l, ∃ Γ' js, EvG c g (en a) (wipeG Γ vs) Γ' js ∧ (∀ j ∈ js, j ∈ vs) ∧ ∃ k, Ev c te Γ' k (.bool (m a))) : Ev c (tLc wi g tYes te vs) Γ .o (.list ((l.map m).map .bool)) := by
  have := d_lcA (te := te) (g := g) (vs := vs) (fun a => PyData.bool (m a)) hi hl fun a ha => by
    obtain ⟨Γ', js, h1, h2, k, h3⟩ := hb a ha
    exact ⟨Γ', js, h1, h2, h3.fo rfl⟩
  rw [List.map_map]
  exact this
theorem d_lcI (m : α → Int) (hi : EvI c wi Γ fz (l.map en)) (hl : l.length ≤ 1000000)
    (hb : ∀ a ∈ l, ∃ Γ' js, EvG c g (en a) (wipeG Γ vs) Γ' js ∧ (∀ j ∈ js, j ∈ vs) ∧ ∃ k, Ev c te Γ' k (.int (m a))) : Ev c (tLc wi g tYes te vs) Γ .o (.list ((l.map m).map .int)) := by
  have := d_lcA (te := te) (g := g) (vs := vs) (fun a => PyData.int (m a)) hi hl fun a ha => by
    obtain ⟨Γ', js, h1, h2, k, h3⟩ := hb a ha
    exact ⟨Γ', js, h1, h2, h3.fo rfl⟩
  rw [List.map_map]
  exact this
end Lm
namespace Lm
open PySem
theorem flatT (ns : List Int) : flatD (.tuple (ns.map .int)) = true := flatAll_ints ns
end Lm
namespace Lm
open PySem PySem.Spec PyProof.Rows L2
end Lm
namespace Lm
open PySem PySem.Spec PyProof.Rows L2
def imI (n : Int) : Im := .d (.int n)
theorem i_seqTI {c : Ct} {Γ : List (Option Rs)} {tl : TE} {k : Kd} {ns : List Int} (h : Ev c tl Γ k (.tuple (ns.map .int))) (hk : k ≠ .b) : EvI c (iSeq c.K tl) Γ true (ns.map imI) := by
  have := i_seqT h hk
  rwa [List.map_map] at this
theorem kv_ne : Kd.v ≠ Kd.b := fun h => nomatch h
theorem ko_ne : Kd.o ≠ Kd.b := fun h => nomatch h
end Lm


/-! the rules, the written part given by name (within a comprehension's block it may not be read off the context) -/
namespace Lm
open PySem PySem.Spec PyProof.Rows L2
section
variable {X : Cx} {K : PySem.W.Frag} (hK : X.K = K)
include hK
theorem k_add : OpR X (binaryOp .Add) (rAddA K) := hK ▸ op_addA
theorem k_eq (hu : X.A.units + 64 < cLine) : OpR X (compareOp .Eq) (rEqA K) := hK ▸ op_eqA hu
theorem k_ne (hu : X.A.units + 64 < cLine) : OpR X (compareOp .NotEq) (rNeA K) := hK ▸ op_neA hu
theorem k_ix : IxR X (rIx K) := hK ▸ ix_seq
theorem k_slT : SlR X (rSlN K) := hK ▸ sl_tupN
theorem k_isi : CallR X (.builtin "isinstance") (rIsi K) := hK ▸ call_isi
theorem k_len : CallR X (.builtin "len") (rLen K) := hK ▸ cr_len
theorem k_all (hc : X.calm = true) : CallR X (.builtin "all") (rAll K) := hK ▸ cr_all hc
theorem k_sum (hc : X.calm = true) : CallR X (.builtin "sum") (rSumA K) := hK ▸ cr_sumA hc
theorem k_tuple : CallR X (.type "tuple") (rTuple K) := hK ▸ cr_tuple
theorem k_list : CallR X (.type "list") (rListA K) := hK ▸ cr_list
theorem k_seq {e tg : Expr} {tl : TE} (h : PE X e tl) : PI X tg e (iSeq K tl) := hK ▸ pi_seq h
theorem k_zip {e e2 : Expr} {ta : TA} {p pos tpos : Pos} {elts : List Expr} {kk : Nat} (hg : Gl X "zip") (hm : X.mg "zip" = none) (ha : PA X [e, e2] ta)
    (hs : starEach [e, e2] X.env = (false, eval e X.env) :: starEach [e2] X.env := by rfl) (hpl : (backTo pos (starEach [e2] X.env)).any (·.1) = false := by rfl) :
    PI X (.Tuple elts kk tpos) (.Call (.Name "zip" p) [e, e2] [] pos) (RZ.iZipA K ta) := hK ▸ RZ.pi_zipA hg hm ha hs hpl
theorem k_tup {es : List Expr} {k : Nat} {t : TGs} {n : Nat} {pos : Pos} (hc : X.calm = true) (h : PGs X es t)
    (hn : (assignEach es X.env).length = n := by rfl) (hst : (assignEach es X.env).findIdx? (·.1) = none := by rfl) : PG X (.Tuple es k pos) (gTup K n t) := hK ▸ pg_tup hc h hn hst
theorem k_bm {T : String} {name : Str} {id : String} {r : V → List V → Hp → VK → Prop} {o e : Expr} {es : List Expr} {to : TE} {t : TA} {apos cpos : Pos} (pa : PlainAttrs T) (slot : Slot T name id) (hty : typeOf (.builtin id) = pure (.type "method_descriptor")) (hm : MtR X id r) (ho : PE X o to) (ha : PA X (e :: es) t)
    (hbase : attributeBase o name X.env (eval o X.env) = eval o X.env := by rfl)
    (hfew : ((backTo cpos (starEach (e :: es) X.env)).all (fun x => !x.1) && (backToKw cpos (keywordEach [] X.env)).all (fun x => x.1.isSome) && decide ((e :: es).length + ([] : List Keyword).length + (if ([] : List Keyword).isEmpty then 0 else 1) < 30)) = true := by rfl)
    (hline : (apos.endLine == cpos.line) = true := by rfl) (hs : starEach (e :: es) X.env = (false, eval e X.env) :: starEach es X.env := by rfl) (hplain : (backTo cpos (starEach es X.env)).any (·.1) = false := by rfl) :
    PE X (.Call (.Attribute o name apos) (e :: es) [] cpos) (tBM K T r to t) := hK ▸ pe_bm pa slot hty hm ho ha hbase hfew hline hs hplain
end
end Lm


/-! the law's own start and end -/
namespace Lm
open PySem PySem.Spec PyProof.Rows L2
variable {c : Ct} {H H' H0 H1 H2 H3 : Hp} {O : List Addr} {σ : L2.St} {Γ Γ' Γ1 : List (Option Rs)}
variable {te ta tb tx tl : TE} {tt tu : TT} {tr : TA} {k ka kb kc : Kd} {d x y z : PyData} {i j : Int} {a b : Bool} {kv fz : Bool} {ds es : List PyData}
/-- law's: a list of at most 63 ints is handed in, True comes out -/
def spLaw (K : PySem.W.Frag) : Sp := fun vs H Q _ => ∃ (a : Addr) (ns : List Int), vs = [.ref a] ∧ SqL K H a (ns.map V.int) ∧ ns.length ≤ 63 ∧ ∀ H', Q (.bl true) H'
def spStream (K : PySem.W.Frag) : Sp := fun vs H Q _ => ∃ (a : Addr) (ns : List Int), vs = [.ref a] ∧ SqL K H a (ns.map V.int) ∧ ns.length ≤ 63 ∧ ∀ st l H', Same H H' → H st = none → Str1 K st l H' → Q (.ref st) H'
theorem run_law {K : PySem.W.Frag} {N : List Str} {t : TS} {vs : List V} {Q : VK} {E E' : XK} (hN : 2 ≤ N.length)
    (hs : ∀ st l, Sd (sc K st l) t (none :: some (.r (.ref st)) :: List.replicate (N.length - 2) none) (fun o => o = .rt .v (.bool true))) (h : spLaw K vs H Q E) :
    tSeq (tAsg (tCall (spStream K) [] E' (tCons (tVar 0) tNil)) (gName 1)) t { nx := fun _ H' => Q .non H', rt := Q } (start N vs) H := by
  obtain ⟨a, ns, rfl, hS, hl, hq⟩ := h
  have es : start N [.ref a] = some (.ref a) :: List.replicate (N.length - 1) none := rfl
  rw [es]
  refine ⟨.ref a, rfl, a, ns, rfl, hS, hl, fun st l H1 sm hst str => ?_⟩
  have j : Ji (sc K st l) H1 := fun st' l' e => by cases e; exact str
  refine hs st l H1 [] H1 _ _ ⟨Rr.same (by rw [mns_nil]; exact Same.refl _), by rw [mns_nil]; exact j, (fun _ h => nomatch h), (fun _ h => nomatch h), [], ?_, List.nodup_nil, (fun _ h => nomatch h)⟩ fun o po => ?_
  · have e2 : List.replicate (N.length - 1) (none : Option V) = none :: List.replicate (N.length - 2) none := by
      have : N.length - 1 = (N.length - 2) + 1 := by omega
      rw [this, List.replicate_succ]
    rw [e2]
    exact .cons (f := []) (fs := []) rfl (.cons (f := []) (fs := []) ⟨rfl, rfl⟩ (reps_none _))
  · subst po
    intro v H' _ rt
    have := rt.2.bl'
    subst this
    exact hq H'
/-! one of several answers -/
theorem n_bin {r : R2} {Pa Pb P : PyData → Prop} (ha : EvN c ta Γ ka Pa) (hb : EvN c tb Γ kb Pb)
    (hr : ∀ x y, Pa x → Pb y → ∃ z, P z ∧ ∀ H O v u (Q : VK), Bo c H v x → Bo c H u y → (∀ v' H2, Rr c H H2 → Bo c (mns H2 O) v' z → Q v' H2) → r v u H Q) : EvN c (tOp r ta tb) Γ .v P := fun H0 O H σ e Q q =>
  ha H0 O H σ e _ fun v x H1 px r1 s1 => hb H0 O H1 σ (e.on r1) _ fun u y H2 py r2 s2 => by
    obtain ⟨z, pz, hz⟩ := hr x y px py
    exact hz H2 O v u Q (Res.bo e (Res.on e r1 r2 s1)) (Res.bo (e.on r1) s2) fun v' H3 r3 b => q v' z H3 pz ((r1.tr r2).tr r3) b
/-- some int with Q -/
abbrev SomeI (Q : Int → Prop) : PyData → Prop := fun d => ∃ n : Int, d = .int n ∧ Q n
theorem n_add {Qa Qb Q : Int → Prop} (ha : EvN c ta Γ ka (SomeI Qa)) (hb : EvN c tb Γ kb (SomeI Qb)) (h : ∀ m n, Qa m → Qb n → Q (m + n)) : EvN c (tOp (rAddA c.K) ta tb) Γ .v (SomeI Q) :=
  n_bin ha hb fun x y ⟨m, hm, qm⟩ ⟨n, hn, qn⟩ => ⟨.int (m + n), ⟨_, rfl, h m n qm qn⟩, fun H O v u Q bv bu q => by
    subst hm; subst hn
    exact .inl ⟨m, n, bv.int', bu.int', q _ H Rr.rf (.int _)⟩⟩
theorem Ev.sm {Q : Int → Prop} (h : Ev c te Γ k (.int i)) (q : Q i) : EvN c te Γ k (SomeI Q) := h.n.imp fun d e => ⟨i, e, q⟩
end Lm


/-! what the defs promise -/
namespace Lm
open PySem PySem.Spec PyProof.Rows L2
/-- is an int from lo to hi -/
def isIntD : PyData → Int → Int → Bool
  | .int i, lo, hi => decide (lo ≤ i) && decide (i ≤ hi)
  | _, _, _ => false
def isIntTy : PyData → Bool
  | .int _ => true
  | .bool _ => true
  | _ => false
def isBoolTy : PyData → Bool
  | .bool _ => true
  | _ => false
theorem kit_int (x : PyData) : kitB (tyD x) "int" = some (isIntTy x) := by cases x <;> (simp only [tyD, isIntTy, isBoolTy]; decide +kernel)
theorem kit_bool (x : PyData) : kitB (tyD x) "bool" = some (isBoolTy x) := by cases x <;> (simp only [tyD, isIntTy, isBoolTy]; decide +kernel)
def sp_is_integer (K : PySem.W.Frag) : Sp := spD K fun ds k d => ∃ x lo hi, ds = [x, .int lo, .int hi] ∧ k = .v ∧ d = .bool (isIntD x lo hi)


def sp_require (K : PySem.W.Frag) : Sp := spD K fun ds k d => ∃ nm, ds = [.bool true, .str nm] ∧ k = .v ∧ d = .none
/-- a tuple of ints from lo to hi -/
def areInts : PyData → Int → Int → Bool
  | .tuple ds, lo, hi => ds.all fun d => isIntD d lo hi
  | _, _, _ => false
def isTupTy : PyData → Bool
  | .tuple _ => true
  | _ => false
theorem kit_tuple (x : PyData) : kitB (tyD x) "tuple" = some (isTupTy x) := by cases x <;> (simp only [tyD, isTupTy]; decide +kernel)
/-- tuples are not too long -/
def SmallT (x : PyData) : Prop := ∀ es, x = .tuple es → es.length ≤ 1000000
def sp_are_integers (K : PySem.W.Frag) : Sp := spD K fun ds k d => ∃ x lo hi, ds = [x, .int lo, .int hi] ∧ SmallT x ∧ k = .v ∧ d = .bool (areInts x lo hi)
theorem isInt_int {d : PyData} {lo hi : Int} (h : isIntD d lo hi = true) : ∃ n, d = .int n ∧ lo ≤ n ∧ n ≤ hi := by
  cases d with
  | int i =>
    simp only [isIntD, Bool.and_eq_true, decide_eq_true_eq] at h
    exact ⟨i, rfl, h.1, h.2⟩
  | _ => simp [isIntD] at h
theorem areInts_ints {x : PyData} {lo hi : Int} (h : areInts x lo hi = true) : ∃ ns : List Int, x = .tuple (ns.map .int) ∧ ∀ n ∈ ns, lo ≤ n ∧ n ≤ hi := by
  cases x with
  | tuple ds =>
    have h' : (ds.all fun d => isIntD d lo hi) = true := h
    clear h
    induction ds with
    | nil => exact ⟨[], rfl, fun _ h => nomatch h⟩
    | cons d ds ih =>
      rw [List.all_cons, Bool.and_eq_true] at h'
      obtain ⟨n, rfl, h1, h2⟩ := isInt_int h'.1
      obtain ⟨ns, e, h3⟩ := ih h'.2
      refine ⟨n :: ns, by rw [PyData.tuple.inj e]; rfl, fun m hm => ?_⟩
      rcases List.mem_cons.mp hm with q | q
      · rw [q]; exact ⟨h1, h2⟩
      · exact h3 m q
  | _ => simp [areInts] at h
theorem areInts_of {ns : List Int} {lo hi : Int} (h : ∀ n ∈ ns, lo ≤ n ∧ n ≤ hi) : areInts (.tuple (ns.map .int)) lo hi = true := by
  show ((ns.map PyData.int).all fun d => isIntD d lo hi) = true
  rw [List.all_map, List.all_eq_true]
  intro n hn
  have := h n hn
  simp [isIntD, this.1, this.2]


def lenT : PyData → Nat
  | .tuple ds => ds.length
  | _ => 0
def intD : PyData → Int
  | .int i => i
  | _ => 0
def sumT : PyData → Int
  | .tuple ds => (ds.map intD).sum
  | _ => 0
theorem lenT_ints (ns : List Int) : lenT (.tuple (ns.map .int)) = ns.length := by simp [lenT]
theorem sumT_ints (ns : List Int) : sumT (.tuple (ns.map .int)) = ns.sum := by
  have : (intD ∘ PyData.int) = id := rfl
  simp [sumT, this]
def isAlloc (x : PyData) (n b : Int) : Bool := areInts x 0 b && (decide ((lenT x : Int) = n) && decide (sumT x = b))
def sp_is_allocation (K : PySem.W.Frag) : Sp := spD K fun ds k d => ∃ x n b, ds = [x, .int n, .int b] ∧ SmallT x ∧ k = .v ∧ d = .bool (isAlloc x n b)
def isBAsg (x : PyData) (v : Int) : Bool := areInts x 0 (v - 1) && decide ((lenT x : Int) ≤ 20)
def sp_is_bounded_assignment (K : PySem.W.Frag) : Sp := spD K fun ds k d => ∃ x v, ds = [x, .int v] ∧ SmallT x ∧ k = .v ∧ d = .bool (isBAsg x v)
def sp_check_assignment (K : PySem.W.Frag) : Sp := spD K fun ds k d => ∃ x nm, ds = [x, .str nm] ∧ SmallT x ∧ isBAsg x 5 = true ∧ k = .v ∧ d = .none
/-- how often each variant occurs -/
def countsI (ns : List Int) (v : Int) : List Int := (upI 0 v.toNat).map fun i => (ns.count i : Int)
/-- an assignment of at most 20 buckets to v variants -/
structure Asg (ns : List Int) (v : Int) : Prop where
  len : ns.length ≤ 20
  rng : ∀ n ∈ ns, 0 ≤ n ∧ n < v
theorem Asg.bAsg {ns : List Int} {v w : Int} (h : Asg ns v) (hw : v ≤ w) : isBAsg (.tuple (ns.map .int)) w = true := by
  unfold isBAsg
  rw [areInts_of fun n hn => ⟨(h.rng n hn).1, by have := (h.rng n hn).2; omega⟩, lenT_ints]
  have := h.len
  simp
  omega
theorem small_ints {ns : List Int} (h : ns.length ≤ 1000000) : SmallT (.tuple (ns.map .int)) := fun es e => by
  rw [← PyData.tuple.inj e]
  simpa using h
theorem Asg.small {ns : List Int} {v : Int} (h : Asg ns v) : SmallT (.tuple (ns.map .int)) := small_ints (by have := h.len; omega)
def sp__law_next (K : PySem.W.Frag) : Sp := spS K fun ds k P => ∃ m : Int, ds = [.int m] ∧ 0 < m ∧ m < 1073741824 ∧ k = .v ∧ P = fun d => ∃ n : Int, d = .int n ∧ 0 ≤ n ∧ n < m
theorem Str1.put {K : PySem.W.Frag} {st l : Addr} {H : Hp} {ns : List Int} {x k : Int} (h2 : H l = some (.lst (ns.map V.int))) (h3 : l ≠ st) (h4 : 0 ≤ k) : Str1 K st l (upd H st (.lst [.ref l, .int x, .int k])) :=
  ⟨ns, x, k, upd_same, by rw [upd_ne h3]; exact h2, h3, h4⟩


/-! the law's helpers -/

def sp__law_stream := spStream
/-- data that _law_equal may look at, to some depth -/
inductive EqOk : Nat → PyData → Prop
  | non {n} : EqOk n .none
  | bl {n} (b : Bool) : EqOk n (.bool b)
  | int {n} (i : Int) : EqOk n (.int i)
  | str {n} (s : Str) : EqOk n (.str s)
  | lst {n} {xs : List PyData} : xs.length ≤ 1000000 → (∀ x ∈ xs, EqOk n x) → EqOk (n + 1) (.list xs)
  | tup {n} {xs : List PyData} : xs.length ≤ 1000000 → (∀ x ∈ xs, EqOk n x) → EqOk (n + 1) (.tuple xs)
theorem EqOk.ints {n : Nat} {ns : List Int} (h : ns.length ≤ 1000000) : EqOk (n + 1) (.tuple (ns.map .int)) := .tup (by simpa using h) fun x hx => by
  obtain ⟨i, _, rfl⟩ := List.mem_map.mp hx
  exact .int i
theorem EqOk.up {n : Nat} {x : PyData} (h : EqOk n x) : ∀ {m : Nat}, n ≤ m → EqOk m x := by
  induction h with
  | non => intro m _; exact .non
  | bl b => intro m _; exact .bl b
  | int i => intro m _; exact .int i
  | str s => intro m _; exact .str s
  | lst hl _ ih =>
    intro m hm
    cases m with
    | zero => omega
    | succ m => exact .lst hl fun x hx => ih x hx (by omega)
  | tup hl _ ih =>
    intro m hm
    cases m with
    | zero => omega
    | succ m => exact .tup hl fun x hx => ih x hx (by omega)


theorem upI0 (v : Nat) : upI 0 v = (List.range v).map fun (i : Nat) => (i : Int) := by
  unfold upI
  apply List.map_congr_left
  intro i _
  omega
theorem upI_count {v : Nat} {n : Int} (h0 : 0 ≤ n) (h1 : n < v) : (upI 0 v).count n = 1 := by
  obtain ⟨m, rfl⟩ := Int.eq_ofNat_of_zero_le h0
  have hm : m < v := by omega
  rw [upI0, List.count_eq_countP, List.countP_map]
  have e : ((fun x : Int => x == (m : Int)) ∘ fun (i : Nat) => (i : Int)) = fun i : Nat => i == m := by
    funext i
    show ((i : Int) == (m : Int)) = (i == m)
    rw [Bool.eq_iff_iff]
    simp
    omega
  rw [e]
  have : List.countP (fun i => i == m) (List.range v) = (List.range v).count m := rfl
  rw [this, List.nodup_range.count]
  simp [hm]
theorem count_sum (v : Nat) : ∀ ns : List Int, (∀ n ∈ ns, 0 ≤ n ∧ n < (v : Int)) → ((upI 0 v).map fun i => (ns.count i : Int)).sum = ns.length := by
  intro ns
  induction ns with
  | nil =>
    intro _
    generalize upI 0 v = l
    induction l with
    | nil => rfl
    | cons a l ih =>
      rw [List.map_cons, List.sum_cons, ih]
      rfl
  | cons n ns ih =>
    intro hv
    have ih' := ih fun m hm => hv m (by simp [hm])
    have hn := hv n (by simp)
    have key : ∀ l : List Int, (l.map fun i => ((n :: ns).count i : Int)).sum = (l.map fun i => (ns.count i : Int)).sum + l.count n := by
      intro l
      induction l with
      | nil => rfl
      | cons a l ihl =>
        rw [List.map_cons, List.sum_cons, List.map_cons, List.sum_cons, ihl, List.count_cons, List.count_cons]
        by_cases h : n = a
        · subst h
          rw [beq_self_eq_true, if_pos rfl]
          omega
        · rw [beq_eq_false_iff_ne.mpr h, beq_eq_false_iff_ne.mpr (fun e => h e.symm)]
          simp
          omega
    rw [key, ih', upI_count hn.1 hn.2]
    simp
theorem upI_get {lo : Int} {n m : Nat} {a : Im} (h : ((upI lo n).map fun i => Im.d (.int i))[m]? = some a) : ∃ i : Int, a = .d (.int i) ∧ lo ≤ i ∧ i < lo + n := by
  unfold upI at h
  rw [List.map_map, List.getElem?_map] at h
  cases q : (List.range n)[m]? with
  | none => rw [q] at h; cases h
  | some j =>
    rw [q] at h
    have hj : j < n := List.mem_range.mp (List.mem_of_getElem? q)
    exact ⟨lo + j, (Option.some.inj h).symm, by omega, by omega⟩
end Lm


/-! more rules: a list unpacked, tuple.index of an int, the number of a tuple's different ints, list.pop(i) -/
namespace Lm
open PySem PySem.Spec PyProof.Rows L2
section
variable {prog : Program} {w : World} {A : Around} {E : Value → Shared → Prop} {s : Shared}
theorem drawL {it t : Addr} {items : Array Value} (hne : t ≠ it) : ∀ (n i : Nat) (s : Shared) (Q : List Value → Shared → Prop), s.heap.IsListIter it t i → s.heap.IsList t items → i + n ≤ items.size →
    (∀ h', h'.IsListIter it t (i + n) → Heap.SameBut it s.heap h' → Q ((items.toList.drop i).take n) { s with heap := h' }) → wpAny (model prog w) A (draw (.ref it) n) Q E s
  | 0, i, s, Q, hit, _, _, hQ => by
    show wpAny _ _ (pure []) Q E s
    exact wpAny_pure (by simpa using hQ s.heap hit (Heap.SameBut.refl ..))
  | n + 1, i, s, Q, hit, ht, hle, hQ => by
    have hlt : i < items.size := by omega
    show wpAny _ _ (pyNext (.ref it) >>= _) Q E s
    refine wpAny_bind (wpAny_pyNext_list_item hit ht (x := items[i]) (by simp [hlt]) fun h₁ hit₁ hs₁ => ?_)
    refine wpAny_bind (wpAny_holding (drawL hne n (i + 1) _ _ hit₁ (ht.extBut hs₁.extBut hne) (by omega) fun h₂ hit₂ hs₂ => wpAny_pure ?_))
    have e1 : items.toList.drop i = items[i] :: items.toList.drop (i + 1) := by simp [List.drop_eq_getElem_cons, hlt]
    have e2 := hQ h₂ (by rw [show i + (n + 1) = i + 1 + n by omega]; exact hit₂) (hs₁.trans hs₂)
    rw [e1, List.take_succ_cons] at e2
    exact e2
theorem unpackL {t : Addr} {items : Array Value} {Q : List Value → Shared → Prop} (hh : A.handled = none) (ht : s.heap.IsList t items)
    (hQ : ∀ h', Heap.ExtBut s.heap.objs.size s.heap h' → Q items.toList { s with heap := h' }) : wpAny (model prog w) A (unpackItems (.ref t) items.size none) Q E s := by
  have hlt : t ≠ s.heap.objs.size := by obtain ⟨o, ho, _⟩ := ht; exact Nat.ne_of_lt (Heap.lt_size ho)
  unfold unpackItems
  refine wpAny_bind ?_
  · unfold notIterableAtAll
    refine wpAny_bind (wpAny_specialOf ht.typeIs F.slot_list_iter.lookup ?_)
    refine wpAny_pure ?_
    simp only [Bool.false_eq_true, if_false]
    refine wpAny_bind (wpAny_holding (wpAny_pyIter_list ht ?_))
    refine wpAny_bind (wpAny_holding (drawL hlt items.size 0 _ _ ⟨_, Heap.get?_push_size _ rfl, rfl, rfl⟩ (ht.push _) (by omega) fun h₁ hit₁ hs₁ => ?_))
    have e1 : List.take items.size (List.drop 0 items.toList) = items.toList := by
      rw [List.drop_zero]; exact List.take_of_length_le (by simp)
    rw [e1, if_neg (by simp)]
    have ht₁ : h₁.IsList t items := (ht.push _).extBut hs₁.extBut hlt
    refine wpAny_bind (wpAny_holding (wpAny_pyNext_list_end hh hit₁ ht₁ (by simp) fun h₂ he₂ => ?_))
    simp only [Option.isSome_none, Bool.false_eq_true, if_false]
    exact wpAny_pure (hQ h₂ fun b o hb e => he₂ b o hb (hs₁.extBut b o hb (Heap.get?_push_of_some _ e)))
theorem assignTupL {env : PySem.Env} {elts : List Expr} {x1} {pos : Pos} {t : Addr} {items : Array Value} {Q : Unit → Shared → Prop} (hh : A.handled = none) (ht : s.heap.IsList t items)
    (hn : (assignEach elts env).length = items.size) (hstar : (assignEach elts env).findIdx? (·.1) = none)
    (h : ∀ h', Heap.ExtBut s.heap.objs.size s.heap h' → wpAny (model prog w) A (assignInOrder ((assignEach elts env).map (·.2)) items.toList) Q E { s with heap := h' }) :
    wpAny (model prog w) A (assign (.Tuple elts x1 pos) env (.ref t)) Q E s := by
  rw [arm_assign_Tuple]
  refine wpAny_bind (wpAny_standAt ?_)
  unfold unpack
  rw [hn, hstar]
  exact wpAny_bind (wpAny_holding (unpackL hh ht h))
end
/-- (a, b, ..) = a tuple or a list of that length -/
def gTupA (K : PySem.W.Frag) (n : Nat) (t : TGs) : TG := fun v σ H Q => ∃ a xs, v = .ref a ∧ (SqT K H a xs ∨ SqL K H a xs) ∧ xs.length = n ∧ t xs σ H Q
section
variable {X : Cx}
theorem pg_tupA {es : List Expr} {k : Nat} {t : TGs} {n : Nat} {pos : Pos} (hc : X.calm = true) (h : PGs X es t)
    (hn : (assignEach es X.env).length = n := by rfl) (hst : (assignEach es X.env).findIdx? (·.1) = none := by rfl) : PG X (.Tuple es k pos) (gTupA X.K n t) := by
  refine ⟨fun pins s σ H v u Q I r hw => ?_⟩
  obtain ⟨a, xs, e1, hq, hl, hw⟩ := hw
  rcases hq with hq | hq
  · exact (pg_tup hc h hn hst).run pins s σ H v u Q I r ⟨a, xs, e1, hq, hl, hw⟩
  · subst e1
    cases r
    obtain ⟨its, rv, ht, hz⟩ := I.list hq
    refine assignTupL (I.ok.hd hc) ht.isList (by simp [hn, ← hl, rv.length]) hst fun h' hx => ?_
    have I1 : Inv X pins σ H { s with heap := h' } := I.kept (t' := s.toks) fun b o e => hx b o (Nat.ne_of_lt (Heap.lt_size e)) e
    exact h.run pins _ σ H xs _ Q I1 (by simpa using rv) hw
/-- how many different ints a tuple has -/
def tLenSetT (K : PySem.W.Frag) (ta : TE) : TE := fun σ H Q => ta σ H fun x H1 => ∃ (l : Addr) (ns ks : List Int), x = .ref l ∧ SqT K H1 l (ns.map V.int) ∧ ns.length ≤ 4000 ∧ ks.Nodup ∧ (∀ k, k ∈ ks ↔ k ∈ ns) ∧ Q (.int (ks.length : Nat)) H1
theorem length_sub : ∀ {as bs : List Int}, as.Nodup → (∀ k, k ∈ as → k ∈ bs) → as.length ≤ bs.length
  | [], _, _, _ => Nat.zero_le _
  | a :: as, bs, ha, h => by
    have hm : a ∈ bs := h a (by simp)
    obtain ⟨hna, hnd⟩ := List.nodup_cons.mp ha
    have := length_sub (bs := bs.erase a) hnd fun k q => (List.mem_erase_of_ne fun (z : k = a) => hna (by rw [← z]; exact q)).mpr (h k (by simp [q]))
    rw [List.length_erase_of_mem hm] at this
    have : 0 < bs.length := List.length_pos_of_mem hm
    simp only [List.length_cons]
    omega
theorem same_length {as bs : List Int} (ha : as.Nodup) (hb : bs.Nodup) (h : ∀ k, k ∈ as ↔ k ∈ bs) : as.length = bs.length :=
  Nat.le_antisymm (length_sub ha fun k q => (h k).mp q) (length_sub hb fun k q => (h k).mpr q)
theorem pe_lenSetT {a : Expr} {ta : TE} {p p2 q pos : Pos} (hg : Gl X "len") (hm : X.mg "len" = none) (hg2 : Gl X "set") (hm2 : X.mg "set" = none) (ha : PE X a ta) (hc : X.calm = true := by rfl)
    (na : starEach [a] X.env = (false, eval a X.env) :: starEach [] X.env := by rfl) : PE X (.Call (.Name "len" p) [.Call (.Name "set" p2) [a] [] q] [] pos) (tLenSetT X.K ta) := by
  refine ⟨fun pins s σ H Q I h => ?_⟩
  refine Call_ (ld_blt I hg hm boot_len (PyProof.Rows.callWith_builtin1 (PyProof.Rows.args_cons ?_ rfl) rfl rfl))
  refine Call_ (ld_blt I hg2 hm2 boot_set ?_)
  refine PyProof.Rows.callWith_type1 (PyProof.Rows.args_cons (thn (ha.run pins s σ H _ I h) fun v s1 ⟨x, H1, I1, r1, q1⟩ => PyProof.Rows.args_nil ?_) na) na rfl
  obtain ⟨l, ns, ks, rfl, hq, hl, hnd, hks, q1⟩ := q1
  cases r1
  obtain ⟨its, r, pl, hz⟩ := I1.tuple hq
  refine call_set_tupI ns (I1.ok.hd hc) (show s1.heap.IsTuple l its.toArray from pl) (by simpa using ints_of_vals r) (by unfold scanBound; omega) fun h' tk c hS hc' hk => ?_
  refine PyProof.Rows.args_nil ?_
  obtain ⟨o, es, ep, t, ho, hex, hd, _, hn, hmem, _, hf, hsz, _⟩ := hS
  have I2 : Inv X pins σ H1 { s1 with heap := h', toks := tk } := I1.kept fun b o e => hk b o e
  have ec : es.size = ks.length := by
    rw [← Array.length_toList, ← List.length_map (f := keyOf)]
    refine same_length hn hnd fun k => ?_
    rw [← hmem k, hks k]
    simp
  have hle : ks.length ≤ 4000 := by omega
  exact call_len_set ho hex hd hf (by omega) ⟨.int (ks.length : Nat), H1, I2.tok _, ⟨_, by rw [ec]⟩, q1⟩
end
section
variable {X : Cx} {K : PySem.W.Frag} (hK : X.K = K)
include hK
theorem k_tupA {es : List Expr} {k : Nat} {t : TGs} {n : Nat} {pos : Pos} (hc : X.calm = true) (h : PGs X es t)
    (hn : (assignEach es X.env).length = n := by rfl) (hst : (assignEach es X.env).findIdx? (·.1) = none := by rfl) : PG X (.Tuple es k pos) (gTupA K n t) := hK ▸ pg_tupA hc h hn hst
theorem k_lenSet {a : Expr} {ta : TE} {p p2 q pos : Pos} (hg : Gl X "len") (hm : X.mg "len" = none) (hg2 : Gl X "set") (hm2 : X.mg "set" = none) (ha : PE X a ta) (hc : X.calm = true := by rfl)
    (na : starEach [a] X.env = (false, eval a X.env) :: starEach [] X.env := by rfl) : PE X (.Call (.Name "len" p) [.Call (.Name "set" p2) [a] [] q] [] pos) (tLenSetT K ta) := hK ▸ pe_lenSetT hg hm hg2 hm2 ha hc na
end
end Lm


namespace Lm
open PySem PySem.Spec PyProof.Rows L2
variable {c : Ct} {H H' H0 H1 H2 H3 : Hp} {O : List Addr} {σ : L2.St} {Γ Γ' Γ1 : List (Option Rs)}
variable {te ta tb tx tl : TE} {tt tu : TT} {tr : TA} {k ka kb kc : Kd} {d x y z : PyData} {i j : Int} {a b : Bool} {kv fz : Bool} {ds es : List PyData}
/-! ### zip of two tuples -/
def zipD (ds es : List PyData) : List Im := (ds.zip es).map fun p => .t [.d p.1, .d p.2]
theorem walk_zipT {K : PySem.W.Frag} {p q : Addr} {xs ys : List V} {n : Nat} (hn : n = min xs.length ys.length) : Walk (RZ.ItzT K p q) n (fun H => SqT K H p xs ∧ SqT K H q ys) (YPair (fun i => xs[i]?) (fun i => ys[i]?)) where
  goes := fun i _ hi w => ⟨xs, ys, xs[i]'(by omega), ys[i]'(by omega), w.1, w.2, List.getElem?_eq_getElem (by omega), List.getElem?_eq_getElem (by omega)⟩
  stops := fun _ w => ⟨xs, ys, w.1, w.2, by omega⟩
  yields := fun i H v H' _ w ⟨T, x, z, h1, h2, h3, h4, h5⟩ => ⟨T, x, z, h1, h2, h3, h4 xs w.1, h5 ys w.2⟩
theorem i_zipT (h : EvA c tr Γ true [.tuple ds, .tuple es]) : EvI c (RZ.iZipA c.K tr) Γ true (zipD ds es) := fun H0 O H σ e R q =>
  h H0 O H σ e _ fun vs H1 r s => by
    obtain ⟨x, y, rfl, b1, b2⟩ := (BoAll.vm s).two
    obtain ⟨p, xs, rfl, sl, al⟩ := b1.tup'
    obtain ⟨p2, ys, rfl, sl2, al2⟩ := b2.tup'
    refine ⟨p, p2, xs, ys, rfl, .inr ⟨(sqT_same mns_same sl).sq, (sqT_same mns_same sl2).sq, q _ H1 r ⟨(e.on r).j, ?_⟩⟩⟩
    have hl : (zipD ds es).length = min xs.length ys.length := by rw [al.len, al2.len]; simp [zipD]
    refine (walk_zipT hl).mono (fun H h => ⟨(h.tup (e.on r).j sl).sq, (h.tup (e.on r).j sl2).sq⟩) fun i H v H' hi g w => ?_
    obtain ⟨T, u1, u2, rfl, hT, rfl, g1, g2⟩ := w
    obtain ⟨d1, hd1, bd1⟩ := al.get g1
    obtain ⟨d2, hd2, bd2⟩ := al2.get g2
    have sm : Same H (upd H T (.tup [u1, u2])) := fun b o z => by rw [upd_ne (ne_of_none z hT)]; exact z
    refine ⟨sm, .t [.d d1, .d d2], ?_, .tup (.inl (.inl upd_same)) (.cons (.leaf (.inr ⟨rfl, bd1⟩)) (.cons (.leaf (.inr ⟨rfl, bd2⟩)) .nil))⟩
    have : (ds.zip es)[i]? = some (d1, d2) := by rw [List.getElem?_zip_eq_some]; exact ⟨hd1, hd2⟩
    simp [zipD, this]
def zipI (p : Int × Int) : Im := .t [.d (.int p.1), .d (.int p.2)]
theorem i_zipTI {ns ms : List Int} (h : EvA c tr Γ true [.tuple (ns.map .int), .tuple (ms.map .int)]) : EvI c (RZ.iZipA c.K tr) Γ true ((ns.zip ms).map zipI) := by
  have e : zipD (ns.map .int) (ms.map .int) = (ns.zip ms).map zipI := by
    unfold zipD
    rw [List.zip_map, List.map_map]
    rfl
  exact e ▸ i_zipT h
/-! ### calls -/
theorem e_max2 (ha : Ev c ta Γ ka (.int i)) (hb : Ev c tb Γ kb (.int j)) : Ev c (tCB (fun xs H Q => ∃ i j, xs = [V.int i, V.int j] ∧ Q (.int (if j > i then j else i)) H) (tCons ta (tCons tb tNil))) Γ .v (.int (if j > i then j else i)) :=
  d_cb (a_cons ha (a_cons hb a_nil)) fun H O vs Q s q => by
    obtain ⟨y, z, rfl, b1, b2⟩ := s.two
    exact ⟨i, j, by rw [b1.int', b2.int'], q _ H Rr.rf (.int _)⟩
theorem e_lenSet {ns ks : List Int} (h : Ev c ta Γ ka (.tuple (ns.map .int))) (hl : ns.length ≤ 4000) (hn : ks.Nodup) (hk : ∀ k, k ∈ ks ↔ k ∈ ns) : Ev c (tLenSetT c.K ta) Γ .v (.int (ks.length : Nat)) := fun H0 O H σ e Q q =>
  h H0 O H σ e _ fun v H1 r1 s1 => by
    obtain ⟨p, xs, rfl, s, al⟩ := (Res.bo e s1).tup'
    have := al.ints
    subst this
    exact ⟨p, ns, ks, rfl, s.sq, hl, hn, hk, q _ H1 r1 (.int _)⟩
/-- list * int, the list a new one -/
theorem e_rep (h : Ev c ta Γ .o (.list ds)) (hf : flatAll ds = true) (hb : Ev c tb Γ kb (.int i)) (h1 : -(2 ^ 63) ≤ i) (h2 : i < 2 ^ 63) (hl : ds.length * i.toNat ≤ 1000000) : Ev c (tOp rMulA ta tb) Γ .o (.list (List.replicate i.toNat ds).flatten) := fun H0 O H σ e Q q =>
  h H0 O H σ e _ fun v H1 r1 s1 => hb H0 O H1 σ (e.on r1) _ fun u H2 r2 s2 => by
    obtain ⟨fp, f, nd, new⟩ : Res c O H H2 v (.list ds) .o := Res.on e r1 r2 s1
    obtain ⟨p, xs, g, rfl, rfl, hp, fa⟩ := f.list'
    obtain ⟨_, al⟩ := fa.flat0 hf
    refine .inr ⟨p, i, xs, rfl, (Res.bo (e.on r1) s2).int', hp, h1, h2, by rw [al.len]; exact sizeOk hl, fun p' hp' => ?_⟩
    have sm : Same H2 (upd H2 p' (.lst (List.replicate i.toNat xs).flatten)) := fun b o z => by rw [upd_ne (ne_of_none z hp')]; exact z
    have rep : ∀ n : Nat, BoAll c H2 (List.replicate n xs).flatten (List.replicate n ds).flatten := by
      intro n
      induction n with
      | zero => exact .nil
      | succ n ih => rw [List.replicate_succ, List.replicate_succ, List.flatten_cons, List.flatten_cons]; exact al.app ih
    have fl : ∀ n : Nat, flatAll (List.replicate n ds).flatten = true := by
      intro n
      refine flatAll_mem fun d hd => ?_
      obtain ⟨l, hl, hd⟩ := List.mem_flatten.mp hd
      rw [(List.mem_replicate.mp hl).2] at hd
      exact flatAll_one hf hd
    refine q _ _ ((r1.tr r2).tr (Rr.same sm)) ⟨[p'], .lst upd_same (FoAll.leaves (fl _) ((rep _).same sm)), by simp, fun a ha => ?_⟩
    cases List.mem_singleton.mp ha
    exact (r1.tr r2).back e.jH hp'
/-! ### unpacking -/
theorem q_unp {n : Nat} {gs : TGs} {u : TS} {P : Out → Prop} (Pd : PyData → Prop) (h : EvN c te Γ k Pd)
    (p : ∀ d, Pd d → ∃ ds Γ' js, (d = .tuple ds ∨ d = .list ds) ∧ flatAll ds = true ∧ ds.length = n ∧ EvGs c gs (ds.map Im.d) Γ Γ' js ∧ Sd c u Γ' P) : Sd c (tSeq (tAsg te (gTupA c.K n gs)) u) Γ P := fun H0 O H σ D e s =>
  h H0 O H σ e _ fun v d H2 pd r rs => by
    obtain ⟨ds, Γ', js, hd, hf, hn, hg, hu⟩ := p d pd
    have e2 := e.on r
    have key : ∃ a xs, v = .ref a ∧ (SqT c.K H2 a xs ∨ SqL c.K H2 a xs) ∧ BoAll c H2 xs ds := by
      rcases hd with rfl | rfl
      · obtain ⟨a, xs, rfl, sl, al⟩ := (Res.bo e rs).tup'
        exact ⟨a, xs, rfl, .inl sl.sq, al⟩
      · obtain ⟨a, xs, rfl, _, sl, al⟩ := (Res.bo e rs).lst'
        exact ⟨a, xs, rfl, .inr sl, al⟩
    obtain ⟨a, xs, rfl, sl, al⟩ := key
    exact ⟨a, xs, rfl, sl, al.len.trans hn, hg H0 O H2 σ H2 false xs e2 e2.jH Rr.rf (fun z => nomatch z) (.ofFlat hf al) _ fun σ' e' _ => hu H0 O H2 σ' D e' s⟩
end Lm


/-! what more defs promise: allocations, orders -/
namespace Lm
open PySem PySem.Spec PyProof.Rows L2
/-- an allocation of b buckets to v variants -/
structure Alc (ns : List Int) (v b : Int) : Prop where
  len : (ns.length : Int) = v
  sum : ns.sum = b
  nn : ∀ n ∈ ns, 0 ≤ n
theorem sum_nn : ∀ {ns : List Int}, (∀ n ∈ ns, 0 ≤ n) → 0 ≤ ns.sum
  | [], _ => by simp
  | n :: ns, h => by
    have h1 := sum_nn (ns := ns) fun m hm => h m (by simp [hm])
    have h2 := h n (by simp)
    simp only [List.sum_cons]; omega
theorem le_sum : ∀ {ns : List Int}, (∀ n ∈ ns, 0 ≤ n) → ∀ m ∈ ns, m ≤ ns.sum
  | [], _, m, hm => nomatch hm
  | n :: ns, h, m, hm => by
    have h1 := sum_nn (ns := ns) fun m hm => h m (by simp [hm])
    have h2 := h n (by simp)
    simp only [List.sum_cons]
    rcases List.mem_cons.mp hm with q | q
    · rw [q]; omega
    · have := le_sum (ns := ns) (fun m hm => h m (by simp [hm])) m q
      omega
theorem Alc.le {ns : List Int} {v b : Int} (h : Alc ns v b) : ∀ n ∈ ns, n ≤ b := fun n hn => h.sum ▸ le_sum h.nn n hn
theorem Alc.isAlloc {ns : List Int} {v b : Int} (h : Alc ns v b) : isAlloc (.tuple (ns.map .int)) v b = true := by
  unfold Lm.isAlloc
  rw [areInts_of fun n hn => ⟨h.nn n hn, h.le n hn⟩, lenT_ints, sumT_ints, h.len, h.sum]
  simp
def sp_check_allocation (K : PySem.W.Frag) : Sp := spD K fun ds k d => ∃ (ns : List Int) (v b : Int) (nm : Str), ds = [.tuple (ns.map .int), .str nm] ∧ Alc ns v b ∧ 1 ≤ v ∧ v ≤ 5 ∧ b ≤ 20 ∧ k = .v ∧ d = .none
def sp_check_alike (K : PySem.W.Frag) : Sp := spD K fun ds k d => ∃ (ms ns : List Int) (v b : Int) (nm : Str), ds = [.tuple (ms.map .int), .tuple (ns.map .int), .str nm] ∧ Alc ms v b ∧ Alc ns v b ∧ v ≤ 1000 ∧ k = .v ∧ d = .none
/-- what goes over from one to the other -/
def trI (ns ms : List Int) : Int := ((ns.zip ms).map fun p => if 0 > p.1 - p.2 then 0 else p.1 - p.2).sum
def sp_transfer (K : PySem.W.Frag) : Sp := spD K fun ds k d => ∃ (ns ms : List Int) (v b : Int), ds = [.tuple (ns.map .int), .tuple (ms.map .int)] ∧ Alc ns v b ∧ Alc ms v b ∧ 1 ≤ v ∧ v ≤ 5 ∧ b ≤ 20 ∧ k = .v ∧ d = .int (trI ns ms)
/-- the numbers from 0 to m - 1, each once -/
structure IsOrd (ns : List Int) (m : Int) : Prop where
  len : (ns.length : Int) = m
  nd : ns.Nodup
  rng : ∀ n ∈ ns, 0 ≤ n ∧ n < m
def placedI (ns os : List Int) : List Int := (upI 0 os.length).map fun i => ns.getD (os.idxOf i) 0
def sp__law_allocation (K : PySem.W.Frag) : Sp := spS K fun ds k P => ∃ v b : Int, ds = [.int v, .int b] ∧ 1 ≤ v ∧ v ≤ 1000 ∧ 0 ≤ b ∧ b ≤ 1000 ∧ k = .v ∧ P = fun d => ∃ ns : List Int, d = .tuple (ns.map .int) ∧ Alc ns v b
def sp__law_order (K : PySem.W.Frag) : Sp := spS K fun ds k P => ∃ m : Int, ds = [.int m] ∧ 0 ≤ m ∧ m ≤ 1000 ∧ k = .v ∧ P = fun d => ∃ ns : List Int, d = .tuple (ns.map .int) ∧ IsOrd ns m
/-! orders: every number has its place -/
theorem nodup_inj {ns : List Int} (h : ns.Nodup) {i j : Nat} (hi : i < ns.length) (hj : j < ns.length) (e : ns[i] = ns[j]) : i = j := by
  have p := List.pairwise_iff_getElem.mp h
  rcases Nat.lt_trichotomy i j with q | q | q
  · exact absurd e (p i j hi hj q)
  · exact q
  · exact absurd e.symm (p j i hj hi q)
theorem perm_sum {as bs : List Int} (h : as.Perm bs) : as.sum = bs.sum := by
  induction h with
  | nil => rfl
  | cons x _ ih => simp [ih]
  | swap x y l => simp only [List.sum_cons]; omega
  | trans _ _ ih1 ih2 => exact ih1.trans ih2
theorem mem_upI {n : Nat} {i : Int} : i ∈ upI 0 n ↔ 0 ≤ i ∧ i < n := by
  unfold upI
  rw [List.mem_map]
  constructor
  · rintro ⟨m, hm, rfl⟩
    have := List.mem_range.mp hm
    omega
  · rintro ⟨h0, h1⟩
    exact ⟨i.toNat, List.mem_range.mpr (by omega), by omega⟩
theorem nodup_upI (n : Nat) : (upI 0 n).Nodup := by
  rw [upI0]
  exact List.Pairwise.map _ (fun a b h e => h (Int.ofNat.inj e)) List.nodup_range
theorem IsOrd.mem {ns : List Int} {m : Int} (h : IsOrd ns m) {i : Int} (h0 : 0 ≤ i) (h1 : i < m) : i ∈ ns := by
  refine Decidable.byContradiction fun hn => ?_
  have h2 : (i :: ns).length ≤ (upI 0 ns.length).length := length_sub (List.nodup_cons.mpr ⟨hn, h.nd⟩) fun k hk => by
    have hl := h.len
    rcases List.mem_cons.mp hk with q | q
    · rw [q, mem_upI]; omega
    · rw [mem_upI]; have := h.rng k q; omega
  simp [upI] at h2
  omega
theorem IsOrd.perm {ns : List Int} {m : Int} (h : IsOrd ns m) : (upI 0 ns.length).Perm ns := by
  refine (List.perm_iff_count.mpr fun i => ?_)
  by_cases q : 0 ≤ i ∧ i < (ns.length : Int)
  · rw [upI_count q.1 q.2, h.nd.count]
    rw [if_pos (h.mem q.1 (by have := h.len; omega))]
  · rw [List.count_eq_zero_of_not_mem (fun z => q (mem_upI.mp z)), List.count_eq_zero_of_not_mem (fun z => q (by have := h.rng i z; have := h.len; omega))]
theorem IsOrd.idx {ns : List Int} {m : Int} (h : IsOrd ns m) {i : Int} (h0 : 0 ≤ i) (h1 : i < m) : ∃ hj : ns.idxOf i < ns.length, ns[ns.idxOf i]? = some i ∧ ∀ n, n < ns.idxOf i → ns[n]? ≠ some i := by
  have hj : ns.idxOf i < ns.length := List.idxOf_lt_length_of_mem (h.mem h0 h1)
  refine ⟨hj, ?_, fun n hn e => ?_⟩
  · rw [List.getElem?_eq_getElem hj, List.getElem_idxOf hj]
  · have hl : n < ns.length := by omega
    have e1 : ns[n] = i := by rw [List.getElem?_eq_getElem hl] at e; exact Option.some.inj e
    have e2 : ns[ns.idxOf i] = i := List.getElem_idxOf hj
    have := nodup_inj h.nd hl hj (e1.trans e2.symm)
    omega
theorem IsOrd.idxOf_get {ns : List Int} {m : Int} (h : IsOrd ns m) {j : Nat} (hj : j < ns.length) : ns.idxOf ns[j] = j := by
  have hm : ns[j] ∈ ns := List.getElem_mem hj
  have hl : ns.idxOf ns[j] < ns.length := List.idxOf_lt_length_of_mem hm
  exact nodup_inj h.nd hl hj (List.getElem_idxOf hl)
/-- a sum over the placed is the sum over the old -/
theorem IsOrd.sums {os : List Int} {m : Int} (h : IsOrd os m) (f : Nat → Int) : ((upI 0 os.length).map fun i => f (os.idxOf i)).sum = ((List.range os.length).map f).sum := by
  have e : os.map (fun i => f (os.idxOf i)) = (List.range os.length).map f := by
    apply List.ext_getElem
    · simp
    · intro j h1 h2
      simp only [List.getElem_map, List.getElem_range]
      rw [h.idxOf_get (by simpa using h1)]
  rw [← e]
  exact perm_sum (h.perm.map _)
theorem sum_range {ns : List Int} : ((List.range ns.length).map fun j => ns.getD j 0).sum = ns.sum := by
  congr 1
  apply List.ext_getElem
  · simp
  · intro j h1 h2
    have h2' : j < ns.length := h2
    simp [List.getD_eq_getElem?_getD, List.getElem?_eq_getElem h2']
theorem IsOrd.alc {ns os : List Int} {v b : Int} (h : Alc ns v b) (o : IsOrd os v) : Alc (placedI ns os) v b := by
  have hl : os.length = ns.length := by have := h.len; have := o.len; omega
  refine ⟨?_, ?_, ?_⟩
  · simp [placedI, upI, o.len]
  · unfold placedI
    rw [o.sums fun j => ns.getD j 0, hl, sum_range, h.sum]
  · intro n hn
    obtain ⟨i, _, rfl⟩ := List.mem_map.mp hn
    rw [List.getD_eq_getElem?_getD]
    cases q : ns[os.idxOf i]? with
    | none => exact Int.le_refl _
    | some x => exact h.nn x (List.mem_of_getElem? q)
def t0 (a b : Int) : Int := if 0 > a - b then 0 else a - b
end Lm


namespace Lm
open PySem PySem.Spec PyProof.Rows L2
section
variable {c : Ct} {H H' H0 H1 H2 H3 : Hp} {O : List Addr} {σ : L2.St} {Γ Γ' Γ1 : List (Option Rs)} {te : TE} {k : Kd} {i : Int}
theorem rgV_upI (i : Int) : rgV 0 i = (upI 0 i.toNat).map V.int := by
  unfold rgV upI
  rw [List.map_map, Int.sub_zero]
  rfl
theorem erase_map {α : Type} (f : Int → α) : ∀ (l : List Int) (k : Nat), (l.map f).eraseIdx k = (l.eraseIdx k).map f
  | [], _ => rfl
  | _ :: _, 0 => rfl
  | x :: l, k + 1 => by
    show f x :: (l.map f).eraseIdx k = f x :: (l.eraseIdx k).map f
    rw [erase_map f l k]
theorem erase_perm : ∀ (l : List Int) (k : Nat) (h : k < l.length), (l[k] :: l.eraseIdx k).Perm l
  | _ :: _, 0, _ => List.Perm.refl _
  | x :: l, k + 1, h => by
    have hk : k < l.length := by simpa using h
    show (l[k]'hk :: x :: l.eraseIdx k).Perm (x :: l)
    exact (List.Perm.swap ..).trans (List.Perm.cons x (erase_perm l k hk))
/-- list(range(n)) -/
theorem e_listRg (h : Ev c te Γ k (.int i)) (h0 : 0 ≤ i) (h1 : i ≤ 1000000) : Ev c (tLstRg (tRg1 te)) Γ .o (.list ((upI 0 i.toNat).map .int)) := fun H0 O H σ e Q q =>
  h H0 O H σ e _ fun v H1 r s => ⟨i, (Res.bo e s).int', .of_le (by decide) (by omega) (by decide) h0, fun p hp => by
    have sm : Same H1 (upd H1 p (.lst (rgV 0 i))) := fun b o z => by rw [upd_ne (ne_of_none z hp)]; exact z
    refine q _ _ (r.tr (Rr.same sm)) ⟨[p], .lst upd_same (FoAll.leaves (flatAll_ints _) ?_), by simp, fun a ha => ?_⟩
    · rw [rgV_upI]; exact BoAll.ofInts _
    · cases List.mem_singleton.mp ha
      exact r.back e.jH hp⟩
end
section
variable {c : Ct} {Γ : List (Option Rs)} {ta tb : TE} {ka kb : Kd}
end
end Lm


/-! allocations: how they are made, what goes over -/
namespace Lm
open PySem PySem.Spec PyProof.Rows L2
theorem alc0 {v : Int} (h : 0 ≤ v) : Alc ((upI 0 v.toNat).map fun _ => 0) v (0 : Nat) := by
  refine ⟨by simp [upI]; omega, ?_, fun n hn => ?_⟩
  · generalize upI 0 v.toNat = l
    induction l with
    | nil => rfl
    | cons a l ih => rw [List.map_cons, List.sum_cons, ih]; rfl
  · obtain ⟨_, _, rfl⟩ := List.mem_map.mp hn
    exact Int.le_refl _
theorem sum_set : ∀ {ns : List Int} {m : Nat} {x : Int}, m < ns.length → (ns.set m x).sum = ns.sum - ns.getD m 0 + x
  | [], _, _, h => by simp at h
  | n :: ns, 0, x, _ => by
    show x + ns.sum = (n + ns.sum) - n + x
    omega
  | n :: ns, m + 1, x, h => by
    have := sum_set (ns := ns) (m := m) (x := x) (by simpa using h)
    show n + (ns.set m x).sum = (n + ns.sum) - ns.getD m 0 + x
    omega
theorem Alc.one {ns : List Int} {v : Int} {b m : Nat} (h : Alc ns v b) (hm : m < ns.length) : Alc (ns.set m (ns.getD m 0 + 1)) v ((b + 1 : Nat) : Int) := by
  refine ⟨by rw [List.length_set]; exact h.len, ?_, fun n hn => ?_⟩
  · have := h.sum
    rw [sum_set hm]
    omega
  · rcases List.mem_or_eq_of_mem_set hn with q | q
    · exact h.nn n q
    · have : ns.getD m 0 ∈ ns := by
        rw [List.getD_eq_getElem?_getD, List.getElem?_eq_getElem hm]
        exact List.getElem_mem hm
      have := h.nn _ this
      omega
theorem ord_upI {m : Int} (h : 0 ≤ m) : IsOrd (upI 0 m.toNat) m := by
  refine ⟨by simp [upI]; omega, nodup_upI _, fun n hn => ?_⟩
  have := mem_upI.mp hn
  omega
/-! ### sums over two lists at once -/
def zs (f : Int → Int → Int) (ns ms : List Int) : Int := ((List.range ns.length).map fun j => f (ns.getD j 0) (ms.getD j 0)).sum
theorem zs_cons {f : Int → Int → Int} {n m : Int} {ns ms : List Int} : zs f (n :: ns) (m :: ms) = f n m + zs f ns ms := by
  unfold zs
  rw [List.length_cons, List.range_succ_eq_map, List.map_cons, List.sum_cons, List.map_map]
  rfl
variable {ns ms ps : List Int} {v b : Int}
/-- a list that is filled place by place -/
structure Due (ns os due : List Int) (v : Int) (n : Nat) : Prop where
  len : (due.length : Int) = v
  got : ∀ j, j < n → due.getD (os.getD j 0).toNat 0 = ns.getD j 0
theorem gd_lt {l : List Int} {j : Nat} (h : j < l.length) : l.getD j 0 = l[j] := by
  rw [List.getD_eq_getElem?_getD, List.getElem?_eq_getElem h]
  rfl
theorem gd_mem {l : List Int} {j : Nat} (h : j < l.length) : l.getD j 0 ∈ l := by rw [gd_lt h]; exact List.getElem_mem h
variable {os due : List Int} {n : Nat}
theorem Due.step (d : Due ns os due v n) (ho : IsOrd os v) (hn : n < os.length) : Due ns os (due.set (os.getD n 0).toNat (ns.getD n 0)) v (n + 1) := by
  refine ⟨by rw [List.length_set]; exact d.len, fun j hj => ?_⟩
  have hl := d.len
  have r1 := ho.rng _ (gd_mem hn)
  have h1 : (os.getD n 0).toNat < due.length := by omega
  by_cases q : j = n
  · subst q
    rw [List.getD_eq_getElem?_getD, List.getElem?_set_self h1]
    rfl
  · have hj' : j < n := by omega
    have hjl : j < os.length := by omega
    have r2 := ho.rng _ (gd_mem hjl)
    have ne : (os.getD n 0).toNat ≠ (os.getD j 0).toNat := fun e => by
      have e2 : os.getD j 0 = os.getD n 0 := by omega
      rw [gd_lt hn, gd_lt hjl] at e2
      exact q (nodup_inj ho.nd hjl hn e2)
    rw [List.getD_eq_getElem?_getD, List.getElem?_set_ne ne, ← List.getD_eq_getElem?_getD]
    exact d.got j hj'
theorem Due.done (d : Due ns os due v os.length) (ho : IsOrd os v) : due = placedI ns os := by
  have hl := d.len
  have hol := ho.len
  apply List.ext_getElem
  · simp [placedI, upI]; omega
  · intro i h1 h2
    obtain ⟨hj, h3, _⟩ := ho.idx (i := (i : Int)) (by omega) (by omega)
    have := d.got _ hj
    have e1 : os.getD (os.idxOf (i : Int)) 0 = i := by rw [List.getD_eq_getElem?_getD, h3]; rfl
    rw [e1] at this
    have e2 : ((i : Int)).toNat = i := by omega
    rw [e2, gd_lt h1] at this
    rw [this]
    unfold placedI
    simp [upI]
theorem upI_at {n m : Nat} {a : Im} (h : ((upI 0 n).map fun i => Im.d (.int i))[m]? = some a) : m < n ∧ a = .d (.int (m : Int)) := by
  unfold upI at h
  rw [List.map_map, List.getElem?_map] at h
  cases q : (List.range n)[m]? with
  | none => rw [q] at h; cases h
  | some j =>
    rw [q] at h
    have hm : m < n := by have := (List.getElem?_eq_some_iff.mp q).1; simpa using this
    have hj : j = m := by rw [List.getElem?_range hm] at q; exact (Option.some.inj q).symm
    subst hj
    refine ⟨hm, (Option.some.inj h).symm.trans ?_⟩
    show Im.d (.int (0 + (j : Int))) = _
    rw [Int.zero_add]
theorem ixN_at {n m : Nat} {i : Int} (hi : i = (m : Int)) (h : m < n) : ixN n i = some m := by
  rw [hi]
  exact Evl.ixN_nat h
theorem at_ints {ns : List Int} {j : Nat} (h : j < ns.length) : atI (ns.map PyData.int) (j : Int) = some (.int (ns.getD j 0)) := atI_nat (by simp [h])
/-- xs[i] = an int, xs a list of ints -/
theorem s_setII {c : Ct} {Γ : List (Option Rs)} {te ta : TE} {k ka : Kd} {P : Out → Prop} {n m : Nat} {x i : Int} {ns : List Int} (hx : Γ[n]? = some (some (.o (.list (ns.map .int))))) (h : Ev c te Γ k (.int x)) (hi : Ev c ta Γ ka (.int i)) (hj : i = (m : Int)) (hm : m < ns.length) (p : P (.nx (Γ.set n (some (.o (.list ((ns.set m x).map .int))))))) : Sd c (tAsg te (gSub (tVar n) ta rSetL)) Γ P :=
  s_setI hx (flatAll_ints _) h rfl hi (ixN_at hj (by simpa using hm)) (by rw [List.map_set] at p; exact p)
end Lm


/-! zip whose tuples are kept; enumerate(zip(a, b)) -/
namespace Lm
open PySem PySem.Spec PyProof.Rows L2
/-- a zip, with what it says of its last tuple -/
abbrev IsZipX (h : Heap) (z TI TO : Addr) (x : Value) (b : Bool) : Prop := h.get? z = some { cls := .type "zip", data := .fields #[x, .bool b, .bool false, .ref TI, .ref TO] }
section
variable {prog : Program} {w : World} {A : Around} {E : Value → Shared → Prop} {s : Shared} {z TI TO i1 i2 : Addr} {fp1 fp2 : List Addr} {n1 n2 i : Nat} {P1 P2 : Nat → Value → Prop} {St1 St2 : Nat → Heap → Prop} {a1 a2 : Value} {b : Bool} {x : Value}
theorem zipX_free {Q : Bool → Shared → Prop} (hz : IsZipX s.heap z TI TO x b) (hx : x = .none ∨ ∃ T : Addr, x = rawInt T) (h1 : Q true s) (h2 : ∀ h', IsZipX h' z TI TO x true → Heap.SameBut z s.heap h' → Q false { s with heap := h' }) :
    wpAny (model prog w) A (Builtin.SmallTypes.ownedTupleIsFree (.ref z)) Q E s := by
  unfold Builtin.SmallTypes.ownedTupleIsFree
  refine wpAny_bind (wpAny_field hz rfl (x := x) rfl ?_)
  rcases hx with rfl | ⟨T, rfl⟩
  · exact wpAny_pure h1
  · show wpAny _ _ (loadIfAlive T >>= _) _ _ _
    cases hT : s.heap.get? T with
    | none =>
      have alive : ∀ {Q : Option Obj → Shared → Prop}, Q none s → wpAny (model prog w) A (loadIfAlive T) Q E s := fun {Q} q => by
        have q' : Q (s.heap.get? T) s := by rw [hT]; exact q
        exact fun _ _ _ => q'
      refine wpAny_bind (alive ?_)
      exact wpAny_pure h1
    | some o =>
      refine wpAny_bind (PySem.W.kdx_alive hT ?_)
      simp only [Option.isNone_some, Bool.false_eq_true, if_false]
      refine wpAny_bind (wpAny_field hz rfl (x := .bool b) rfl ?_)
      cases b with
      | true => exact wpAny_pure (h2 _ hz (Heap.SameBut.refl ..))
      | false => exact wpAny_bind (wpAny_setField_rec hz (by simp) fun h1 hz1 hs1 => wpAny_pure (h2 h1 hz1 hs1))
/-- a turn of zip, whatever became of the last tuple -/
theorem zipX_item {Q : Value → Shared → Prop} (S : ZipSep2 z TI TO i1 i2 fp1 fp2) (D1 : Draws prog w A i1 fp1 n1 P1 St1) (D2 : Draws prog w A i2 fp2 n2 P2 St2)
    (hz : IsZipX s.heap z TI TO x b) (hx : x = .none ∨ ∃ T : Addr, x = rawInt T) (hTI : IsTupOf2 s.heap TI (.ref i1) (.ref i2)) (hTO : IsTupOf2 s.heap TO a1 a2) (st1 : St1 i s.heap) (st2 : St2 i s.heap) (hlt1 : i < n1) (hlt2 : i < n2)
    (hQ : ∀ x1 x2 h' tk x' b', P1 i x1 → P2 i x2 → IsZipX h' z TI TO x' b' → (x' = .none ∨ ∃ T : Addr, x' = rawInt T) → (∃ a1 a2, IsTupOf2 h' TO a1 a2) → St1 (i + 1) h' → St2 (i + 1) h' → IsTupOf2 h' s.heap.objs.size x1 x2 → h'.objs.size = s.heap.objs.size + 1 →
      (∀ c o, c ≠ z → c ≠ TO → c ≠ i1 → c ≠ i2 → s.heap.get? c = some o → h'.get? c = some o) → Q (.ref s.heap.objs.size) { s with heap := h', toks := tk }) :
    wpAny (model prog w) A (Builtin.«zip.__next__» ⟨[.ref z], []⟩) (fun fin s' => ∃ v, fin = .done (.ret v) ∧ Q v s') E s := by
  obtain ⟨hp, g, d, tk0, os⟩ := s
  show wpAny _ _ (field (.ref z) 2 >>= _) _ _ _
  refine wpAny_bind (wpAny_field hz rfl (x := .bool false) rfl ?_)
  show wpAny _ _ (field (.ref z) 3 >>= _) _ _ _
  refine wpAny_bind (wpAny_field hz rfl (x := .ref TI) rfl ?_)
  refine wpAny_bind (wpAny_seqItems hTI rfl ?_)
  show wpAny _ _ (Builtin.SmallTypes.ownedTupleIsFree (.ref z) >>= _) _ _ _
  refine wpAny_bind (zipX_free hz hx ?_ fun g0 hz0 hs0 => ?_)
  · simp only [if_true]
    refine wpAny_bind (wpAny_rule (wpAny_bind (wpAny_field hz rfl (x := .ref TO) rfl ?_)))
    refine wpAny_bind (wpAny_setField_rec hz (by simp) fun g0 hz0 hs0 => ?_)
    replace hz0 : IsZipX g0 z TI TO .ellipsis b := hz0
    replace hs0 : Heap.SameBut z hp g0 := hs0
    refine wpAny_bind ?_
    simp only [List.zipIdx_cons, List.zipIdx_nil, List.forIn_cons, List.forIn_nil]
    refine wpAny_bind (wpAny_bind (wpAny_onRaise ?_))
    show wpAny _ _ (Builtin.SmallTypes.nextOf (.ref i1) >>= _) _ _ ⟨g0, g, d, tk0, os⟩
    refine wpAny_bind (D1.item i _ _ _ hlt1 (D1.over st1 hs0 S.zf1) fun x1 p1 tk1 hx1 sn1 hp1 => wpAny_pure ?_)
    replace hp1 : Heap.SameBut i1 g0 p1 := hp1
    have hU1 : IsTupOf2 p1 TO a1 a2 := hp1.extBut _ _ S.Ti1 (hs0.extBut _ _ S.TOz hTO)
    refine wpAny_bind (wpAny_seqItems (s := ⟨p1, g, d, tk1, os⟩) hU1 rfl ?_)
    refine wpAny_bind (updateSeq_IsTupOf2 (s := ⟨p1, g, d, tk1, os⟩) hU1 fun g1 hT1 hs1 => ?_)
    replace hT1 : IsTupOf2 g1 TO x1 a2 := hT1
    replace hs1 : Heap.SameBut TO p1 g1 := hs1
    refine wpAny_bind (wpAny_letGo (wpAny_pure ?_))
    refine wpAny_bind (wpAny_bind (wpAny_onRaise ?_))
    show wpAny _ _ (Builtin.SmallTypes.nextOf (.ref i2) >>= _) _ _ ⟨g1, g, d, tk1, os⟩
    refine wpAny_bind (D2.item i _ _ _ hlt2 (D2.over (D2.over (D2.over st2 hs0 S.zf2) hp1 S.sep1_2) hs1 S.Tf2) fun x2 p2 tk2 hx2 sn2 hp2 => wpAny_pure ?_)
    replace hp2 : Heap.SameBut i2 g1 p2 := hp2
    have hU2 : IsTupOf2 p2 TO x1 a2 := hp2.extBut _ _ S.Ti2 hT1
    refine wpAny_bind (wpAny_seqItems (s := ⟨p2, g, d, tk2, os⟩) hU2 rfl ?_)
    refine wpAny_bind (updateSeq_IsTupOf2 (s := ⟨p2, g, d, tk2, os⟩) hU2 fun g2 hT2 hs2 => ?_)
    replace hT2 : IsTupOf2 g2 TO x1 x2 := hT2
    replace hs2 : Heap.SameBut TO p2 g2 := hs2
    refine wpAny_bind (wpAny_letGo (wpAny_pure (wpAny_pure ?_)))
    refine wpAny_bind (wpAny_seqItems (s := ⟨g2, g, d, tk2, os⟩) hT2 rfl (wpAny_bind (wpAny_newTuple ?_)))
    have hsz : g2.objs.size = hp.objs.size := by rw [hs2.1, hp2.1, hs1.1, hp1.1, hs0.1]
    have hzz : IsZipX g2 z TI TO .ellipsis b := (hs2.extBut _ _ S.TOz.symm (hp2.extBut _ _ S.zi2 (hs1.extBut _ _ S.TOz.symm (hp1.extBut _ _ S.zi1 hz0))))
    have hkk : ∀ c o, c ≠ z → c ≠ TO → c ≠ i1 → c ≠ i2 → hp.get? c = some o → g2.get? c = some o := fun c o cz cT c1 c2 e =>
      hs2.extBut _ _ cT (hp2.extBut _ _ c2 (hs1.extBut _ _ cT (hp1.extBut _ _ c1 (hs0.extBut _ _ cz e))))
    have hj1 : St1 (i + 1) g2 := D1.over (D1.over (D1.over sn1 hs1 S.Tf1) hp2 S.sep2_1) hs2 S.Tf1
    have hj2 : St2 (i + 1) g2 := D2.over sn2 hs2 S.Tf2
    have hzlt : z < g2.objs.size := Heap.lt_size hzz
    show wpAny _ _ (Builtin.SmallTypes.ownedTupleHandOut (.ref z) (.ref g2.objs.size) >>= _) _ _ ⟨g2.push { cls := .type "tuple", data := .seq #[x1, x2] }, g, d, tk2, os⟩
    refine wpAny_bind ?_
    unfold Builtin.SmallTypes.ownedTupleHandOut
    have hz6 : IsZipX (g2.push { cls := .type "tuple", data := .seq #[x1, x2] }) z TI TO .ellipsis b := Heap.get?_push_of_some _ hzz
    refine wpAny_bind (wpAny_setField_rec hz6 (by simp) fun h7 hz7 hs7 => ?_)
    replace hz7 : IsZipX h7 z TI TO (rawInt g2.objs.size) b := hz7
    refine wpAny_setField_rec hz7 (by simp) fun h8 hz8 hs8 => ?_
    replace hz8 : IsZipX h8 z TI TO (rawInt g2.objs.size) false := hz8
    replace hs7 : Heap.SameBut z (g2.push { cls := .type "tuple", data := .seq #[x1, x2] }) h7 := hs7
    replace hs8 : Heap.SameBut z h7 h8 := hs8
    have up : ∀ c o, c ≠ z → g2.get? c = some o → h8.get? c = some o := fun c o c1 e => hs8.extBut _ _ c1 (hs7.extBut _ _ c1 (Heap.get?_push_of_some _ e))
    have hT8 : IsTupOf2 h8 g2.objs.size x1 x2 := hs8.extBut _ _ (Nat.ne_of_gt hzlt) (hs7.extBut _ _ (Nat.ne_of_gt hzlt) (Heap.get?_push_size _ rfl))
    have hz9 : h8.objs.size = g2.objs.size + 1 := by rw [hs8.1, hs7.1, Heap.size_push]
    rw [hsz] at hz8 hT8 hz9
    refine wpAny_pure ⟨_, rfl, ?_⟩
    show Q (.ref g2.objs.size) ⟨h8, g, d, tk2, os⟩
    rw [hsz]
    exact hQ x1 x2 h8 tk2 _ _ hx1 hx2 hz8 (.inr ⟨_, rfl⟩) ⟨_, _, up _ _ S.TOz hT2⟩ (D1.frame _ _ _ hj1 fun b hb o e => up b o (fun q => S.zf1 (q ▸ hb)) e) (D2.frame _ _ _ hj2 fun b hb o e => up b o (fun q => S.zf2 (q ▸ hb)) e) hT8 hz9 fun c o cz cT c1 c2 e => up c o cz (hkk c o cz cT c1 c2 e)
  · replace hs0 : Heap.SameBut z hp g0 := hs0
    simp only [Bool.false_eq_true, if_false]
    refine wpAny_bind ?_
    rw [← Array.forIn_toList]
    simp only [List.forIn_cons, List.forIn_nil]
    refine wpAny_bind (wpAny_bind (wpAny_holding ?_))
    show wpAny _ _ (Builtin.SmallTypes.nextOf (.ref i1) >>= _) _ _ ⟨g0, g, d, tk0, os⟩
    refine wpAny_bind (D1.item i _ _ _ hlt1 (D1.over st1 hs0 S.zf1) fun x1 p1 tk1 hx1 sn1 hp1 => wpAny_pure ?_)
    replace hp1 : Heap.SameBut i1 g0 p1 := hp1
    refine wpAny_pure ?_
    refine wpAny_bind (wpAny_bind (wpAny_holding ?_))
    show wpAny _ _ (Builtin.SmallTypes.nextOf (.ref i2) >>= _) _ _ ⟨p1, g, d, tk1, os⟩
    refine wpAny_bind (D2.item i _ _ _ hlt2 (D2.over (D2.over st2 hs0 S.zf2) hp1 S.sep1_2) fun x2 p2 tk2 hx2 sn2 hp2 => wpAny_pure ?_)
    replace hp2 : Heap.SameBut i2 p1 p2 := hp2
    refine wpAny_pure (wpAny_pure ?_)
    show wpAny _ _ (newTuple [x1, x2] >>= _) _ _ ⟨p2, g, d, tk2, os⟩
    refine wpAny_bind (wpAny_newTuple ?_)
    have hsz : p2.objs.size = hp.objs.size := by rw [hp2.1, hp1.1, hs0.1]
    have hzz : IsZipX p2 z TI TO x true := hp2.extBut _ _ S.zi2 (hp1.extBut _ _ S.zi1 hz0)
    have hj1 : St1 (i + 1) p2 := D1.over sn1 hp2 S.sep2_1
    have hTO2 : IsTupOf2 p2 TO a1 a2 := hp2.extBut _ _ S.Ti2 (hp1.extBut _ _ S.Ti1 (hs0.extBut _ _ S.TOz hTO))
    refine wpAny_pure ⟨_, rfl, ?_⟩
    show Q (.ref p2.objs.size) _
    rw [hsz]
    refine hQ x1 x2 (p2.push { cls := .type "tuple", data := .seq #[x1, x2] }) tk2 _ _ hx1 hx2 (Heap.get?_push_of_some _ hzz) hx ⟨_, _, Heap.get?_push_of_some _ hTO2⟩ (D1.frame _ _ _ hj1 fun b hb o e => Heap.get?_push_of_some _ e) (D2.frame _ _ _ sn2 fun b hb o e => Heap.get?_push_of_some _ e) ?_ (by rw [Heap.size_push, hsz]) fun c o cz cT c1 c2 e => Heap.get?_push_of_some _ (hp2.extBut _ _ c2 (hp1.extBut _ _ c1 (hs0.extBut _ _ cz e)))
    rw [← hsz]
    exact Heap.get?_push_size _ rfl
/-- zip at its end: the first iterator has ended -/
theorem zipX_end {Q : Fin → Shared → Prop} (S : ZipSep2 z TI TO i1 i2 fp1 fp2) (D1 : Draws prog w A i1 fp1 n1 P1 St1)
    (hz : IsZipX s.heap z TI TO x b) (hx : x = .none ∨ ∃ T : Addr, x = rawInt T) (hTI : IsTupOf2 s.heap TI (.ref i1) (.ref i2)) (st1 : St1 n1 s.heap)
    (hE : ∀ h' e, (∀ c o, c ≠ z → c ≠ i1 → s.heap.get? c = some o → h'.get? c = some o) → (∃ o, h'.get? e = some o ∧ o.cls = .type "StopIteration") → E (.ref e) { s with heap := h' }) :
    wpAny (model prog w) A (Builtin.«zip.__next__» ⟨[.ref z], []⟩) Q E s := by
  obtain ⟨hp, g, d, tk0, os⟩ := s
  show wpAny _ _ (field (.ref z) 2 >>= _) _ _ _
  refine wpAny_bind (wpAny_field hz rfl (x := .bool false) rfl ?_)
  show wpAny _ _ (field (.ref z) 3 >>= _) _ _ _
  refine wpAny_bind (wpAny_field hz rfl (x := .ref TI) rfl ?_)
  refine wpAny_bind (wpAny_seqItems hTI rfl ?_)
  show wpAny _ _ (Builtin.SmallTypes.ownedTupleIsFree (.ref z) >>= _) _ _ _
  refine wpAny_bind (zipX_free hz hx ?_ fun g0 hz0 hs0 => ?_)
  · simp only [if_true]
    refine wpAny_bind (wpAny_rule (wpAny_bind (wpAny_field hz rfl (x := .ref TO) rfl ?_)))
    refine wpAny_bind (wpAny_setField_rec hz (by simp) fun g0 hz0 hs0 => ?_)
    replace hz0 : IsZipX g0 z TI TO .ellipsis b := hz0
    replace hs0 : Heap.SameBut z hp g0 := hs0
    refine wpAny_bind ?_
    simp only [List.zipIdx_cons, List.zipIdx_nil, List.forIn_cons, List.forIn_nil]
    refine wpAny_bind (wpAny_bind (wpAny_onRaise ?_))
    show wpAny _ _ (Builtin.SmallTypes.nextOf (.ref i1) >>= _) _ _ ⟨g0, g, d, tk0, os⟩
    refine wpAny_bind (D1.done ⟨g0, g, d, tk0, os⟩ _ _ (D1.over st1 hs0 S.zf1) fun q e hq he => ?_)
    replace hq : Heap.ExtBut i1 g0 q := hq
    obtain ⟨oe, hoe, hce⟩ := he
    replace hoe : q.get? e = some oe := hoe
    have hzq : IsZipX q z TI TO .ellipsis b := hq _ _ S.zi1 hz0
    have hez : e ≠ z := fun y => by subst y; rw [hzq] at hoe; cases hoe; simp at hce
    refine wpAny_setField_rec (s := ⟨q, g, d, tk0, os⟩) hzq (by simp) fun q' _ hq' => ?_
    replace hq' : Heap.SameBut z q q' := hq'
    exact hE q' e (fun c o cz c1 y => hq'.extBut _ _ cz (hq _ _ c1 (hs0.extBut _ _ cz y))) ⟨oe, hq'.extBut _ _ hez hoe, hce⟩
  · replace hs0 : Heap.SameBut z hp g0 := hs0
    simp only [Bool.false_eq_true, if_false]
    refine wpAny_bind ?_
    rw [← Array.forIn_toList]
    simp only [List.forIn_cons, List.forIn_nil]
    refine wpAny_bind (wpAny_bind (wpAny_holding ?_))
    show wpAny _ _ (Builtin.SmallTypes.nextOf (.ref i1) >>= _) _ _ ⟨g0, g, d, tk0, os⟩
    refine wpAny_bind (D1.done ⟨g0, g, d, tk0, os⟩ _ _ (D1.over st1 hs0 S.zf1) fun q e hq he => ?_)
    replace hq : Heap.ExtBut i1 g0 q := hq
    exact hE q e (fun c o cz c1 y => hq _ _ c1 (hs0.extBut _ _ cz y)) he
end
section
variable {prog : Program} {w : World} {A : Around} {E : Value → Shared → Prop} {s : Shared}
/-- a turn of enumerate, the inner iterator's turn being given -/
theorem enumN_item {e it : Addr} {i : Nat} {old : Value} {Q : Value → Shared → Prop} (he : IsEnum s.heap e it i old)
    (inner : wpAny (model prog w) A (Builtin.SmallTypes.nextOf (.ref it)) (fun x s1 => IsEnum s1.heap e it i old ∧
      ∀ h' tk, IsEnumOut h' e it ((i : Int) + 1) x s1.heap.objs.size → h'.get? s1.heap.objs.size = some { cls := .type "tuple", data := .seq #[.int i tk, x] } →
        (∀ b o, b ≠ e → s1.heap.get? b = some o → h'.get? b = some o) → Q (.ref s1.heap.objs.size) { s1 with heap := h', toks := s1.toks + 1 }) E s) :
    wpAny (model prog w) A (Builtin.«enumerate.__next__» ⟨[.ref e], []⟩) (fun fin s' => ∃ v, fin = .done (.ret v) ∧ Q v s') E s := by
  show wpAny _ _ (field (.ref e) 2 >>= _) _ _ _
  refine wpAny_bind (wpAny_field he rfl (x := .ref it) rfl ?_)
  refine wpAny_bind (wpAny_mono inner (fun x s1 hh => ?_) fun _ _ y => y)
  obtain ⟨he1, hQ⟩ := hh
  obtain ⟨h1, g, d, tk, os⟩ := s1
  show wpAny _ _ (field (.ref e) 3 >>= _) _ _ ⟨h1, g, d, tk, os⟩
  refine wpAny_bind (wpAny_field he1 rfl (x := rawInt i) rfl ?_)
  show wpAny _ _ (field (.ref e) 4 >>= _) _ _ ⟨h1, g, d, tk, os⟩
  refine wpAny_bind (wpAny_field he1 rfl (x := .none) rfl ?_)
  show wpAny _ _ (mkInt i >>= _) _ _ ⟨h1, g, d, tk, os⟩
  refine wpAny_bind (wpAny_mkInt ?_)
  show wpAny _ _ (setField (.ref e) 3 (rawInt ((i : Int) + 1)) >>= _) _ _ ⟨h1, g, d, tk + 1, os⟩
  refine wpAny_bind (wpAny_setField_rec he1 (by simp) fun h2 he2 hs2 => ?_)
  replace hs2 : Heap.SameBut e h1 h2 := hs2
  replace he2 : IsEnum h2 e it ((i : Int) + 1) old := he2
  show wpAny _ _ (setField (.ref e) 4 .none >>= _) _ _ ⟨h2, g, d, tk + 1, os⟩
  refine wpAny_bind (wpAny_setField_rec he2 (by simp) fun h3 he3 hs3 => ?_)
  replace hs3 : Heap.SameBut e h2 h3 := hs3
  replace he3 : IsEnum h3 e it ((i : Int) + 1) old := he3
  show wpAny _ _ (newTuple [.int i tk, x] >>= _) _ _ ⟨h3, g, d, tk + 1, os⟩
  refine wpAny_bind (wpAny_newTuple ?_)
  have hsz : h3.objs.size = h1.objs.size := by rw [hs3.1, hs2.1]
  have hel : e < h1.objs.size := Heap.lt_size he1
  have he4 : IsEnum (h3.push { cls := .type "tuple", data := .seq #[.int i tk, x] }) e it ((i : Int) + 1) old := Heap.get?_push_of_some _ he3
  have ht4 : (h3.push { cls := .type "tuple", data := .seq #[.int i tk, x] }).get? h3.objs.size = some { cls := .type "tuple", data := .seq #[.int i tk, x] } := Heap.get?_push_size _ rfl
  have hk4 : ∀ b o, b ≠ e → h1.get? b = some o → (h3.push { cls := .type "tuple", data := .seq #[.int i tk, x] }).get? b = some o := fun b o hbe hb =>
    Heap.get?_push_of_some _ (hs3.extBut b o hbe (hs2.extBut b o hbe hb))
  generalize h3.push { cls := .type "tuple", data := .seq #[.int i tk, x] } = h4 at he4 ht4 hk4
  show wpAny _ _ (Builtin.SmallTypes.ownedTupleIsFree (.ref e) >>= _) _ _ ⟨h4, g, d, tk + 1, os⟩
  rw [hsz] at ht4 ⊢
  refine wpAny_bind ?_
  unfold Builtin.SmallTypes.ownedTupleIsFree
  refine wpAny_bind (wpAny_field he4 rfl (x := .none) rfl (wpAny_pure ?_))
  simp only [if_true]
  refine wpAny_bind (wpAny_rule (wpAny_bind (wpAny_field he4 rfl (x := old) rfl ?_)))
  refine wpAny_bind (wpAny_setField_rec he4 (by simp) fun h5 he5 hs5 => ?_)
  replace hs5 : Heap.SameBut e h4 h5 := hs5
  replace he5 : IsEnum h5 e it ((i : Int) + 1) x := he5
  show wpAny _ _ (Builtin.SmallTypes.ownedTupleHandOut (.ref e) (.ref h1.objs.size) >>= _) _ _ ⟨h5, g, d, tk + 1, os⟩
  refine wpAny_bind ?_
  unfold Builtin.SmallTypes.ownedTupleHandOut
  refine wpAny_bind (wpAny_setField_rec he5 (by simp) fun h6 he6 hs6 => ?_)
  replace hs6 : Heap.SameBut e h5 h6 := hs6
  replace he6 : IsEnumOut h6 e it ((i : Int) + 1) x h1.objs.size := he6
  refine wpAny_setField_rec he6 (by simp) fun h7 he7 hs7 => ?_
  replace hs7 : Heap.SameBut e h6 h7 := hs7
  replace he7 : IsEnumOut h7 e it ((i : Int) + 1) x h1.objs.size := he7
  refine wpAny_bind (wpAny_letGo (wpAny_pure ⟨_, rfl, hQ h7 tk he7 ?_ ?_⟩))
  · exact hs7.extBut _ _ (Nat.ne_of_gt hel) (hs6.extBut _ _ (Nat.ne_of_gt hel) (hs5.extBut _ _ (Nat.ne_of_gt hel) ht4))
  · exact fun b o hbe hb => hs7.extBut b o hbe (hs6.extBut b o hbe (hs5.extBut b o hbe (hk4 b o hbe hb)))
theorem nextOf_zip {z TI TO : Addr} {x : Value} {b : Bool} {Q : Value → Shared → Prop} (hz : IsZipX s.heap z TI TO x b)
    (h : wpAny (model prog w) A.in1 (Builtin.«zip.__next__» ⟨[.ref z], []⟩) (fun fin s' => ∃ v, fin = .done (.ret v) ∧ Q v s') E s) : wpAny (model prog w) A (Builtin.SmallTypes.nextOf (.ref z)) Q E s := by
  have hT : s.TypeIs (.ref z) "zip" := ⟨_, hz, rfl⟩
  unfold Builtin.SmallTypes.nextOf
  refine wpAny_bind (wpAny_callSpecial?_slot (name := Str.ofString "__next__") hT F.slot_zip_next
    (wpAny_call_entry F.slot_zip_next hT F.entry_zip_next ?_ (F.args_zip_next_1 _)))
  refine wpAny_mono h (fun fin s' ⟨v, e, q⟩ => ?_) fun _ _ y => y
  subst e
  exact ⟨v, rfl, wpAny_pure q⟩
theorem next_enum {e it : Addr} {i : Int} {old : Value} {Q : Option Value → Shared → Prop} (he : IsEnum s.heap e it i old)
    (h : ∀ E' : Value → Shared → Prop, wpAny (model prog w) A.in1 (Builtin.«enumerate.__next__» ⟨[.ref e], []⟩) (fun fin s' => ∃ v, fin = .done (.ret v) ∧ Q (some v) s') E' s) : wpAny (model prog w) A (pyNext (.ref e)) Q E s := by
  have hT : s.TypeIs (.ref e) "enumerate" := ⟨_, he, rfl⟩
  unfold pyNext
  refine wpAny_bind (wpAny_attempt (wpAny_callSpecial?_slot (name := Str.ofString "__next__") hT F.slot_enumerate_next
    (wpAny_call_entry F.slot_enumerate_next hT F.entry_enumerate_next ?_ (F.args_enumerate_next_1 _))))
  refine wpAny_mono (h _) (fun fin s' ⟨v, e, q⟩ => ?_) fun _ _ y => y
  subst e
  exact ⟨v, rfl, wpAny_pure q⟩
theorem next_enum_zip_end {e z TI TO i1 i2 : Addr} {i : Int} {old x : Value} {b : Bool} {fp1 fp2 : List Addr} {n1 : Nat} {P1 : Nat → Value → Prop} {St1 : Nat → Heap → Prop} {Q : Option Value → Shared → Prop} (he : IsEnum s.heap e z i old)
    (S : ZipSep2 z TI TO i1 i2 fp1 fp2) (D1 : ∀ A' : Around, A'.handled = none → Draws prog w A' i1 fp1 n1 P1 St1) (hh : A.handled = none) (hz : IsZipX s.heap z TI TO x b) (hx : x = .none ∨ ∃ T : Addr, x = rawInt T) (hTI : IsTupOf2 s.heap TI (.ref i1) (.ref i2)) (st1 : St1 n1 s.heap)
    (hQ : ∀ h', (∀ c o, c ≠ z → c ≠ i1 → s.heap.get? c = some o → h'.get? c = some o) → Q none { s with heap := h' }) : wpAny (model prog w) A (pyNext (.ref e)) Q E s := by
  have hT : s.TypeIs (.ref e) "enumerate" := ⟨_, he, rfl⟩
  have hTz : s.TypeIs (.ref z) "zip" := ⟨_, hz, rfl⟩
  unfold pyNext
  refine wpAny_bind (wpAny_attempt (wpAny_callSpecial?_slot (name := Str.ofString "__next__") hT F.slot_enumerate_next
    (wpAny_call_entry F.slot_enumerate_next hT F.entry_enumerate_next ?_ (F.args_enumerate_next_1 _))))
  show wpAny _ _ (field (.ref e) 2 >>= _) _ _ _
  refine wpAny_bind (wpAny_field he rfl (x := .ref z) rfl ?_)
  unfold Builtin.SmallTypes.nextOf
  refine wpAny_bind (wpAny_bind (wpAny_callSpecial?_slot (name := Str.ofString "__next__") hTz F.slot_zip_next
    (wpAny_call_entry F.slot_zip_next hTz F.entry_zip_next ?_ (F.args_zip_next_1 _))))
  refine zipX_end S (D1 _ hh) hz hx hTI st1 fun h' x' he' hx' => ?_
  obtain ⟨o, ho, hc⟩ := hx'
  refine wpAny_bind (wpAny_isInstance (T := "StopIteration") (b := true) ⟨o, ho, hc⟩ isSubtype_stop ?_)
  exact wpAny_pure (hQ _ he')
end
/-- enumerate(zip(a, b)), a and b tuples: the items in new pairs, each in a new pair with its place -/
def IteZ (K : PySem.W.Frag) (a b : Addr) : It where
  go := fun i H => ∃ (xs ys : List V) (x y : V), SqT K H a xs ∧ SqT K H b ys ∧ xs[i]? = some x ∧ ys[i]? = some y
  yld := fun i H v H' => ∃ (T2 T3 : Addr) (x y : V), v = .ref T3 ∧ H T2 = none ∧ upd H T2 (.tup [x, y]) T3 = none ∧ H' = upd (upd H T2 (.tup [x, y])) T3 (.tup [.int (i : Nat), .ref T2]) ∧ (∀ xs, SqT K H a xs → xs[i]? = some x) ∧ ∀ ys, SqT K H b ys → ys[i]? = some y
  stop := fun i H => ∃ xs : List V, SqT K H a xs ∧ xs.length = i
theorem turnEnumZ {P : Program} {w : World} {K : PySem.W.Frag} {elts : List Expr} {kk : Nat} {tpos : Pos} {a b e z TI TO i1 i2 : Addr} (S : ZipSep2 z TI TO i1 i2 [i1, a] [i2, b]) (ha : a ≠ i1) (hb : b ≠ i2) (ez : e ≠ z) (eI : e ≠ TI) (eO : e ≠ TO) (e1 : e ≠ i1) (e2 : e ≠ i2) :
    Turn P w K (.Tuple elts kk tpos) (IteZ K a b) [e, z, TI, TO, i1, i2] e fun i h => (∃ old, IsEnum h e z ((i : Nat) : Int) old) ∧ (∃ x bb, IsZipX h z TI TO x bb ∧ (x = .none ∨ ∃ T : Addr, x = rawInt T)) ∧ IsTupOf2 h TI (.ref i1) (.ref i2) ∧ (∃ a1 a2, IsTupOf2 h TO a1 a2) ∧ h.IsTupleIter i1 a i ∧ h.IsTupleIter i2 b i where
  mem := List.mem_cons_self
  obj := by
    rintro i h ⟨⟨old, he⟩, ⟨x, bb, hz, _⟩, hTI, ⟨a1, a2, hTO⟩, ⟨o1, g1, _, d1⟩, ⟨o2, g2, _, d2⟩⟩ c hc
    have e' : c = e ∨ c = z ∨ c = TI ∨ c = TO ∨ c = i1 ∨ c = i2 := by simpa using hc
    rcases e' with q | q | q | q | q | q
    · rw [q]; exact ⟨_, he, fun v q => nomatch q⟩
    · rw [q]; exact ⟨_, hz, fun v q => nomatch q⟩
    · rw [q]; exact ⟨_, hTI, fun v q => nomatch q⟩
    · rw [q]; exact ⟨_, hTO, fun v q => nomatch q⟩
    · rw [q]; exact ⟨o1, g1, fun v q => by rw [d1] at q; cases q⟩
    · rw [q]; exact ⟨o2, g2, fun v q => by rw [d2] at q; cases q⟩
  keep := by
    rintro i h h' ⟨⟨old, he⟩, ⟨x, bb, hz, hx⟩, hTI, ⟨a1, a2, hTO⟩, h1, h2⟩ k
    exact ⟨⟨old, k e (by simp) _ he⟩, ⟨x, bb, k z (by simp) _ hz, hx⟩, k TI (by simp) _ hTI, ⟨a1, a2, k TO (by simp) _ hTO⟩, h1.at fun o q => k i1 (by simp) o q, h2.at fun o q => k i2 (by simp) o q⟩
  item := by
    intro X hP hw hK hc i pins s σ H E I hf ⟨⟨old, he⟩, ⟨x0, bb, hz, hx0⟩, hTI, ⟨a1, a2, hTO⟩, h1, h2⟩ ⟨xs, ys, x, y, hqx, hqy, hx, hy⟩
    subst hP hw hK
    obtain ⟨its, rv, p, _⟩ := I.tuple hqx
    obtain ⟨its2, rv2, p2, _⟩ := I.tuple hqy
    obtain ⟨u, hu, ru⟩ := rv.get hx
    obtain ⟨u2, hu2, ru2⟩ := rv2.get hy
    have lt1 : i < its.toArray.size := by rw [List.size_toArray]; exact (List.getElem?_eq_some_iff.mp hu).1
    have lt2 : i < its2.toArray.size := by rw [List.size_toArray]; exact (List.getElem?_eq_some_iff.mp hu2).1
    have hh : X.A.in1.in1.handled = none := I.ok.hd hc
    have hel := Heap.lt_size he
    refine next_enum he fun E' => enumN_item he (nextOf_zip hz (zipX_item S (Draws.tuple hh i1 a ha its.toArray) (Draws.tuple hh i2 b hb its2.toArray) hz hx0 hTI hTO ⟨h1, p⟩ ⟨h2, p2⟩ lt1 lt2 fun v1 v2 g1 tk x' b' hv1 hv2 hz' hx' hTO' s1' s2' hT hsz hk => ⟨?_, fun h' tk2 ho hT3 hk2 => ⟨_, rfl, wpAny_letOwnedTupleGo_enum ho fun h'' he'' sb => ?_⟩⟩))
    · exact hk _ _ ez eO e1 e2 he
    · have q1 : v1 = u := by
        have : its[i]? = some v1 := by simpa using hv1
        rw [hu] at this
        exact (Option.some.inj this).symm
      have q2 : v2 = u2 := by
        have : its2[i]? = some v2 := by simpa using hv2
        rw [hu2] at this
        exact (Option.some.inj this).symm
      subst q1 q2
      have hf1 : ∀ c ∈ [z, TI, TO, i1, i2], FpOk X pins H c := fun c hc => hf c (List.mem_cons_of_mem _ hc)
      have frT : H s.heap.objs.size = none := I.hok.fresh (Nat.le_refl _)
      have hlt : ∀ c ∈ [e, z, TI, TO, i1, i2], c < s.heap.objs.size := fun c hc => by
        have e' : c = e ∨ c = z ∨ c = TI ∨ c = TO ∨ c = i1 ∨ c = i2 := by simpa using hc
        rcases e' with q | q | q | q | q | q
        · rw [q]; exact hel
        · rw [q]; exact Heap.lt_size hz
        · rw [q]; exact Heap.lt_size hTI
        · rw [q]; exact Heap.lt_size hTO
        · rw [q]; obtain ⟨_, w1, _⟩ := h1; exact Heap.lt_size w1
        · rw [q]; obtain ⟨_, w1, _⟩ := h2; exact Heap.lt_size w1
      have I1 : Inv X pins σ (upd H s.heap.objs.size (.tup [x, y])) { s with heap := g1, toks := tk } :=
        I.turnedNew (t' := tk) (ch := [z, TI, TO, i1, i2]) (fun c o hb q => hk c o (fun q' => hb (by simp [q'])) (fun q' => hb (by simp [q'])) (fun q' => hb (by simp [q'])) (fun q' => hb (by simp [q'])) q) hf1 (Nat.le_refl _)
          ⟨by show 2 ≤ sizeLine; decide, [v1, v2], .cons ru (.cons ru2 .nil), ⟨_, hT, rfl, _, rfl⟩⟩
      have heg : e < g1.objs.size := by rw [hsz]; exact Nat.lt_succ_of_lt hel
      have fe : FpOk X pins (upd H s.heap.objs.size (.tup [x, y])) e := by
        obtain ⟨f0, f1⟩ := hf e List.mem_cons_self
        exact ⟨by rw [upd_ne (Nat.ne_of_lt hel)]; exact f0, f1⟩
      have hT3' : h''.get? g1.objs.size = some { cls := .type "tuple", data := .seq #[.int i tk2, .ref s.heap.objs.size] } := (sb.2 _ (Nat.ne_of_gt heg)).trans hT3
      have I2 : Inv X pins σ (upd (upd H s.heap.objs.size (.tup [x, y])) g1.objs.size (.tup [.int (i : Nat), .ref s.heap.objs.size])) { s with heap := h'', toks := tk + 1 } :=
        I1.turnedNew (t' := tk + 1) (ch := [e]) (fun c o hb q => (sb.2 c fun q' => hb (by simp [q'])).trans (hk2 c o (fun q' => hb (by simp [q'])) q)) (fun c hc => by cases List.mem_singleton.mp hc; exact fe) (Nat.le_refl _)
          ⟨by show 2 ≤ sizeLine; decide, [.int i tk2, .ref s.heap.objs.size], .cons ⟨_, rfl⟩ (.cons rfl .nil), ⟨_, hT3', rfl, _, rfl⟩⟩
      have up2 : ∀ c o, c ≠ e → g1.get? c = some o → h''.get? c = some o := fun c o ce q => (sb.2 c ce).trans (hk2 c o ce q)
      refine ⟨.ref g1.objs.size, _, I2, rfl, ⟨_, _, x, y, rfl, frT, I1.hok.fresh (Nat.le_refl _), rfl, fun l hl => by rw [I.tuple_inj hl hqx]; exact hx, fun l hl => by rw [I.tuple_inj hl hqy]; exact hy⟩, ⟨⟨.ref s.heap.objs.size, ?_⟩, ⟨x', b', up2 _ _ ez.symm hz', hx'⟩, ?_, ?_, s1'.1.at fun o q => up2 _ o e1.symm q, s2'.1.at fun o q => up2 _ o e2.symm q⟩, fun c hc => ?_⟩
      · have w1 : ((i + 1 : Nat) : Int) = (i : Int) + 1 := by omega
        rw [w1]; exact he''
      · exact up2 _ _ eI.symm (hk _ _ S.TIz S.TITO S.TIi1 S.TIi2 hTI)
      · obtain ⟨c1, c2, q⟩ := hTO'
        exact ⟨c1, c2, up2 _ _ eO.symm q⟩
      · have lc := hlt c hc
        have lg : c ≠ g1.objs.size := by rw [hsz]; exact Nat.ne_of_lt (Nat.lt_succ_of_lt lc)
        rw [upd_ne lg, upd_ne (Nat.ne_of_lt lc)]
        exact (hf c hc).1
  done := by
    intro X hP hw hK hc i pins s σ H E I hf ⟨⟨old, he⟩, ⟨x0, bb, hz, hx0⟩, hTI, ⟨a1, a2, hTO⟩, h1, h2⟩ ⟨xs, hqx, hx⟩
    subst hP hw hK
    obtain ⟨its, rv, p, _⟩ := I.tuple hqx
    have hl : its.toArray.size = i := by rw [List.size_toArray, ← rv.length]; exact hx
    refine next_enum_zip_end (n1 := its.toArray.size) he S (fun A' hh' => Draws.tuple hh' i1 a ha its.toArray) (I.ok.hd hc) hz hx0 hTI ⟨by rw [hl]; exact h1, p⟩ fun h' hk => ⟨rfl, I.turnedL (t' := s.toks) (ch := [e, z, TI, TO, i1, i2]) (fun c o hb q => hk c o (fun q' => hb (by simp [q'])) (fun q' => hb (by simp [q'])) q) hf⟩
  self := fun A i s Q E ⟨⟨_, he⟩, _⟩ h => wpAny_pyIter_enum he h
theorem meetsEnumZ {z TI TO : Addr} {f0 : Value} :
    Meets (Builtin.«enumerate.__new__» ⟨[.type "enumerate", .ref z], []⟩) fun _ R s => IsZip s.heap z TI TO f0 ∧
      R (.ok (.ret (.ref s.heap.objs.size))) { s with heap := s.heap.push { cls := .type "enumerate", data := .fields #[.none, .bool false, .ref z, rawInt 0, .none, .none] } } :=
  .of_wp fun prog w A R s h => by
    obtain ⟨hp, g, d, tk, os⟩ := s
    obtain ⟨hl, h⟩ := h
    have q1 : ∀ {A' : Around} {E Q : Value → Shared → Prop}, Q (.ref z) ⟨hp, g, d, tk, os⟩ → wpAny (model prog w) A' (pyIter (.ref z)) Q E ⟨hp, g, d, tk, os⟩ := fun q => wpAny_pyIter_zip hl q
    have hsub := sub_enumerate
    wp_walk using q1
    refine wpAny_stack_any fun st => wpAny_pure ?_
    split
    · rename_i c _ _ _ _ _
      cases (c == Value.type "enumerate") <;> (wp_walk using q1; exact ⟨_, rfl, h⟩)
    · wp_walk using q1
      exact ⟨_, rfl, h⟩
theorem callEnumZ {prog : Program} {w : World} {A : Around} {E : Value → Shared → Prop} {s : Shared} {z TI TO : Addr} {f0 : Value} {Q : Value → Shared → Prop} (hz : IsZip s.heap z TI TO f0)
    (h : ∀ h', IsEnum h' s.heap.objs.size z 0 .none → (∀ b o, s.heap.get? b = some o → h'.get? b = some o) → Q (.ref s.heap.objs.size) { s with heap := h' }) :
    wpAny (model prog w) A (call (.type "enumerate") [.ref z]) Q E s := by
  refine callType_new F.called_enumerate (by decide) (F.typeCall_enumerate_1 _) (F.newCall_enumerate_1 _) (fun obj => F.args_object_init_2 obj _) F.entry_enumerate_new meetsEnumZ ⟨hz, ?_⟩
  have he : IsEnum (s.heap.push { cls := .type "enumerate", data := .fields #[.none, .bool false, .ref z, rawInt 0, .none, .none] }) s.heap.objs.size z 0 .none := Heap.get?_push_size _ rfl
  exact ⟨⟨_, he, rfl⟩, h _ he fun b o x => Heap.get?_push_of_some _ x⟩
def iEnumZ (K : PySem.W.Frag) (ta : TA) : TI := fun σ H R => ta σ H fun vs H1 => ∃ a b xs ys, vs = [.ref a, .ref b] ∧ SqT K H1 a xs ∧ SqT K H1 b ys ∧ R (IteZ K a b) H1
theorem pi_enumZ {X : Cx} {e e2 : Expr} {ta : TA} {p pos p2 pos2 tpos : Pos} {elts : List Expr} {kk : Nat} (hg : Gl X "enumerate") (hm : X.mg "enumerate" = none) (hg2 : Gl X "zip") (hm2 : X.mg "zip" = none) (ha : PA X [e, e2] ta)
    (hs : starEach [e, e2] X.env = (false, eval e X.env) :: starEach [e2] X.env := by rfl) (hpl : (backTo pos2 (starEach [e2] X.env)).any (·.1) = false := by rfl) :
    PI X (.Tuple elts kk tpos) (.Call (.Name "enumerate" p) [.Call (.Name "zip" p2) [e, e2] [] pos2] [] pos) (iEnumZ X.K ta) := by
  refine ⟨fun pins s σ H R I h => ?_⟩
  refine Call_ (ld_blt I hg hm boot_enumerate (PyProof.Rows.callWith_type1 (PyProof.Rows.args_cons ?_ rfl) rfl rfl))
  refine Call_ (ld_blt I hg2 hm2 PyProof.Rows.boot_zip (PyProof.Rows.callWith_type1 (thn (ha.run pos2 pins s σ H _ I h) fun us s1 ⟨vs, H1, I1, r1, q1⟩ => ?_) hs hpl))
  obtain ⟨a, b, xs, ys, ex, hqx, hqy, q⟩ := q1
  subst ex
  cases r1 with
  | cons r rr =>
    cases rr with
    | cons r' rr =>
      cases rr
      cases r
      cases r'
      obtain ⟨its, rv, p1, _⟩ := I1.tuple hqx
      obtain ⟨its2, rv2, p3, _⟩ := I1.tuple hqy
      have la : a < s1.heap.objs.size := let ⟨_, w, _⟩ := p1; Heap.lt_size w
      have lb : b < s1.heap.objs.size := let ⟨_, w, _⟩ := p3; Heap.lt_size w
      refine RZ.call_zipT (show s1.heap.IsTuple a its.toArray from p1) (show s1.heap.IsTuple b its2.toArray from p3) fun h' hz hTI hTO h1 h2 hsz hk => PyProof.Rows.args_nil ?_
      refine callEnumZ (s := { s1 with heap := h' }) hz fun h'' he hk2 => wpAny_pyIter_enum he ?_
      have e5 : h'.objs.size = s1.heap.objs.size + 5 := hsz
      have I2 : Inv _ pins σ H1 { s1 with heap := h'' } := I1.kept (t' := s1.toks) fun c o q => hk2 c o (hk c o q)
      have fresh : ∀ c ∈ [h'.objs.size, s1.heap.objs.size + 4, s1.heap.objs.size + 2, s1.heap.objs.size + 3, s1.heap.objs.size, s1.heap.objs.size + 1], FpOk _ pins H1 c := fun c hc => by
        have e' : c = h'.objs.size ∨ c = s1.heap.objs.size + 4 ∨ c = s1.heap.objs.size + 2 ∨ c = s1.heap.objs.size + 3 ∨ c = s1.heap.objs.size ∨ c = s1.heap.objs.size + 1 := by simpa using hc
        have hle : s1.heap.objs.size ≤ c := by
          rcases e' with z | z | z | z | z | z
          · rw [z, e5]; exact Nat.le_add_right _ _
          · rw [z]; exact Nat.le_add_right _ _
          · rw [z]; exact Nat.le_add_right _ _
          · rw [z]; exact Nat.le_add_right _ _
          · rw [z]; exact Nat.le_refl _
          · rw [z]; exact Nat.le_add_right _ _
        exact I1.fpOk hle (I1.hok.fresh hle)
      have ne : ∀ k : Nat, k < 5 → h'.objs.size ≠ s1.heap.objs.size + k := fun k hk' q => by
        have : s1.heap.objs.size + 5 = s1.heap.objs.size + k := e5.symm.trans q
        omega
      refine ⟨h'.objs.size, [h'.objs.size, s1.heap.objs.size + 4, s1.heap.objs.size + 2, s1.heap.objs.size + 3, s1.heap.objs.size, s1.heap.objs.size + 1], _, _, H1, rfl, I2,
        turnEnumZ (zip_sep2 (N := s1.heap.objs.size) (fp1 := [a]) (fp2 := [b]) (fun c hc => by cases List.mem_singleton.mp hc; exact la) (fun c hc => by cases List.mem_singleton.mp hc; exact lb)) (Nat.ne_of_lt la) (Nat.ne_of_lt (Nat.lt_succ_of_lt lb)) (ne 4 (by decide)) (ne 2 (by decide)) (ne 3 (by decide)) (ne 0 (by decide)) (ne 1 (by decide)),
        ⟨⟨_, he⟩, ⟨_, _, hk2 _ _ hz, .inl rfl⟩, hk2 _ _ hTI, ⟨_, _, hk2 _ _ hTO⟩, h1.at fun o q => hk2 _ o q, h2.at fun o q => hk2 _ o q⟩, fresh, q⟩
theorem walk_enumZ {K : PySem.W.Frag} {a b : Addr} {xs ys : List V} (hl : xs.length = ys.length) : Walk (IteZ K a b) xs.length (fun H => SqT K H a xs ∧ SqT K H b ys)
    fun i H v H' => ∃ (T2 T3 : Addr) (x y : V), v = .ref T3 ∧ H T2 = none ∧ upd H T2 (.tup [x, y]) T3 = none ∧ H' = upd (upd H T2 (.tup [x, y])) T3 (.tup [.int (i : Nat), .ref T2]) ∧ xs[i]? = some x ∧ ys[i]? = some y where
  goes := fun i _ hi w => ⟨xs, ys, xs[i], ys[i]'(by omega), w.1, w.2, List.getElem?_eq_getElem hi, List.getElem?_eq_getElem (by omega)⟩
  stops := fun _ w => ⟨xs, w.1, rfl⟩
  yields := fun i H v H' _ w ⟨T2, T3, x, y, h1, h2, h3, h4, h5, h6⟩ => ⟨T2, T3, x, y, h1, h2, h3, h4, h5 xs w.1, h6 ys w.2⟩
section
variable {c : Ct} {Γ : List (Option Rs)} {tr : TA}
def ezI (p : (Int × Int) × Nat) : Im := .t [.d (.int ((p.2 : Nat) : Int)), .t [.d (.int p.1.1), .d (.int p.1.2)]]
/-- enumerate(zip(ns, ms)) -/
theorem i_enumZ {ns ms : List Int} (hl : ns.length = ms.length) (h : EvA c tr Γ true [.tuple (ns.map .int), .tuple (ms.map .int)]) : EvI c (iEnumZ c.K tr) Γ true ((ns.zip ms).zipIdx.map ezI) := fun H0 O H σ e R q =>
  h H0 O H σ e _ fun vs H1 r s => by
    obtain ⟨x, y, rfl, b1, b2⟩ := (BoAll.vm s).two
    obtain ⟨p, xs, rfl, sl, al⟩ := b1.tup'
    obtain ⟨p2, ys, rfl, sl2, al2⟩ := b2.tup'
    have := al.ints
    subst this
    have := al2.ints
    subst this
    refine ⟨p, p2, _, _, rfl, (sqT_same mns_same sl).sq, (sqT_same mns_same sl2).sq, q _ H1 r ⟨(e.on r).j, ?_⟩⟩
    have el : ((ns.zip ms).zipIdx.map ezI).length = (ns.map V.int).length := by simp; omega
    rw [el]
    refine (walk_enumZ (by simpa using hl)).mono (fun H h => ⟨(h.tup (e.on r).j sl).sq, (h.tup (e.on r).j sl2).sq⟩) fun i H v H' hi g w => ?_
    obtain ⟨T2, T3, x, y, rfl, hT2, hT3, rfl, hx, hy⟩ := w
    have hi' : i < ns.length := by simpa using hi
    have hi2 : i < ms.length := by omega
    have ex : x = .int ns[i] := by simpa [hi'] using hx.symm
    have ey : y = .int ms[i] := by simpa [hi2] using hy.symm
    subst ex ey
    have sm1 : Same H (upd H T2 (.tup [.int ns[i], .int ms[i]])) := fun b o z => by rw [upd_ne (ne_of_none z hT2)]; exact z
    have sm2 : Same (upd H T2 (.tup [.int ns[i], .int ms[i]])) (upd (upd H T2 (.tup [.int ns[i], .int ms[i]])) T3 (.tup [.int (i : Nat), .ref T2])) := fun b o z => by rw [upd_ne (ne_of_none z hT3)]; exact z
    refine ⟨fun b o z => sm2 _ _ (sm1 _ _ z), ezI ((ns[i], ms[i]), i), ?_, .tup (.inl (.inl upd_same)) (.cons (.leaf (.inl ⟨rfl, .int _⟩)) (.cons (.tup (.inl (.inl (sm2 _ _ upd_same))) (.cons (.leaf (.inl ⟨rfl, .int _⟩)) (.cons (.leaf (.inl ⟨rfl, .int _⟩)) .nil))) .nil))⟩
    have ez : (ns.zip ms)[i]? = some (ns[i], ms[i]) := by rw [List.getElem?_zip_eq_some]; exact ⟨List.getElem?_eq_getElem hi', List.getElem?_eq_getElem hi2⟩
    rw [List.getElem?_map, List.getElem?_zipIdx, ez]
    simp
end
section
variable {X : Cx} {K : PySem.W.Frag} (hK : X.K = K)
include hK
theorem k_enumZ {e e2 : Expr} {ta : TA} {p pos p2 pos2 tpos : Pos} {elts : List Expr} {kk : Nat} (hg : Gl X "enumerate") (hm : X.mg "enumerate" = none) (hg2 : Gl X "zip") (hm2 : X.mg "zip" = none) (ha : PA X [e, e2] ta)
    (hs : starEach [e, e2] X.env = (false, eval e X.env) :: starEach [e2] X.env := by rfl) (hpl : (backTo pos2 (starEach [e2] X.env)).any (·.1) = false := by rfl) :
    PI X (.Tuple elts kk tpos) (.Call (.Name "enumerate" p) [.Call (.Name "zip" p2) [e, e2] [] pos2] [] pos) (iEnumZ K ta) := hK ▸ pi_enumZ hg hm hg2 hm2 ha hs hpl
end
end Lm


/-! pairs of assignments, moves, renaming and rearranging -/
namespace Lm
open PySem PySem.Spec PyProof.Rows L2
def isAsgB (x : PyData) (v b : Int) : Bool := areInts x 0 (v - 1) && decide ((lenT x : Int) = b)
theorem Asg.isAsg {ns : List Int} {v b : Int} (h : Asg ns v) (hb : (ns.length : Int) = b) : isAsgB (.tuple (ns.map .int)) v b = true := by
  unfold isAsgB
  rw [areInts_of fun n hn => ⟨(h.rng n hn).1, by have := (h.rng n hn).2; omega⟩, lenT_ints, hb]
  simp
def sp_is_assignment (K : PySem.W.Frag) : Sp := spD K fun ds k d => ∃ x v b, ds = [x, .int v, .int b] ∧ SmallT x ∧ k = .v ∧ d = .bool (isAsgB x v b)
def sp_check_pair (K : PySem.W.Frag) : Sp := spD K fun ds k d => ∃ (ns ms : List Int), ds = [.tuple (ns.map .int), .tuple (ms.map .int)] ∧ Asg ns 5 ∧ Asg ms 5 ∧ ns.length = ms.length ∧ k = .v ∧ d = .none
abbrev mvT (p : (Int × Int) × Nat) : PyData := .tuple [.int (p.2 : Nat), .int p.1.1, .int p.1.2]
def movesD (ns ms : List Int) : List PyData := ((ns.zip ms).zipIdx.filter fun p => !decide (p.1.1 = p.1.2)).map mvT
def sp_moves (K : PySem.W.Frag) : Sp := spD K fun ds k d => ∃ (ns ms : List Int), ds = [.tuple (ns.map .int), .tuple (ms.map .int)] ∧ Asg ns 5 ∧ Asg ms 5 ∧ ns.length = ms.length ∧ k = .o ∧ d = .list (movesD ns ms)
def ne1 (a b : Int) : Int := if a = b then 0 else 1
def sp_churn (K : PySem.W.Frag) : Sp := spD K fun ds k d => ∃ (ns ms : List Int), ds = [.tuple (ns.map .int), .tuple (ms.map .int)] ∧ Asg ns 5 ∧ Asg ms 5 ∧ ns.length = ms.length ∧ k = .v ∧ d = .int (zs ne1 ns ms)
theorem moves_zs : ∀ (ns ms : List Int) (n : Nat), ns.length = ms.length → (((((ns.zip ms).zipIdx n).filter fun p => !decide (p.1.1 = p.1.2)).length : Nat) : Int) = zs ne1 ns ms
  | [], [], _, _ => rfl
  | a :: ns, b :: ms, n, h => by
    have ih := moves_zs ns ms (n + 1) (by simpa using h)
    rw [zs_cons, ← ih, List.zip_cons_cons, List.zipIdx_cons, List.filter_cons]
    by_cases q : a = b
    · simp [q, ne1]
    · simp [q, ne1]
      omega
  | [], _ :: _, _, h => by simp at h
  | _ :: _, [], _, h => by simp at h
theorem movesD_len {ns ms : List Int} (h : ns.length = ms.length) : ((movesD ns ms).length : Int) = zs ne1 ns ms := by
  unfold movesD
  rw [List.length_map]
  exact moves_zs ns ms 0 h
def backI (os : List Int) : List Int := (upI 0 os.length).map fun i => (os.idxOf i : Int)
variable {ns ms os : List Int} {v m b : Int}
theorem backI_len : (backI os).length = os.length := by simp [backI, upI]
theorem IsOrd.back (o : IsOrd os m) : IsOrd (backI os) m := by
  have hl := o.len
  refine ⟨by rw [backI_len]; exact hl, ?_, fun n hn => ?_⟩
  · unfold backI
    rw [List.nodup_iff_pairwise_ne, List.pairwise_map]
    refine List.Pairwise.imp_of_mem ?_ (List.nodup_iff_pairwise_ne.mp (nodup_upI os.length))
    intro a c ha hc hne e
    have a1 := mem_upI.mp ha
    have c1 := mem_upI.mp hc
    obtain ⟨_, ga, _⟩ := o.idx (i := a) a1.1 (by omega)
    obtain ⟨_, gc, _⟩ := o.idx (i := c) c1.1 (by omega)
    have e' : os.idxOf a = os.idxOf c := by omega
    rw [e', gc] at ga
    exact hne (Option.some.inj ga).symm
  · obtain ⟨i, hi, rfl⟩ := List.mem_map.mp hn
    have a1 := mem_upI.mp hi
    obtain ⟨hj, _, _⟩ := o.idx (i := i) a1.1 (by omega)
    omega
theorem countsI_len : (countsI ns v).length = v.toNat := by simp [countsI, upI]
theorem countsI_get {i : Nat} (h : (i : Int) < v) : (countsI ns v).getD i 0 = (ns.count (i : Int) : Int) := by
  unfold countsI
  rw [List.getD_eq_getElem?_getD]
  have : i < v.toNat := by omega
  simp [upI, this]
theorem Asg.alc (h : Asg ns v) (hv : 0 ≤ v) : Alc (countsI ns v) v ns.length := by
  refine ⟨by rw [countsI_len]; omega, ?_, fun n hn => ?_⟩
  · exact count_sum v.toNat ns fun n hn => by have := h.rng n hn; omega
  · obtain ⟨i, _, rfl⟩ := List.mem_map.mp hn
    omega
theorem e_neg {c : Ct} {Γ : List (Option Rs)} {te : TE} {k : Kd} {i : Int} (h : Ev c te Γ k (.int i)) : Ev c (tUn (rU fun i => .int (-i)) te) Γ .v (.int (-i)) := fun H0 O H σ e Q q =>
  h H0 O H σ e _ fun v H1 r s => ⟨i, (Res.bo e s).int', q _ H1 r (.int _)⟩
/-- a list of data that is filled place by place with ints -/
structure DueD (ns os : List Int) (due : List PyData) (v : Int) (n : Nat) : Prop where
  len : (due.length : Int) = v
  flat : ∀ d ∈ due, flatD d = true
  got : ∀ j, j < n → due[(os.getD j 0).toNat]? = some (.int (ns.getD j 0))
theorem DueD.fl {due : List PyData} {n : Nat} (d : DueD ns os due v n) : flatAll due = true := flatAll_mem d.flat
theorem DueD.step {due : List PyData} {n : Nat} (d : DueD ns os due v n) (ho : IsOrd os v) (hn : n < os.length) : DueD ns os (due.set (os.getD n 0).toNat (.int (ns.getD n 0))) v (n + 1) := by
  have hl := d.len
  have r1 := ho.rng _ (gd_mem hn)
  have h1 : (os.getD n 0).toNat < due.length := by omega
  refine ⟨by rw [List.length_set]; exact d.len, fun x hx => ?_, fun j hj => ?_⟩
  · rcases List.mem_or_eq_of_mem_set hx with q | q
    · exact d.flat x q
    · rw [q]; rfl
  by_cases q : j = n
  · subst q
    rw [List.getElem?_set_self h1]
  · have hj' : j < n := by omega
    have hjl : j < os.length := by omega
    have r2 := ho.rng _ (gd_mem hjl)
    have ne : (os.getD n 0).toNat ≠ (os.getD j 0).toNat := fun e => by
      have e2 : os.getD j 0 = os.getD n 0 := by omega
      rw [gd_lt hn, gd_lt hjl] at e2
      exact q (nodup_inj ho.nd hjl hn e2)
    rw [List.getElem?_set_ne ne]
    exact d.got j hj'
theorem DueD.done {due : List PyData} (d : DueD ns os due v os.length) (ho : IsOrd os v) : due = (placedI ns os).map .int := by
  have hl := d.len
  have hol := ho.len
  apply List.ext_getElem
  · simp [placedI, upI]; omega
  · intro i h1 h2
    obtain ⟨hj, h3, _⟩ := ho.idx (i := (i : Int)) (by omega) (by omega)
    have g := d.got _ hj
    have e1 : os.getD (os.idxOf (i : Int)) 0 = i := by rw [List.getD_eq_getElem?_getD, h3]; rfl
    rw [e1] at g
    have e2 : ((i : Int)).toNat = i := by omega
    rw [e2, List.getElem?_eq_getElem h1] at g
    rw [Option.some.inj g]
    unfold placedI
    simp [upI]
def tupI (ns : List Int) : Im := .d (.tuple (ns.map .int))
theorem at_lastI {α : Type} (l : List α) (x : α) : atI (l ++ [x]) (-1) = some x := by
  unfold atI ixN
  have h1 : ¬ (0 : Int) ≤ -1 := by omega
  have hl : ((l ++ [x]).length : Int) = l.length + 1 := by simp
  rw [if_neg h1, hl, if_pos (by omega)]
  have h2 : (-1 + ((l.length : Int) + 1)).toNat = l.length := by omega
  show (l ++ [x])[(-1 + ((l.length : Int) + 1)).toNat]? = some x
  rw [h2]
  simp
end Lm


/-! moves that are not needed -/
namespace Lm
open PySem PySem.Spec PyProof.Rows L2
/-! ### out and in -/
def outI (i : Int) : List (Int × Int) → Int
  | [] => 0
  | p :: r => (if p.1 = i ∧ p.2 ≠ i then 1 else 0) + outI i r
def innI (i : Int) : List (Int × Int) → Int
  | [] => 0
  | p :: r => (if p.2 = i ∧ p.1 ≠ i then 1 else 0) + innI i r
theorem out_nn (i : Int) : ∀ z, 0 ≤ outI i z
  | [] => Int.le_refl _
  | p :: r => by have := out_nn i r; unfold outI; split <;> omega
theorem inn_nn (i : Int) : ∀ z, 0 ≤ innI i z
  | [] => Int.le_refl _
  | p :: r => by have := inn_nn i r; unfold innI; split <;> omega
theorem out_ex {i : Int} : ∀ {z}, 0 < outI i z → ∃ p ∈ z, p.1 = i ∧ p.2 ≠ i
  | [], h => by simp [outI] at h
  | q :: r, h => by
    by_cases w : q.1 = i ∧ q.2 ≠ i
    · exact ⟨q, by simp, w⟩
    · unfold outI at h
      rw [if_neg w] at h
      obtain ⟨p, hp, e⟩ := out_ex (i := i) (z := r) (by omega)
      exact ⟨p, by simp [hp], e⟩
theorem inn_ex {i : Int} : ∀ {z}, 0 < innI i z → ∃ p ∈ z, p.2 = i ∧ p.1 ≠ i
  | [], h => by simp [innI] at h
  | q :: r, h => by
    by_cases w : q.2 = i ∧ q.1 ≠ i
    · exact ⟨q, by simp, w⟩
    · unfold innI at h
      rw [if_neg w] at h
      obtain ⟨p, hp, e⟩ := inn_ex (i := i) (z := r) (by omega)
      exact ⟨p, by simp [hp], e⟩
variable {ns ms : List Int} {v : Int}
/-! ### lists with drawn items, drawn places -/
section
variable {c : Ct} {Γ : List (Option Rs)} {ta tb : TE} {k ka kb : Kd} {x : PyData}
end
end Lm


/-! the least churn is what goes over -/
namespace Lm
open PySem PySem.Spec PyProof.Rows L2
variable {f g h ns ms : List Int} {v : Int}
/-- all assignments of n buckets to v variants -/
def allL (v : Int) : Nat → List (List Int)
  | 0 => [[]]
  | n + 1 => (allL v n).flatMap fun r => (upI 0 v.toNat).map fun x => r ++ [x]
theorem mem_allL (hv : 0 ≤ v) : ∀ (n : Nat) (r : List Int), r ∈ allL v n ↔ r.length = n ∧ ∀ x ∈ r, 0 ≤ x ∧ x < v
  | 0, r => by
    constructor
    · intro h
      have : r = [] := by simpa [allL] using h
      subst this
      exact ⟨rfl, fun _ h => nomatch h⟩
    · rintro ⟨h, _⟩
      rw [List.eq_nil_of_length_eq_zero h]
      simp [allL]
  | n + 1, r => by
    unfold allL
    rw [List.mem_flatMap]
    constructor
    · rintro ⟨q, hq, h⟩
      obtain ⟨x, hx, rfl⟩ := List.mem_map.mp h
      obtain ⟨h1, h2⟩ := (mem_allL hv n q).mp hq
      refine ⟨by simp [h1], fun y hy => ?_⟩
      rcases List.mem_append.mp hy with w | w
      · exact h2 y w
      · rw [List.mem_singleton.mp w]
        have := mem_upI.mp hx
        omega
    · rintro ⟨h1, h2⟩
      have hne : r ≠ [] := fun z => by rw [z] at h1; simp at h1
      refine ⟨r.dropLast, (mem_allL hv n _).mpr ⟨by rw [List.length_dropLast]; omega, fun x hx => h2 x (List.dropLast_subset r hx)⟩, List.mem_map.mpr ⟨r.getLast hne, mem_upI.mpr ?_, List.dropLast_concat_getLast hne⟩⟩
      have := h2 _ (List.getLast_mem hne)
      omega
end Lm


/-! a list handed from one name to another, list.extend, tuples put together, all assignments -/
namespace Lm
open PySem PySem.Spec PyProof.Rows L2
section
variable {c : Ct} {H H' H0 H1 H2 H3 : Hp} {O : List Addr} {σ : L2.St} {Γ Γ' Γ1 : List (Option Rs)}
variable {te ta tb : TE} {k ka kb : Kd} {d : PyData} {i j : Int} {ds es : List PyData} {u : TS} {P : Out → Prop} {n m : Nat}
/-- t + u -/
theorem e_catT (ha : Ev c ta Γ .v (.tuple ds)) (hb : Ev c tb Γ .v (.tuple es)) (hl : ds.length + es.length ≤ 1000000) : Ev c (tOp (rAddA c.K) ta tb) Γ .v (.tuple (ds ++ es)) := fun H0 O H σ e Q q =>
  ha H0 O H σ e _ fun v H1 r1 s1 => hb H0 O H1 σ (e.on r1) _ fun u H2 r2 s2 => by
    have bv : Bo c (mns H2 O) v (.tuple ds) := Res.on e r1 r2 s1
    have bu : Bo c (mns H2 O) u (.tuple es) := s2
    obtain ⟨p, xs, rfl, s, al⟩ := Bo.tup' bv
    obtain ⟨p2, ys, rfl, s', al'⟩ := Bo.tup' bu
    refine .inr (.inl ⟨p, p2, xs, ys, rfl, rfl, (sqT_same mns_same s).sq, (sqT_same mns_same s').sq, by rw [al.len, al'.len]; exact sizeOk hl, fun hx => ?_, fun hx hy => ?_, fun _ _ => newTk (c := c) fun q' H3 hp sm tp => ?_⟩)
    · subst hx
      cases al
      exact q _ H2 (r1.tr r2) bu
    · subst hy
      cases al'
      exact q _ H2 (r1.tr r2) (by show Bo c (mns H2 O) _ _; rw [List.append_nil]; exact bv)
    · have r3 : Rr c H2 H3 := Rr.same sm
      have e2 := (e.on r1).on r2
      exact q _ H3 ((r1.tr r2).tr r3) (.tup (tpN_mns e2 r3 tp) ((al.app al').mono e2.j (r3.mns e2.j e2.okO)))
/-- xs.extend(a new list of flat things) -/
theorem s_ext (hx : Γ[n]? = some (some (.o (.list ds)))) (h : Ev c te Γ .o (.list es)) (hf : flatAll es = true) (hl : ds.length + es.length ≤ 1000000) (p : P (.nx (Γ.set n (some (.o (.list (ds ++ es))))))) : Sd c (tDrop (tBM c.K "list" rExtend (tVar n) (tCons te tNil))) Γ P := fun H0 O H σ D e s => by
  obtain ⟨q, xs, f, hq, hp, fa, qf, qO, _⟩ := e.write (es := ds ++ es) hx
  refine ⟨.ref q, hq, .inl ⟨rfl, xs, .inl (.inl hp)⟩, h H0 O H σ e _ fun v H2 r rs => ?_⟩
  obtain ⟨fp, fo, nd, new⟩ := rs
  obtain ⟨b, zs, g, rfl, rfl, hb, fb⟩ := fo.list'
  obtain ⟨_, bb⟩ := fb.flat0 hf
  have e2 := e.on r
  obtain ⟨q', xs', f', hq', hp', fa', qf', qO', wr⟩ := e2.write (es := ds ++ es) hx
  have : q' = q := by rw [hq] at hq'; cases hq'; rfl
  subst this
  have lx : xs'.length = ds.length := (fa'.bo fun a ha => e.okO a (qO' a ha)).len
  refine ⟨q', b, xs', zs, rfl, rfl, hp', hb, by rw [lx, bb.len]; exact sizeOk hl, s _ p O _ σ (wr (xs' ++ zs) ?_)⟩
  have := fa'.app (FoAll.leaves hf bb)
  rw [List.append_nil] at this
  exact this.up (fun _ _ s => sqT_upd hp' s) fun a ha o z => by
    have : a ≠ q' := fun w => qf' (w ▸ ha)
    rw [upd_ne this]; exact z
end
abbrev tupD (r : List Int) : PyData := .tuple (r.map .int)
end Lm


/-! own lists within an own list: rows[i][j] = .. -/
namespace Lm
open PySem PySem.Spec PyProof.Rows L2
variable {c : Ct} {H H' H0 H1 H2 H3 : Hp} {O : List Addr} {σ : L2.St} {Γ Γ' Γ1 : List (Option Rs)}
theorem FoAll.nth : ∀ {xs : List V} {ds : List PyData} {f : List Addr} {i : Nat} {d : PyData}, FoAll c H xs ds f → ds[i]? = some d →
    ∃ x g pre post, xs[i]? = some x ∧ Fo c H x d g ∧ f = pre ++ (g ++ post) ∧ ∀ (H' : Hp) (x' : V) (d' : PyData) (g' : List Addr), (∀ a xs, TpN c.K H a xs → TpN c.K H' a xs) → (∀ a ∈ pre ++ post, ∀ o, H a = some o → H' a = some o) → Fo c H' x' d' g' →
      FoAll c H' (xs.set i x') (ds.set i d') (pre ++ (g' ++ post))
  | _, _, _, _, _, .nil, h => by simp at h
  | _, _, _, 0, d, .cons (v := v) (f := f) (fs := fs) a b, h => by
    have e : _ = d := Option.some.inj h
    subst e
    exact ⟨v, f, [], fs, rfl, a, rfl, fun H' x' d' g' hT hk fo => FoAll.cons (f := g') (fs := fs) fo (b.up hT fun y hy => hk y (by simpa using hy))⟩
  | _, _, _, i + 1, d, .cons (v := v) (f := f) (fs := fs) a b, h => by
    obtain ⟨x, g, pre, post, h1, h2, h3, h4⟩ := FoAll.nth (i := i) b (by simpa using h)
    refine ⟨x, g, f ++ pre, post, by simpa using h1, h2, by rw [h3, List.append_assoc], fun H' x' d' g' hT hk fo => ?_⟩
    have r := h4 H' x' d' g' hT (fun y hy o z => hk y (by simp at hy ⊢; rcases hy with w | w <;> simp [w]) o z) fo
    rw [List.append_assoc]
    exact .cons (a.up hT fun y hy => hk y (by simp [hy])) r
end Lm


/-! choices and factorials -/
namespace Lm
open PySem PySem.Spec PyProof.Rows L2
def cho : Nat → Nat → Nat
  | _, 0 => 1
  | 0, _ + 1 => 0
  | n + 1, k + 1 => cho n k + cho n (k + 1)
end Lm


/-! products of choices -/
namespace Lm
open PySem PySem.Spec PyProof.Rows L2
def prodN : List Nat → Nat
  | [] => 1
  | a :: l => a * prodN l
/-- p things shared out, one choice after another -/
def mul2 (p : Nat) : List Nat → Nat
  | [] => 1
  | e :: es => cho p e * mul2 (p - e) es
end Lm


/-! states, their ways -/
namespace Lm
open PySem PySem.Spec PyProof.Rows L2
section
variable {X : Cx}
end
section
variable {c : Ct} {Γ : List (Option Rs)} {te ta tb : TE} {k ka kb : Kd} {u : TS} {P : Out → Prop} {n : Nat} {i j : Int}
end
def waysN (ns ls es : List Int) : Nat := prodN ((ns.zip ls).map fun p => cho p.1.toNat p.2.toNat) * mul2 es.sum.toNat (es.map Int.toNat)
/-- a state whose ways can be counted -/
structure StOk (ns ls es : List Int) : Prop where
  len : ns.length = ls.length
  l1 : ns.length ≤ 1000
  l2 : es.length ≤ 1000
  le : ∀ p ∈ ns.zip ls, 0 ≤ p.2 ∧ p.2 ≤ p.1 ∧ p.1 ≤ 20
  nn : ∀ e ∈ es, 0 ≤ e
  sum : es.sum ≤ 20
end Lm


/-! how many ways there are, told with factorials -/
namespace Lm
open PySem PySem.Spec PyProof.Rows L2
section
variable {cs as : List Int} (hl : cs.length = as.length) (hc : ∀ n ∈ cs, 0 ≤ n) (ha : ∀ n ∈ as, 0 ≤ n)
include hl hc ha
end
theorem shapedL (ns : List Int) : SeqAt.shaped (.list (ns.map .int)) = true := by
  simp [SeqAt.shaped, PyData.canLay0, PyData.canLayAll0, PyData.depth, PyData.depthAll, PySem.W.ke_canLayAll0, PySem.W.ke_depthAll]
end Lm


/-! slices of tuples; min and max of lists; sorted of lists; int of a truth; sums over three lists: what is in the middle -/
namespace Lm
open PySem PySem.Spec PyProof.Rows L2
section
variable {X : Cx} {K : PySem.W.Frag} (hK : X.K = K)
include hK
theorem k_min (hc : X.calm = true) : CallR X (.builtin "min") (rMin K) := hK ▸ cr_min hc
end
variable {c : Ct} {H H' H0 H1 H2 H3 : Hp} {O : List Addr} {Γ Γ' Γ1 : List (Option Rs)}
variable {te ta tb tx : TE} {tl th : TO} {k ka kb : Kd} {d x y z : PyData} {i j : Int} {a b : Bool} {ds es : List PyData}
def Eo (c : Ct) (t : TO) (Γ : List (Option Rs)) (o : Option Int) : Prop :=
  ∀ H0 O H σ, Env c H0 O H σ Γ → ∀ Q : Option Int → Hp → Prop, (∀ H2, Rr c H H2 → Q o H2) → t σ H Q
theorem o_none : Eo c tNoPart Γ none := fun H0 O H σ e Q q => q H Rr.rf
theorem o_some (h : Ev c te Γ k (.int i)) : Eo c (tPart te) Γ (some i) := fun H0 O H σ e Q q => h H0 O H σ e _ fun v H2 r s => ⟨i, (Res.bo e s).int', q H2 r⟩
def cutD {α : Type} (ds : List α) (lo hi : Option Int) : List α := (ds.drop (HT.sIx ds.length 0 lo)).take (HT.sIx ds.length ds.length hi - HT.sIx ds.length 0 lo)
theorem BoAll.cut {vs : List V} {lo hi : Option Int} (h : BoAll c H vs ds) : BoAll c H (cutV vs lo hi) (cutD ds lo hi) := by
  unfold cutV cutD
  rw [h.len]
  exact (h.drop _).take _
theorem e_sl {lo hi : Option Int} (h : Ev c te Γ .v (.tuple ds)) (h1 : Eo c tl Γ lo) (h2 : Eo c th Γ hi) : Ev c (tSl (rSlN c.K) te tl th) Γ .v (.tuple (cutD ds lo hi)) := fun H0 O H σ e Q q =>
  h H0 O H σ e _ fun v H1 r1 s1 => h1 H0 O H1 σ (e.on r1) _ fun H2 r2 => h2 H0 O H2 σ ((e.on r1).on r2) _ fun H3 r3 => by
    have r : Rr c H H3 := (r1.tr r2).tr r3
    obtain ⟨p, xs, rfl, s, al⟩ := Bo.tup' (Res.on e r1 (r2.tr r3) s1)
    refine ⟨p, xs, rfl, (sqT_same mns_same s).sq, fun w => ?_, fun _ => newTk (c := c) fun p' H4 hp sm tp => ?_⟩
    · refine q (.ref p) H3 r ?_
      have e1 : cutD ds lo hi = ds := by
        unfold cutD
        rw [← al.len, w.1, w.2, al.len]
        simp
      rw [e1]
      exact .tup s al
    · have r4 : Rr c H H4 := r.tr (Rr.same sm)
      exact q _ H4 r4 (.tup (tpN_mns e r4 tp) (al.cut.mono (e.on r).j ((Rr.same sm : Rr c H3 H4).mns (e.on r).j e.okO)))
theorem cutD_lo {α : Type} {ds : List α} {t : Nat} (h : t ≤ ds.length) : cutD ds (some (t : Int)) none = ds.drop t := by
  unfold cutD
  rw [HT.sIx_nat, HT.sIx_none, Nat.min_eq_left h]
  apply List.take_of_length_le
  simp
/-! min and max of a list -/
def mnL : List Int → Int
  | [] => 0
  | [n] => n
  | n :: m :: ns => if mnL (m :: ns) < n then mnL (m :: ns) else n
theorem mnL_mem : ∀ {ns : List Int}, 0 < ns.length → mnL ns ∈ ns
  | [n], _ => by simp [mnL]
  | n :: m :: ns, _ => by
    have := mnL_mem (ns := m :: ns) (by simp)
    unfold mnL
    split
    · exact List.mem_cons_of_mem _ this
    · simp
theorem mnL_le : ∀ {ns : List Int}, ∀ y ∈ ns, mnL ns ≤ y
  | [], _, h => nomatch h
  | [n], y, h => by rw [List.mem_singleton.mp h]; exact Int.le_refl _
  | n :: m :: ns, y, h => by
    unfold mnL
    rcases List.mem_cons.mp h with q | q
    · subst q; split <;> omega
    · have := mnL_le (ns := m :: ns) y q
      split <;> omega
def mxL : List Int → Int
  | [] => 0
  | [n] => n
  | n :: m :: ns => if mxL (m :: ns) > n then mxL (m :: ns) else n
theorem mxL_mem : ∀ {ns : List Int}, 0 < ns.length → mxL ns ∈ ns
  | [n], _ => by simp [mxL]
  | n :: m :: ns, _ => by
    have := mxL_mem (ns := m :: ns) (by simp)
    unfold mxL
    split
    · exact List.mem_cons_of_mem _ this
    · simp
theorem mxL_le : ∀ {ns : List Int}, ∀ y ∈ ns, y ≤ mxL ns
  | [], _, h => nomatch h
  | [n], y, h => by rw [List.mem_singleton.mp h]; exact Int.le_refl _
  | n :: m :: ns, y, h => by
    unfold mxL
    rcases List.mem_cons.mp h with q | q
    · subst q; split <;> omega
    · have := mxL_le (ns := m :: ns) y q
      split <;> omega
theorem e_minL {ns : List Int} (h : Ev c te Γ k (.list (ns.map .int))) (hl : 0 < ns.length) : Ev c (tCB (rMin c.K) (tCons te tNil)) Γ .v (.int (mnL ns)) := fun H0 O H σ e Q q =>
  h H0 O H σ e _ fun v H1 r s => by
    obtain ⟨p, xs, rfl, _, sl, al⟩ := (Res.bo e s).lst'
    have := al.ints
    subst this
    refine ⟨p, ns, rfl, sl, hl, fun m h1 h2 => ?_⟩
    have e1 : m = mnL ns := by
      have := h2 _ (mnL_mem hl)
      have := mnL_le m h1
      omega
    rw [e1]
    exact q _ H1 r (.int _)
theorem e_intB {b : Bool} (h : Ev c te Γ k (.bool b)) : Ev c (tCB (fun xs H Q => (∃ i, xs = [V.int i] ∧ Q (.int i) H) ∨ ∃ k, xs = [V.bl k] ∧ Q (.int (if k then 1 else 0)) H) (tCons te tNil)) Γ .v (.int (if b then 1 else 0)) :=
  d_cb (a_cons h a_nil) fun H O vs Q s q => by
    obtain ⟨x, rfl, bb⟩ := s.one
    exact .inr ⟨b, by rw [bb.bl'], q _ H Rr.rf (.int _)⟩
/-! sums over three lists -/
def z3 (F : Int → Int → Int → Int) (as bs cs : List Int) : Int := ((List.range as.length).map fun j => F (as.getD j 0) (bs.getD j 0) (cs.getD j 0)).sum
variable {F : Int → Int → Int → Int} {as bs cs as' bs' cs' : List Int}
variable {f g h : List Int} {v m : Int}
end Lm


/-! states, what can come next, and the ways on: the least changes -/
namespace Lm
open PySem PySem.Spec PyProof.Rows L2
abbrev gI (l : List Int) (i : Int) : Int := l.getD i.toNat 0
def lssI (p : Int) (l : List Int) : List Int := l.set p.toNat (gI l p - 1)
structure S3 where
  c : List Int
  l : List Int
  e : List Int
def optI (S : S3) (o : Int) : List Int :=
  if gI S.l o = 0 then [o] else (upI 0 S.e.length).filter fun i => decide (0 < gI S.e i) || (decide (i = o) && decide (gI S.l o < gI S.c o))
def aftI (S : S3) (o n : Int) : S3 := if n = o then ⟨lssI o S.c, S.l, S.e⟩ else ⟨lssI o S.c, lssI o S.l, lssI n S.e⟩
/-- a state that stands before the buckets f -/
structure St (v : Int) (S : S3) (f : List Int) : Prop where
  cl : (S.c.length : Int) = v
  ll : (S.l.length : Int) = v
  el : (S.e.length : Int) = v
  cs : ∀ i, 0 ≤ i ∧ i < v → gI S.c i = f.count i
  ls : ∀ i, 0 ≤ i ∧ i < v → 0 ≤ gI S.l i ∧ gI S.l i ≤ f.count i
  es : ∀ i, 0 ≤ i ∧ i < v → 0 ≤ gI S.e i ∧ (gI S.l i = 0 ∨ gI S.e i = 0)
  sum : S.l.sum = S.e.sum
  rng : ∀ n ∈ f, 0 ≤ n ∧ n < v
variable {v o n : Int} {S : S3} {f g : List Int}
theorem St.enn (h : St v S f) : ∀ n ∈ S.e, 0 ≤ n := fun n hn => by
  obtain ⟨k, hk, rfl⟩ := List.getElem_of_mem hn
  have := (h.es (k : Int) (by have := h.el; omega)).1
  unfold gI at this
  rw [Int.toNat_natCast, gd_lt hk] at this
  exact this
/-- a list comes before another, or is it -/
def lexLe : List Int → List Int → Prop
  | [], _ => True
  | _ :: _, [] => False
  | a :: as, b :: bs => a < b ∨ (a = b ∧ lexLe as bs)
/-! the state at the start -/
variable {as : List Int}
end Lm


/-! the choices of a bucket; the order of all assignments -/
namespace Lm
open PySem PySem.Spec PyProof.Rows L2
variable {v o n : Int} {S : S3} {f g f1 f2 g1 g2 as : List Int}
theorem St.front (h : St v S (f1 ++ o :: f2)) : St v S (o :: (f1 ++ f2)) := by
  have e : ∀ i : Int, (o :: (f1 ++ f2)).count i = (f1 ++ o :: f2).count i := fun i => by
    rw [List.count_cons, List.count_append, List.count_append, List.count_cons]; omega
  refine ⟨h.cl, h.ll, h.el, fun i hi => by rw [e]; exact h.cs i hi, fun i hi => by rw [e]; exact h.ls i hi, h.es, h.sum, fun n hn => h.rng n ?_⟩
  simp only [List.mem_cons, List.mem_append] at hn ⊢
  rcases hn with a | a | a
  · exact .inr (.inl a)
  · exact .inl a
  · exact .inr (.inr a)
theorem split_b {l : List Int} {b : Nat} (hb : b < l.length) : l = l.take b ++ l.getD b 0 :: l.drop (b + 1) := by
  have e : l.drop b = l.getD b 0 :: l.drop (b + 1) := by rw [List.drop_eq_getElem_cons hb, gd_lt hb]
  rw [← e, List.take_append_drop]
/-! the order of all assignments -/
def lexLt : List Int → List Int → Prop
  | a :: as, b :: bs => a < b ∨ (a = b ∧ lexLt as bs)
  | _, _ => False
theorem lexLt.le : ∀ {as bs : List Int}, lexLt as bs → lexLe as bs
  | [], _, _ => trivial
  | _ :: _, [], h => h.elim
  | a :: as, b :: bs, h => by
    unfold lexLt at h
    unfold lexLe
    rcases h with h | ⟨e, h⟩
    · exact .inl h
    · exact .inr ⟨e, h.le⟩
end Lm


/-! lists put together; promises about states, choices, and the least changes gone through -/
namespace Lm
open PySem PySem.Spec PyProof.Rows L2
section
variable {c : Ct} {H H' H0 H1 H2 H3 : Hp} {O : List Addr} {Γ Γ' Γ1 : List (Option Rs)}
variable {te ta tb tx : TE} {k ka kb : Kd} {d x y z : PyData} {i j : Int} {ds es : List PyData}
end
variable {v o n : Int} {S : S3} {f g as : List Int}
theorem St.at (h : St v S f) {b : Nat} (hb : b < f.length) : St v S (f.getD b 0 :: (f.take b ++ f.drop (b + 1))) := by
  have h' : St v S (f.take b ++ f.getD b 0 :: f.drop (b + 1)) := split_b hb ▸ h
  exact h'.front
end Lm


/-! list.index, list.count, in: over data; the first change and its promises -/
namespace L2
open PySem PySem.Spec PyProof.Rows
section
variable {X : Cx}
end
end L2
namespace Lm
open PySem PySem.Spec PyProof.Rows L2
section
variable {X : Cx} {K : PySem.W.Frag} (hK : X.K = K)
include hK
theorem k_lindex (hu : X.A.units + 65 < cLine) : MtR X "list.index" (rIndexD K) := hK ▸ mt_indexD hu
end
theorem rUnits5 {k : Nat} {A : Around} (hr : Room k A) : A.units + 65 < cLine := by have := hr.un; omega
section
variable {c : Ct} {H H' H0 H1 H2 H3 : Hp} {O : List Addr} {Γ Γ' Γ1 : List (Option Rs)}
variable {te ta tb tx : TE} {tr : TA} {k ka kb : Kd} {d x y z : PyData} {i j : Int} {ds es : List PyData}
theorem e_indexL {m : Nat} (ha : Ev c ta Γ ka (.list ds)) (hb : Ev c tb Γ kb d) (sl : SeqAt.shaped (.list ds) = true) (sd : SeqAt.shaped d = true) (hz : ds[m]? = some z) (hzd : PyData.eqv z d = true) (hno : ∀ (j : Nat) (z' : PyData), j < m → ds[j]? = some z' → PyData.eqv z' d = false) : Ev c (tBM c.K "list" (rIndexD c.K) ta (tCons tb tNil)) Γ .v (.int (m : Nat)) := fun H0 O H σ e Q q =>
  ha H0 O H σ e _ fun v H1 r1 s1 => by
    obtain ⟨p, xs, rfl, ok, sq, al⟩ := (Res.bo e s1).lst'
    refine ⟨.inl ⟨rfl, xs, sq⟩, a_cons hb a_nil H0 O H1 σ (e.on r1) _ fun vs H2 r2 s2 => ?_⟩
    obtain ⟨y, rfl, by2⟩ := BoAll.one s2
    have b1 : Bo c H2 (.ref p) (.list ds) := Res.bo e (Res.on e r1 r2 s1)
    exact ⟨p, y, d, ds, m, z, rfl, rfl, b1.dp, by2.dp, sl, sd, hz, hzd, hno, q _ H2 (r1.tr r2) (.int _)⟩
end
/-! promises -/
variable {v o n : Int} {S : S3} {f g as : List Int}
end Lm
namespace Lm
open PySem PySem.Spec PyProof.Rows L2
end Lm
namespace Lm
open PySem PySem.Spec PyProof.Rows L2
variable {c : Ct} {Γ : List (Option Rs)} {ta tb : TE} {ka kb : Kd}
end Lm


/-! found.append(left.pop(..)); orders as lists -/
namespace Lm
open PySem PySem.Spec PyProof.Rows L2
section
variable {c : Ct} {H H' H0 H1 H2 H3 : Hp} {O : List Addr} {Γ Γ' Γ1 : List (Option Rs)}
variable {te ta tb tx : TE} {tr : TA} {u : TS} {k ka kb : Kd} {d x y z : PyData} {i j : Int} {ds es : List PyData} {P : Out → Prop}
theorem bo_erase {xs : List V} {ds : List PyData} (h : BoAll c H xs ds) : ∀ k : Nat, BoAll c H (xs.eraseIdx k) (ds.eraseIdx k) := by
  induction xs generalizing ds with
  | nil => intro k; cases h; simp; exact .nil
  | cons v vs ih =>
    cases h with
    | cons b bs =>
      intro k
      cases k with
      | zero => exact bs
      | succ k => exact .cons b (ih bs k)
theorem flat_erase (h : flatAll ds = true) (k : Nat) : flatAll (ds.eraseIdx k) = true := flatAll_mem fun d hd => flatAll_one h (List.mem_of_mem_eraseIdx hd)
/-- xs.append(ys.pop(i)) -/
theorem s_popApp {n m : Nat} {Q : Int → Prop} (hx : Γ[n]? = some (some (.o (.list es)))) (hy : Γ[m]? = some (some (.o (.list ds)))) (hnm : n ≠ m) (hes : flatAll es = true) (hds : flatAll ds = true) (hb : EvN c tb Γ kb (SomeI Q)) (hQ : ∀ i, Q i → 0 ≤ i ∧ i < ds.length) (hl : es.length < 1000000) (hl2 : ds.length < 1000000)
    (p : ∀ i d, Q i → ds[i.toNat]? = some d → P (.nx ((Γ.set m (some (.o (.list (ds.eraseIdx i.toNat))))).set n (some (.o (.list (es ++ [d]))))))) :
    Sd c (tDrop (tBM c.K "list" rAppend (tVar n) (tCons (tBM c.K "list" rPopAt (tVar m) (tCons tb tNil)) tNil))) Γ P := fun H0 O H σ D e s => by
  obtain ⟨q, xs, f, hq, hp, fa, qf, qO, _⟩ := e.write (es := es) hx
  obtain ⟨r, ys, f2, hr, hrp, fa2, rf, rO, _⟩ := e.write (es := ds) hy
  refine ⟨.ref q, hq, .inl ⟨rfl, xs, .inl (.inl hp)⟩, .ref r, hr, .inl ⟨rfl, ys, .inl (.inl hrp)⟩, hb H0 O H σ e _ fun v d H2 hd r2 rs => ?_⟩
  obtain ⟨i, rfl, qi⟩ := hd
  have := (Res.bo e rs).int'
  subst this
  obtain ⟨i0, i1⟩ := hQ i qi
  have e2 := e.on r2
  obtain ⟨r', ys', f2', hr', hrp', fa2', rf', rO', wr2⟩ := e2.write (es := ds.eraseIdx i.toNat) hy
  have : r' = r := by rw [hr] at hr'; cases hr'; rfl
  subst this
  obtain ⟨ef, al⟩ := fa2'.flat0 hds
  have hk : i.toNat < ds.length := by omega
  obtain ⟨y, hy1, by1⟩ := al.gets (List.getElem?_eq_getElem hk)
  have yl := al.len
  refine ⟨r', ys', i, i.toNat, y, rfl, rfl, hrp', by omega, by omega, ?_, hy1, ?_⟩
  · unfold seqIndex?
    have h1 : ¬ i < 0 := by omega
    simp [h1, i0]
    omega
  have upt : ∀ zs : List V, ∀ a xs, TpN c.K H2 a xs → TpN c.K (upd H2 r' (.lst zs)) a xs := fun zs _ _ s => sqT_upd hrp' s
  have e3 := wr2 (ys'.eraseIdx i.toNat) (by
    rw [ef]
    refine FoAll.up (upt _) (fun a ha => nomatch ha) (FoAll.leaves (flat_erase hds _) (bo_erase al _)))
  have hx3 : (Γ.set m (some (.o (.list (ds.eraseIdx i.toNat)))))[n]? = some (some (.o (.list es))) := by rw [List.getElem?_set_ne (fun z => hnm z.symm)]; exact hx
  obtain ⟨q', xs', f', hq', hp', fa', qf', qO', wr⟩ := e3.write (es := es ++ [ds[i.toNat]]) hx3
  have : q' = q := by rw [hq] at hq'; cases hq'; rfl
  subst this
  have fy : flatD ds[i.toNat] = true := flatAll_one hds (List.getElem_mem hk)
  obtain ⟨ef', al'⟩ := fa'.flat0 hes
  have lx := al'.len
  refine ⟨q', xs', y, rfl, rfl, hp', by rw [lx, sizeLine_eq]; omega, s _ (p i ds[i.toNat] qi (List.getElem?_eq_getElem hk)) O _ σ (wr (xs' ++ [y]) ?_)⟩
  have b3 : Bo c (upd H2 r' (.lst (ys'.eraseIdx i.toNat))) y ds[i.toNat] := by1.flatTo (upt _) fy
  have := fa'.app (.cons (.leaf fy b3) .nil : FoAll c _ [y] [ds[i.toNat]] ([] ++ []))
  rw [List.append_nil, List.append_nil] at this
  exact this.up (fun _ _ s => sqT_upd hp' s) fun a ha o z => by
    have : a ≠ q' := fun w => qf' (w ▸ ha)
    rw [upd_ne this]; exact z
end
theorem ord_of_perm {acc : List Int} {m : Int} (h0 : 0 ≤ m) (hp : acc.Perm (upI 0 m.toNat)) : IsOrd acc m := by
  have hl := hp.length_eq
  refine ⟨by simp [upI] at hl; omega, hp.nodup_iff.mpr (nodup_upI _), fun n hn => ?_⟩
  have := mem_upI.mp (hp.mem_iff.mp hn)
  omega
end Lm


/-! all ways on from a state, in order, and their number -/
namespace Lm
open PySem PySem.Spec PyProof.Rows L2
variable {v o n : Int} {S : S3} {f g : List Int}
def waysS (S : S3) : Nat := waysN S.c S.l S.e
end Lm


/-! all ways on: by number, their numbers, the next one -/
namespace Lm
open PySem PySem.Spec PyProof.Rows L2
variable {v o n : Int} {S : S3} {f g : List Int}
/-! by number -/
def pickI (S : S3) (o : Int) : List Int → Nat → Int × Nat
  | [], i => (0, i)
  | n :: ns, i => if i < waysS (aftI S o n) then (n, i) else pickI S o ns (i - waysS (aftI S o n))
/-! the number -/
/-! the next one -/
theorem sum_le_pt : ∀ {as bs : List Int}, as.length = bs.length → (∀ j, j < as.length → as.getD j 0 ≤ bs.getD j 0) → as.sum ≤ bs.sum
  | [], [], _, _ => Int.le_refl _
  | a :: as, b :: bs, hl, h => by
    have h0 := h 0 (by simp)
    have := sum_le_pt (as := as) (bs := bs) (by simpa using hl) fun j hj => h (j + 1) (by simpa using hj)
    rw [List.sum_cons, List.sum_cons]
    have h0' : a ≤ b := h0
    omega
  | [], _ :: _, h, _ => by simp at h
  | _ :: _, [], h, _ => by simp at h
theorem St.ok (h : St v S f) (h20 : f.length ≤ 20) (h5 : v ≤ 5) : StOk S.c S.l S.e := by
  have cl := h.cl
  have ll := h.ll
  have el := h.el
  have cg : ∀ j, j < S.c.length → S.c.getD j 0 = f.count (j : Int) := fun j hj => by
    have := h.cs (j : Int) (by omega)
    unfold gI at this
    rwa [Int.toNat_natCast] at this
  have cs : S.c.sum = f.length := by
    have e : S.c = (upI 0 v.toNat).map fun i => (f.count i : Int) := by
      apply List.ext_getElem
      · simp [upI]; omega
      · intro i h1 h2
        have := cg i h1
        rw [gd_lt h1] at this
        rw [this]
        simp [upI]
    rw [e]
    exact count_sum v.toNat f fun n hn => by have := h.rng n hn; omega
  refine ⟨by omega, by omega, by omega, fun p hp => ?_, h.enn, ?_⟩
  · obtain ⟨i, hi, rfl⟩ := List.getElem_of_mem hp
    have i1 : i < S.c.length := by simp at hi; omega
    have i2 : i < S.l.length := by omega
    rw [List.getElem_zip]
    have a1 := cg i i1
    have a2 := h.ls (i : Int) (by omega)
    unfold gI at a2
    rw [Int.toNat_natCast, gd_lt i2] at a2
    rw [gd_lt i1] at a1
    have a3 : f.count (i : Int) ≤ f.length := List.count_le_length
    show 0 ≤ S.l[i] ∧ S.l[i] ≤ S.c[i] ∧ S.c[i] ≤ 20
    omega
  · rw [← h.sum]
    have := sum_le_pt (as := S.l) (bs := S.c) (by omega) fun j hj => by
      have a2 := h.ls (j : Int) (by omega)
      unfold gI at a2
      rw [Int.toNat_natCast] at a2
      have := cg j (by omega)
      omega
    omega
end Lm


/-! promises: by number, the number, the next one -/
namespace Lm
open PySem PySem.Spec PyProof.Rows L2
section
variable {X : Cx} {K : PySem.W.Frag} (hK : X.K = K)
include hK
end
section
variable {c : Ct} {Γ Γ' Γ1 : List (Option Rs)} {te ta tb : TE} {tr : TA} {u : TS} {k ka kb : Kd} {P : Out → Prop}
end
variable {v o n : Int} {S : S3} {f g as : List Int}
/-! the states on the way by number -/
def nS : S3 → List Int → Nat → Nat → S3 × Nat
  | S, o :: f, i, n + 1 => nS (aftI S o (pickI S o (optI S o) i).1) f (pickI S o (optI S o) i).2 n
  | S, _, i, _ => (S, i)
end Lm


/-! list(zip(a, b)), a and b tuples -/
namespace PySem.F
theorem zip_no_len : typeLookup (.type "zip") "__len__" = pure none := by rw [typeLookup_type, builtinLookup_eq_fast]; kernel_rfl
theorem zip_no_hint : typeLookup (.type "zip") "__length_hint__" = pure none := by rw [typeLookup_type, builtinLookup_eq_fast]; kernel_rfl
end PySem.F
namespace Lm
open PySem PySem.Spec PyProof.Rows L2
section
variable {prog : Program} {w : World} {A : Around} {E : Value → Shared → Prop} {s : Shared}
/-- next(z) -/
theorem pyNext_zip {z TI TO : Addr} {x : Value} {b : Bool} {Q : Option Value → Shared → Prop} (hz : IsZipX s.heap z TI TO x b)
    (h : ∀ E' : Value → Shared → Prop, wpAny (model prog w) A.in1 (Builtin.«zip.__next__» ⟨[.ref z], []⟩) (fun fin s' => ∃ v, fin = .done (.ret v) ∧ Q (some v) s') E' s) : wpAny (model prog w) A (pyNext (.ref z)) Q E s := by
  have hT : s.TypeIs (.ref z) "zip" := ⟨_, hz, rfl⟩
  unfold pyNext
  refine wpAny_bind (wpAny_attempt (wpAny_callSpecial?_slot (name := Str.ofString "__next__") hT F.slot_zip_next
    (wpAny_call_entry F.slot_zip_next hT F.entry_zip_next ?_ (F.args_zip_next_1 _))))
  refine wpAny_mono (h _) (fun fin s' ⟨v, e, q⟩ => ?_) fun _ _ y => y
  subst e
  exact ⟨v, rfl, wpAny_pure q⟩
theorem pyNext_zip_end {z TI TO i1 i2 : Addr} {x : Value} {b : Bool} {fp1 fp2 : List Addr} {n1 : Nat} {P1 : Nat → Value → Prop} {St1 : Nat → Heap → Prop} {Q : Option Value → Shared → Prop}
    (S : ZipSep2 z TI TO i1 i2 fp1 fp2) (D1 : ∀ A' : Around, A'.handled = none → Draws prog w A' i1 fp1 n1 P1 St1) (hh : A.handled = none) (hz : IsZipX s.heap z TI TO x b) (hx : x = .none ∨ ∃ T : Addr, x = rawInt T) (hTI : IsTupOf2 s.heap TI (.ref i1) (.ref i2)) (st1 : St1 n1 s.heap)
    (hQ : ∀ h', (∀ c o, c ≠ z → c ≠ i1 → s.heap.get? c = some o → h'.get? c = some o) → Q none { s with heap := h' }) : wpAny (model prog w) A (pyNext (.ref z)) Q E s := by
  have hT : s.TypeIs (.ref z) "zip" := ⟨_, hz, rfl⟩
  unfold pyNext
  refine wpAny_bind (wpAny_attempt (wpAny_callSpecial?_slot (name := Str.ofString "__next__") hT F.slot_zip_next
    (wpAny_call_entry F.slot_zip_next hT F.entry_zip_next ?_ (F.args_zip_next_1 _))))
  refine zipX_end S (D1 _ hh) hz hx hTI st1 fun h' x' he' hx' => ?_
  obtain ⟨o, ho, hc⟩ := hx'
  refine wpAny_bind (wpAny_isInstance (T := "StopIteration") (b := true) ⟨o, ho, hc⟩ isSubtype_stop ?_)
  exact wpAny_pure (hQ _ he')
/-- zip at its end: the first iterator goes on, the second has ended -/
theorem zipX_end2 {z TI TO i1 i2 : Addr} {fp1 fp2 : List Addr} {n1 n2 i : Nat} {P1 P2 : Nat → Value → Prop} {St1 St2 : Nat → Heap → Prop} {a1 a2 x : Value} {b : Bool} {Q : Fin → Shared → Prop} (S : ZipSep2 z TI TO i1 i2 fp1 fp2) (D1 : Draws prog w A i1 fp1 n1 P1 St1) (D2 : Draws prog w A i2 fp2 n2 P2 St2)
    (hz : IsZipX s.heap z TI TO x b) (hx : x = .none ∨ ∃ T : Addr, x = rawInt T) (hTI : IsTupOf2 s.heap TI (.ref i1) (.ref i2)) (hTO : IsTupOf2 s.heap TO a1 a2) (st1 : St1 i s.heap) (st2 : St2 n2 s.heap) (hlt1 : i < n1)
    (hE : ∀ h' tk e, (∀ c o, c ≠ z → c ≠ TO → c ≠ i1 → c ≠ i2 → s.heap.get? c = some o → h'.get? c = some o) → (∃ o, h'.get? e = some o ∧ o.cls = .type "StopIteration") → E (.ref e) { s with heap := h', toks := tk }) :
    wpAny (model prog w) A (Builtin.«zip.__next__» ⟨[.ref z], []⟩) Q E s := by
  obtain ⟨hp, g, d, tk0, os⟩ := s
  show wpAny _ _ (field (.ref z) 2 >>= _) _ _ _
  refine wpAny_bind (wpAny_field hz rfl (x := .bool false) rfl ?_)
  show wpAny _ _ (field (.ref z) 3 >>= _) _ _ _
  refine wpAny_bind (wpAny_field hz rfl (x := .ref TI) rfl ?_)
  refine wpAny_bind (wpAny_seqItems hTI rfl ?_)
  show wpAny _ _ (Builtin.SmallTypes.ownedTupleIsFree (.ref z) >>= _) _ _ _
  refine wpAny_bind (zipX_free hz hx ?_ fun g0 hz0 hs0 => ?_)
  · simp only [if_true]
    refine wpAny_bind (wpAny_rule (wpAny_bind (wpAny_field hz rfl (x := .ref TO) rfl ?_)))
    refine wpAny_bind (wpAny_setField_rec hz (by simp) fun g0 hz0 hs0 => ?_)
    replace hz0 : IsZipX g0 z TI TO .ellipsis b := hz0
    replace hs0 : Heap.SameBut z hp g0 := hs0
    refine wpAny_bind ?_
    simp only [List.zipIdx_cons, List.zipIdx_nil, List.forIn_cons, List.forIn_nil]
    refine wpAny_bind (wpAny_bind (wpAny_onRaise ?_))
    show wpAny _ _ (Builtin.SmallTypes.nextOf (.ref i1) >>= _) _ _ ⟨g0, g, d, tk0, os⟩
    refine wpAny_bind (D1.item i _ _ _ hlt1 (D1.over st1 hs0 S.zf1) fun x1 p1 tk1 hx1 sn1 hp1 => wpAny_pure ?_)
    replace hp1 : Heap.SameBut i1 g0 p1 := hp1
    have hU1 : IsTupOf2 p1 TO a1 a2 := hp1.extBut _ _ S.Ti1 (hs0.extBut _ _ S.TOz hTO)
    refine wpAny_bind (wpAny_seqItems (s := ⟨p1, g, d, tk1, os⟩) hU1 rfl ?_)
    refine wpAny_bind (updateSeq_IsTupOf2 (s := ⟨p1, g, d, tk1, os⟩) hU1 fun g1 hT1 hs1 => ?_)
    replace hT1 : IsTupOf2 g1 TO x1 a2 := hT1
    replace hs1 : Heap.SameBut TO p1 g1 := hs1
    refine wpAny_bind (wpAny_letGo (wpAny_pure ?_))
    refine wpAny_bind (wpAny_bind (wpAny_onRaise ?_))
    show wpAny _ _ (Builtin.SmallTypes.nextOf (.ref i2) >>= _) _ _ ⟨g1, g, d, tk1, os⟩
    refine wpAny_bind (D2.done ⟨g1, g, d, tk1, os⟩ _ _ (D2.over (D2.over (D2.over st2 hs0 S.zf2) hp1 S.sep1_2) hs1 S.Tf2) fun q e hq he => ?_)
    replace hq : Heap.ExtBut i2 g1 q := hq
    obtain ⟨oe, hoe, hce⟩ := he
    replace hoe : q.get? e = some oe := hoe
    have hz1 : IsZipX g1 z TI TO .ellipsis b := hs1.extBut _ _ S.TOz.symm (hp1.extBut _ _ S.zi1 hz0)
    have hzq : IsZipX q z TI TO .ellipsis b := hq _ _ S.zi2 hz1
    have hez : e ≠ z := fun y => by subst y; rw [hzq] at hoe; cases hoe; simp at hce
    refine wpAny_setField_rec (s := ⟨q, g, d, tk1, os⟩) hzq (by simp) fun q' _ hq' => ?_
    replace hq' : Heap.SameBut z q q' := hq'
    exact hE q' tk1 e (fun c o cz cT c1 c2 y => hq'.extBut _ _ cz (hq _ _ c2 (hs1.extBut _ _ cT (hp1.extBut _ _ c1 (hs0.extBut _ _ cz y))))) ⟨oe, hq'.extBut _ _ hez hoe, hce⟩
  · replace hs0 : Heap.SameBut z hp g0 := hs0
    simp only [Bool.false_eq_true, if_false]
    refine wpAny_bind ?_
    rw [← Array.forIn_toList]
    simp only [List.forIn_cons, List.forIn_nil]
    refine wpAny_bind (wpAny_bind (wpAny_holding ?_))
    show wpAny _ _ (Builtin.SmallTypes.nextOf (.ref i1) >>= _) _ _ ⟨g0, g, d, tk0, os⟩
    refine wpAny_bind (D1.item i _ _ _ hlt1 (D1.over st1 hs0 S.zf1) fun x1 p1 tk1 hx1 sn1 hp1 => wpAny_pure ?_)
    replace hp1 : Heap.SameBut i1 g0 p1 := hp1
    refine wpAny_pure ?_
    refine wpAny_bind (wpAny_bind (wpAny_holding ?_))
    show wpAny _ _ (Builtin.SmallTypes.nextOf (.ref i2) >>= _) _ _ ⟨p1, g, d, tk1, os⟩
    refine wpAny_bind (D2.done ⟨p1, g, d, tk1, os⟩ _ _ (D2.over (D2.over st2 hs0 S.zf2) hp1 S.sep1_2) fun q e hq he => ?_)
    replace hq : Heap.ExtBut i2 p1 q := hq
    exact hE q tk1 e (fun c o cz _ c1 c2 y => hq _ _ c2 (hp1.extBut _ _ c1 (hs0.extBut _ _ cz y))) he
theorem pyNext_zip_end2 {z TI TO i1 i2 : Addr} {x a1 a2 : Value} {b : Bool} {fp1 fp2 : List Addr} {n1 n2 i : Nat} {P1 P2 : Nat → Value → Prop} {St1 St2 : Nat → Heap → Prop} {Q : Option Value → Shared → Prop}
    (S : ZipSep2 z TI TO i1 i2 fp1 fp2) (D1 : ∀ A' : Around, A'.handled = none → Draws prog w A' i1 fp1 n1 P1 St1) (D2 : ∀ A' : Around, A'.handled = none → Draws prog w A' i2 fp2 n2 P2 St2) (hh : A.handled = none) (hz : IsZipX s.heap z TI TO x b) (hx : x = .none ∨ ∃ T : Addr, x = rawInt T) (hTI : IsTupOf2 s.heap TI (.ref i1) (.ref i2)) (hTO : IsTupOf2 s.heap TO a1 a2) (st1 : St1 i s.heap) (st2 : St2 n2 s.heap) (hlt1 : i < n1)
    (hQ : ∀ h' tk, (∀ c o, c ≠ z → c ≠ TO → c ≠ i1 → c ≠ i2 → s.heap.get? c = some o → h'.get? c = some o) → Q none { s with heap := h', toks := tk }) : wpAny (model prog w) A (pyNext (.ref z)) Q E s := by
  have hT : s.TypeIs (.ref z) "zip" := ⟨_, hz, rfl⟩
  unfold pyNext
  refine wpAny_bind (wpAny_attempt (wpAny_callSpecial?_slot (name := Str.ofString "__next__") hT F.slot_zip_next
    (wpAny_call_entry F.slot_zip_next hT F.entry_zip_next ?_ (F.args_zip_next_1 _))))
  refine zipX_end2 S (D1 _ hh) (D2 _ hh) hz hx hTI hTO st1 st2 hlt1 fun h' tk x' he' hx' => ?_
  obtain ⟨o, ho, hc⟩ := hx'
  refine wpAny_bind (wpAny_isInstance (T := "StopIteration") (b := true) ⟨o, ho, hc⟩ isSubtype_stop ?_)
  exact wpAny_pure (hQ _ _ he')
end
/-- a zip at its i-th turn -/
def ZAt (St1 St2 : Nat → Heap → Prop) (h : Heap) (z TI TO i1 i2 : Addr) (i : Nat) : Prop :=
  (∃ x bb, IsZipX h z TI TO x bb ∧ (x = .none ∨ ∃ T : Addr, x = rawInt T)) ∧ IsTupOf2 h TI (.ref i1) (.ref i2) ∧ (∃ a1 a2, IsTupOf2 h TO a1 a2) ∧ St1 i h ∧ St2 i h
theorem ZAt.at {St1 St2 : Nat → Heap → Prop} {h h' : Heap} {z TI TO i1 i2 a b : Addr} {i : Nat} (x : ZAt St1 St2 h z TI TO i1 i2 i) (f1 : (∀ c ∈ [i1, a], ∀ o, h.get? c = some o → h'.get? c = some o) → St1 i h → St1 i h') (f2 : (∀ c ∈ [i2, b], ∀ o, h.get? c = some o → h'.get? c = some o) → St2 i h → St2 i h') (k : ∀ c ∈ [z, TI, TO, i1, i2, a, b], ∀ o, h.get? c = some o → h'.get? c = some o) : ZAt St1 St2 h' z TI TO i1 i2 i := by
  obtain ⟨⟨x, bb, hz, hx⟩, hTI, ⟨a1, a2, hTO⟩, h1, h2⟩ := x
  exact ⟨⟨x, bb, k z (by simp) _ hz, hx⟩, k TI (by simp) _ hTI, ⟨a1, a2, k TO (by simp) _ hTO⟩, f1 (fun c hc => k c (by simp at hc ⊢; rcases hc with q | q <;> simp [q])) h1, f2 (fun c hc => k c (by simp at hc ⊢; rcases hc with q | q <;> simp [q])) h2⟩
/-- the tuples given out so far -/
def ZOut (h : Heap) (n0 : Nat) (its its2 : Array Value) (ts : List Addr) : Prop :=
  ts.Pairwise (· < ·) ∧ ∀ (j : Nat) (t : Addr), ts[j]? = some t → n0 ≤ t ∧ ∃ x y, its[j]? = some x ∧ its2[j]? = some y ∧ IsTupOf2 h t x y
section
variable {prog : Program} {w : World} {A : Around} {R : Result → Shared → Prop}
theorem zip_loop {z TI TO i1 i2 a b S : Addr} {its its2 : Array Value} {n0 : Nat} {St1 St2 : Nat → Heap → Prop} (Sep : ZipSep2 z TI TO i1 i2 [i1, a] [i2, b]) (D1 : ∀ A' : Around, A'.handled = none → Draws prog w A' i1 [i1, a] its.size (fun i v => its[i]? = some v) St1) (D2 : ∀ A' : Around, A'.handled = none → Draws prog w A' i2 [i2, b] its2.size (fun i v => its2[i]? = some v) St2) (hS : S ∉ [z, TI, TO, i1, i2, a, b]) (hlow : ∀ c ∈ [z, TI, TO, i1, i2, a, b, S], c < n0) (hl : its2.size = its.size ∨ its2.size + 1 = its.size) (hn : its.size ≤ sizeLine) (hh : A.handled = none) (res : Value) :
    ∀ (k i : Nat) (s : Shared) (acc : Array Value) (c : Nat) (ts : List Addr), its2.size - i = k → i ≤ its2.size → ZAt St1 St2 s.heap z TI TO i1 i2 i → s.heap.get? S = some { cls := .type "list", dict := none, data := .seq acc c, slots := #[] } → acc.toList = ts.map Value.ref → ts.length = i → ZOut s.heap n0 its its2 ts → n0 ≤ s.heap.objs.size →
    (∀ h' tk acc' c' ts', (∀ c o, c ∉ [z, TO, i1, i2, S] → s.heap.get? c = some o → h'.get? c = some o) → h'.get? S = some { cls := .type "list", dict := none, data := .seq acc' c', slots := #[] } → acc'.toList = ts'.map Value.ref → ts'.length = its2.size → ZOut h' n0 its its2 ts' → R (.ok (.ret res)) { s with heap := h', toks := tk }) →
    codeAny (model prog w) A (.builtin "list.extend.loop" ⟨[.ref S, .ref z, res], []⟩) R s := by
  intro k
  induction k with
  | zero =>
    intro i s acc c ts hk hi hst hSl hacc hts hout hn0 hR
    have hin : i = its2.size := by omega
    obtain ⟨⟨x0, bb, hz, hx0⟩, hTI, ⟨a1, a2, hTO⟩, h1, h2⟩ := hst
    refine codeAny_builtin F.entry_extend_loop ?_
    rw [Around.under_plainId F.plain_extend_loop _]
    show wpAny _ A.in1 (pyNext (.ref z) >>= _) _ _ s
    have hSz : S ≠ z := fun q => hS (by simp [q])
    have hS1 : S ≠ i1 := fun q => hS (by simp [q])
    have fin : ∀ h' tk, (∀ c o, c ≠ z → c ≠ TO → c ≠ i1 → c ≠ i2 → s.heap.get? c = some o → h'.get? c = some o) → R (.ok (.ret res)) { s with heap := h', toks := tk } := fun h' tk hk' => by
      refine hR h' tk acc c ts (fun c o hc e => hk' c o (fun q => hc (by simp [q])) (fun q => hc (by simp [q])) (fun q => hc (by simp [q])) (fun q => hc (by simp [q])) e) (hk' S _ hSz (fun q => hS (by simp [q])) hS1 (fun q => hS (by simp [q])) hSl) hacc (by omega) ⟨hout.1, fun j t ht => ?_⟩
      obtain ⟨g1, x, y, gx, gy, gt⟩ := hout.2 j t ht
      have nt : ∀ c ∈ [z, TI, TO, i1, i2, a, b, S], t ≠ c := fun c hc q => by
        have := hlow c hc
        rw [q] at g1
        exact absurd g1 (Nat.not_le.mpr this)
      exact ⟨g1, x, y, gx, gy, hk' t _ (nt z (by simp)) (nt TO (by simp)) (nt i1 (by simp)) (nt i2 (by simp)) gt⟩
    by_cases hq : its2.size = its.size
    · exact wpAny_bind (pyNext_zip_end (n1 := its.size) Sep D1 hh hz hx0 hTI (by rw [← hq, ← hin]; exact h1) fun h' hk' => wpAny_pure (fin h' s.toks fun c o c1 _ c3 _ e => hk' c o c1 c3 e))
    · exact wpAny_bind (pyNext_zip_end2 (i := i) (n2 := its2.size) Sep D1 D2 hh hz hx0 hTI hTO h1 (by rw [← hin]; exact h2) (by omega) fun h' tk hk' => wpAny_pure (fin h' tk hk'))
  | succ k ih =>
    intro i s acc c ts hk hi hst hSl hacc hts hout hn0 hR
    have hlt2 : i < its2.size := by omega
    have hlt : i < its.size := by omega
    obtain ⟨⟨x0, bb, hz, hx0⟩, hTI, ⟨a1, a2, hTO⟩, h1, h2⟩ := hst
    refine codeAny_builtin F.entry_extend_loop ?_
    rw [Around.under_plainId F.plain_extend_loop _]
    show wpAny _ A.in1 (pyNext (.ref z) >>= _) _ _ s
    have nS : ∀ c ∈ [z, TI, TO, i1, i2, a, b], S ≠ c := fun c hc q => hS (q ▸ hc)
    refine wpAny_bind (pyNext_zip hz fun E' => zipX_item Sep (D1 _ (by exact hh)) (D2 _ (by exact hh)) hz hx0 hTI hTO h1 h2 hlt (by omega) fun v1 v2 g1 tk x' b' hv1 hv2 hz' hx' hTO' s1' s2' hT hsz hk' => ?_)
    have hS1 : g1.get? S = some { cls := .type "list", dict := none, data := .seq acc c, slots := #[] } := hk' S _ (nS z (by simp)) (nS TO (by simp)) (nS i1 (by simp)) (nS i2 (by simp)) hSl
    have lowS : S < n0 := hlow S (by simp)
    show wpAny _ A.in1 (updateSeq S (·.push (Value.ref s.heap.objs.size)) >>= _) _ _ _
    refine wpAny_bind ?_
    have asz : acc.size = i := by have := congrArg List.length hacc; simp at this; omega
    have hTI' : IsTupOf2 g1 TI (.ref i1) (.ref i2) := hk' _ _ Sep.TIz Sep.TITO Sep.TIi1 Sep.TIi2 hTI
    have up : ∀ c o, c ≠ S → g1.get? c = some o → (g1.update S (Obj.mapSeq (·.push (Value.ref s.heap.objs.size)))).get? c = some o := fun c o hc e => (Heap.get?_update_other _ _ (fun q => hc q.symm)).trans e
    refine wpAny_updateSeq hS1 rfl (wpAny_pure ⟨plainId_quiet F.plain_extend_loop _, ih (i + 1) _ (acc.push (Value.ref s.heap.objs.size)) _ (ts ++ [s.heap.objs.size]) (by omega) hlt2 ?_ (Heap.get?_update_self _ hS1 rfl) (by simp [hacc]) (by simp [hts]) ?_ ?_ fun h' tk' acc' c' ts' f1 f2 f3 f4 f5 => ?_⟩)
      (by rw [asz]; omega) (by show (acc.push _).size ≤ sizeLine + 1; rw [Array.size_push, asz]; omega)
    · refine ZAt.at (h := g1) (a := a) (b := b) ⟨⟨x', b', hz', hx'⟩, hTI', hTO', s1', s2'⟩ (fun k s => (D1 A hh).frame _ _ _ s k) (fun k s => (D2 A hh).frame _ _ _ s k) fun c hc o e => up c o (fun q => ?_) e
      exact hS (q ▸ hc)
    · refine ⟨List.pairwise_append.mpr ⟨hout.1, List.pairwise_singleton .., fun t ht u hu => ?_⟩, fun j t ht => ?_⟩
      · rw [List.mem_singleton.mp hu]
        obtain ⟨j, hj⟩ := List.getElem?_of_mem ht
        obtain ⟨_, x, y, _, _, gt⟩ := hout.2 j t hj
        exact Heap.lt_size gt
      · by_cases q : j < ts.length
        · rw [List.getElem?_append_left q] at ht
          obtain ⟨g2, x, y, gx, gy, gt⟩ := hout.2 j t ht
          have nt : ∀ c ∈ [z, TI, TO, i1, i2, a, b, S], t ≠ c := fun c hc q => by
            have := hlow c hc
            rw [q] at g2
            exact absurd g2 (Nat.not_le.mpr this)
          exact ⟨g2, x, y, gx, gy, up _ _ (nt S (by simp)) (hk' t _ (nt z (by simp)) (nt TO (by simp)) (nt i1 (by simp)) (nt i2 (by simp)) gt)⟩
        · rw [List.getElem?_append_right (by omega)] at ht
          have hj : j = ts.length := by
            have := (List.getElem?_eq_some_iff.mp ht).1
            simp at this
            omega
          rw [hj, Nat.sub_self] at ht
          have et : s.heap.objs.size = t := Option.some.inj ht
          refine ⟨by rw [← et]; exact hn0, v1, v2, ?_, ?_, ?_⟩
          · rw [hj, hts]; exact hv1
          · rw [hj, hts]; exact hv2
          · rw [← et]
            refine up _ _ (fun q => ?_) hT
            rw [← q] at lowS
            exact absurd hn0 (Nat.not_le.mpr lowS)
    · show n0 ≤ (g1.update S _).objs.size
      rw [Heap.size_update, hsz]
      omega
    · refine hR h' tk' acc' c' ts' (fun c o hc e => f1 c o hc (up c o (fun q => hc (by simp [q])) (hk' c o (fun q => hc (by simp [q])) (fun q => hc (by simp [q])) (fun q => hc (by simp [q])) (fun q => hc (by simp [q])) e))) f2 f3 f4 f5
/-- what list(z) leaves -/
def ZDone (h h' : Heap) (z TO i1 i2 S : Addr) (n0 : Nat) (its its2 : Array Value) : Prop :=
  (∀ c o, c ∉ [z, TO, i1, i2, S] → h.get? c = some o → h'.get? c = some o) ∧ ∃ acc' c' ts', h'.get? S = some { cls := .type "list", dict := none, data := .seq acc' c', slots := #[] } ∧ acc'.toList = ts'.map Value.ref ∧ ts'.length = its2.size ∧ ZOut h' n0 its its2 ts'
theorem zip_extend {s : Shared} {z TI TO i1 i2 a b S : Addr} {f0 : Value} {its its2 : Array Value} {n0 : Nat} {St1 St2 : Nat → Heap → Prop} (Sep : ZipSep2 z TI TO i1 i2 [i1, a] [i2, b]) (D1 : ∀ A' : Around, A'.handled = none → Draws prog w A' i1 [i1, a] its.size (fun i v => its[i]? = some v) St1) (D2 : ∀ A' : Around, A'.handled = none → Draws prog w A' i2 [i2, b] its2.size (fun i v => its2[i]? = some v) St2) (hS : S ∉ [z, TI, TO, i1, i2, a, b]) (hlow : ∀ c ∈ [z, TI, TO, i1, i2, a, b, S], c < n0) (hl : its2.size = its.size ∨ its2.size + 1 = its.size) (hn : its.size ≤ sizeLine) (hh : A.handled = none) (res : Value) (c₀ : Nat)
    (hz : IsZip s.heap z TI TO f0) (hst : ZAt St1 St2 s.heap z TI TO i1 i2 0) (hSl : s.heap.get? S = some { cls := .type "list", data := .seq #[] c₀ }) (hn0 : n0 ≤ s.heap.objs.size)
    (hR : ∀ h' tk, ZDone s.heap h' z TO i1 i2 S n0 its its2 → R (.ok (.ret res)) { s with heap := h', toks := tk }) :
    wpAny (model prog w) A.in1 (Builtin.List.listExtendWith (.ref S) (.ref z) res)
      (fun fin s' => match fin with | .done f => R (.ok f) s' | .again c' => c'.quiet = true ∧ codeAny (model prog w) A c' R s') (fun e s' => R (.error e) s') s := by
  have hT : s.TypeIs (.ref z) "zip" := ⟨_, hz, rfl⟩
  have hSz : S ≠ z := fun q => hS (by simp [q])
  unfold Builtin.List.listExtendWith
  refine wpAny_bind (wpAny_typeOf hT ?_)
  have h1 : Builtin.List.listSameRef (.ref S) (.ref z) = false := by simp [Builtin.List.listSameRef, hSz]
  have h2 : (Value.type "zip" == Value.type "list") = false := by decide
  have h3 : (Value.type "zip" == Value.type "tuple") = false := by decide
  simp only [h1, h2, h3, Bool.or_false, Bool.false_eq_true, if_false]
  refine wpAny_bind (wpAny_pyIter_zip hz ?_)
  refine wpAny_bind (wpAny_holding ?_)
  unfold Builtin.List.listLengthHint
  refine wpAny_bind (wpAny_specialOf hT F.zip_no_len ?_)
  show wpAny _ A.in1 (specialOf (Value.ref z) (Str.ofString "__length_hint__") >>= _) _ _ _
  refine wpAny_bind (wpAny_specialOf hT F.zip_no_hint ?_)
  refine wpAny_pure ?_
  show wpAny _ A.in1 (rule "list.extend.makes-room" >>= fun _ => Builtin.List.listTouch (.ref S) >>= fun _ =>
    again (.builtin "list.extend.loop" ⟨[.ref S, .ref z, res], []⟩)) _ _ _
  refine wpAny_bind (wpAny_rule ?_)
  refine wpAny_bind ?_
  show wpAny _ A.in1 (updateSeq S (·.push .none) >>= fun _ => updateSeq S (·.pop)) _ _ _
  refine wpAny_bind (wpAny_updateSeq hSl rfl ?_)
  have hS₂ := Heap.get?_update_self (Obj.mapSeq (·.push Value.none)) hSl rfl
  refine wpAny_updateSeq (hz := by seq_fits) hS₂ rfl ?_
  have hS₃ := Heap.get?_update_self (Obj.mapSeq (·.pop)) hS₂ rfl
  have oth : ∀ b o, b ≠ S → s.heap.get? b = some o → ((s.heap.update S (Obj.mapSeq (·.push Value.none))).update S (Obj.mapSeq (·.pop))).get? b = some o :=
    fun b o hb e => (Heap.get?_update_other _ _ (Ne.symm hb)).trans ((Heap.get?_update_other _ _ (Ne.symm hb)).trans e)
  refine wpAny_pure ⟨plainId_quiet F.plain_extend_loop _, zip_loop Sep D1 D2 hS hlow hl hn hh res its2.size 0 _ _ _ [] rfl (Nat.zero_le _)
    (hst.at (a := a) (b := b) (fun k s => (D1 A hh).frame _ _ _ s k) (fun k s => (D2 A hh).frame _ _ _ s k) fun c hc o e => oth c o (fun q => hS (q ▸ hc)) e) hS₃ rfl rfl ⟨List.Pairwise.nil, fun j t ht => by simp at ht⟩ (by show n0 ≤ ((s.heap.update S _).update S _).objs.size; rw [Heap.size_update, Heap.size_update]; exact hn0) fun h' tk acc' c' ts' f1 f2 f3 f4 f5 => ?_⟩
  exact hR h' tk ⟨fun c o hc e => f1 c o hc (oth c o (fun q => hc (by simp [q])) e), acc', c', ts', f2, f3, f4, f5⟩
theorem zip_init {s : Shared} {z TI TO i1 i2 a b S : Addr} {f0 : Value} {its its2 : Array Value} {n0 : Nat} {St1 St2 : Nat → Heap → Prop} (Sep : ZipSep2 z TI TO i1 i2 [i1, a] [i2, b]) (D1 : ∀ A' : Around, A'.handled = none → Draws prog w A' i1 [i1, a] its.size (fun i v => its[i]? = some v) St1) (D2 : ∀ A' : Around, A'.handled = none → Draws prog w A' i2 [i2, b] its2.size (fun i v => its2[i]? = some v) St2) (hS : S ∉ [z, TI, TO, i1, i2, a, b]) (hlow : ∀ c ∈ [z, TI, TO, i1, i2, a, b, S], c < n0) (hl : its2.size = its.size ∨ its2.size + 1 = its.size) (hn : its.size ≤ sizeLine) (hh : A.handled = none)
    (hz : IsZip s.heap z TI TO f0) (hst : ZAt St1 St2 s.heap z TI TO i1 i2 0) (hSl : s.heap.get? S = some { cls := .type "list", data := .seq #[] }) (hn0 : n0 ≤ s.heap.objs.size)
    (hR : ∀ h' tk, ZDone s.heap h' z TO i1 i2 S n0 its its2 → R (.ok (.ret .none)) { s with heap := h', toks := tk }) :
    wpAny (model prog w) A.in1 (Builtin.«list.__init__» ⟨[.ref S, .ref z], []⟩)
      (fun fin s' => match fin with | .done f => R (.ok f) s' | .again c' => c'.quiet = true ∧ codeAny (model prog w) A c' R s') (fun e s' => R (.error e) s') s := by
  show wpAny _ A.in1 (do let old ← Builtin.List.listItems (.ref S); Builtin.List.listUpdate (.ref S) (fun _ => #[]); letGo old.toList.reverse; Builtin.List.listExtendWith (.ref S) (.ref z) .none) _ _ s
  refine wpAny_bind ?_
  unfold Builtin.List.listItems
  refine wpAny_bind (wpAny_seqItems hSl rfl (wpAny_pure ?_))
  show wpAny _ A.in1 (updateSeq S (fun _ => #[]) >>= fun _ => letGo (#[] : Array Value).toList.reverse >>= fun _ => Builtin.List.listExtendWith (.ref S) (.ref z) .none) _ _ s
  refine wpAny_bind (wpAny_updateSeq hSl rfl ?_)
  have hS₂ := Heap.get?_update_self (Obj.mapSeq (fun _ => (#[] : Array Value))) hSl rfl
  have oth : ∀ b o, b ≠ S → s.heap.get? b = some o → (s.heap.update S (Obj.mapSeq (fun _ => (#[] : Array Value)))).get? b = some o :=
    fun b o hb e => (Heap.get?_update_other _ _ (Ne.symm hb)).trans e
  refine wpAny_bind (wpAny_letGo ?_)
  refine zip_extend Sep D1 D2 hS hlow hl hn hh .none _ (oth z _ (fun q => hS (by simp [q])) hz) (hst.at (a := a) (b := b) (fun k s => (D1 A hh).frame _ _ _ s k) (fun k s => (D2 A hh).frame _ _ _ s k) fun c hc o e => oth c o (fun q => hS (q ▸ hc)) e) hS₂ (by show n0 ≤ (s.heap.update S _).objs.size; rw [Heap.size_update]; exact hn0) fun h' tk ⟨f1, f2⟩ => ?_
  exact hR h' tk ⟨fun c o hc e => f1 c o hc (oth c o (fun q => hc (by simp [q])) e), f2⟩
end
section
variable {prog : Program} {w : World} {A : Around} {E : Value → Shared → Prop} {s : Shared}
theorem call_list_zip {Q : Value → Shared → Prop} {z TI TO i1 i2 a b : Addr} {f0 : Value} {its its2 : Array Value} {St1 St2 : Nat → Heap → Prop} (Sep : ZipSep2 z TI TO i1 i2 [i1, a] [i2, b]) (D1 : ∀ A' : Around, A'.handled = none → Draws prog w A' i1 [i1, a] its.size (fun i v => its[i]? = some v) St1) (D2 : ∀ A' : Around, A'.handled = none → Draws prog w A' i2 [i2, b] its2.size (fun i v => its2[i]? = some v) St2) (hlow : ∀ c ∈ [z, TI, TO, i1, i2, a, b], c < s.heap.objs.size) (hl : its2.size = its.size ∨ its2.size + 1 = its.size) (hn : its.size ≤ sizeLine) (hh : A.handled = none)
    (hz : IsZip s.heap z TI TO f0) (hst : ZAt St1 St2 s.heap z TI TO i1 i2 0)
    (hQ : ∀ h' tk, ZDone (s.heap.push { cls := .type "list", data := .seq #[] }) h' z TO i1 i2 s.heap.objs.size (s.heap.objs.size + 1) its its2 → Q (.ref s.heap.objs.size) { s with heap := h', toks := tk }) :
    wpAny (model prog w) A (call (.type "list") [.ref z]) Q E s := by
  refine callType_codes (Q₁ := fun obj s₁ => obj = .ref s.heap.objs.size ∧ s₁ = { s with heap := s.heap.push { cls := .type "list", data := .seq #[] } }) F.called_list (F.typeCall_list_1 _) F.entry_list_init
    (code_list_new _ ⟨rfl, rfl⟩) fun obj s₁ h₁ => ?_
  obtain ⟨rfl, rfl⟩ := h₁
  have hS : (s.heap.push { cls := .type "list", data := .seq #[] }).get? s.heap.objs.size = some { cls := .type "list", data := .seq #[] } := Heap.get?_push_size _ rfl
  refine ⟨⟨_, hS, rfl⟩, F.args_list_init_2 _ _, zip_init (n0 := s.heap.objs.size + 1) Sep D1 D2 (fun hm => Nat.lt_irrefl _ (hlow _ hm)) (fun c hc => ?_) hl hn (by exact hh) (Heap.get?_push_of_some _ hz) (hst.at (a := a) (b := b) (fun k s => (D1 A hh).frame _ _ _ s k) (fun k s => (D2 A hh).frame _ _ _ s k) fun c _ o e => Heap.get?_push_of_some _ e) hS (by show _ ≤ (s.heap.push _).objs.size; rw [Heap.size_push]; exact Nat.le_refl _) fun h' tk f => ?_⟩
  · have hc' : c ∈ [z, TI, TO, i1, i2, a, b] ∨ c = s.heap.objs.size := by simpa [or_assoc] using hc
    rcases hc' with q | q
    · exact Nat.lt_succ_of_lt (hlow c q)
    · rw [q]; exact Nat.lt_succ_self _
  · exact ⟨rfl, hQ h' tk f⟩
end
end Lm
namespace Lm
open PySem PySem.Spec PyProof.Rows L2
/-- the heap with the tuples told -/
def addT (H : Hp) (ts : List Addr) (its its2 : Array Value) (xs ys : List V) : Hp := fun b => if b ∈ ts then some (.frz { cls := .type "tuple", data := .seq #[its.getD (ts.idxOf b) .none, its2.getD (ts.idxOf b) .none] } (.tup [xs.getD (ts.idxOf b) .non, ys.getD (ts.idxOf b) .non])) else H b
theorem idx_at {ts : List Addr} (h : ts.Pairwise (· < ·)) {j : Nat} {t : Addr} (e : ts[j]? = some t) : ts.idxOf t = j := by
  obtain ⟨hj, e2⟩ := List.getElem?_eq_some_iff.mp e
  have hm : t ∈ ts := List.mem_of_getElem? e
  have hi := List.idxOf_lt_length_of_mem hm
  have p := List.pairwise_iff_getElem.mp h
  have eg : ts[ts.idxOf t] = t := List.getElem_idxOf _
  rcases Nat.lt_trichotomy (ts.idxOf t) j with q | q | q
  · have := p _ _ hi hj q
    rw [eg, e2] at this
    exact absurd this (Nat.lt_irrefl _)
  · exact q
  · have := p _ _ hj hi q
    rw [eg, e2] at this
    exact absurd this (Nat.lt_irrefl _)
def tLstZip (K : PySem.W.Frag) (ta : TA) : TE := fun σ H Q => ta σ H fun vs H1 => ∃ a b xs ys, vs = [.ref a, .ref b] ∧ ((SqT K H1 a xs ∧ SqT K H1 b ys) ∨ (SqL K H1 a xs ∧ SqL K H1 b ys)) ∧ (ys.length = xs.length ∨ ys.length + 1 = xs.length) ∧ xs.length ≤ sizeLine ∧
  ∀ (ts : List Addr) (H' : Hp) (p : Addr), ts.length = ys.length → (∀ (j : Nat) (t : Addr) (x y : V), ts[j]? = some t → xs[j]? = some x → ys[j]? = some y → ∃ o : Obj, o.dict = none ∧ H' t = some (.frz o (.tup [x, y]))) → (∀ b u, H1 b = some u → H' b = some u) → H' p = none → H1 p = none → Q (.ref p) (upd H' p (.lst (ts.map V.ref)))
theorem listZip_tail {X : Cx} {pins : List (Addr × Obj)} {σ : L2.St} {H1 : Hp} {s1 : Shared} {Q : VK} {a b : Addr} {xs ys : List V} {its its2 : List Value} {h' : Heap} {St1 St2 : Nat → Heap → Prop} (I1 : Inv X pins σ H1 s1) (rv : Vals xs its) (rv2 : Vals ys its2) (hlen : ys.length = xs.length ∨ ys.length + 1 = xs.length) (hsz : xs.length ≤ sizeLine) (la : a < s1.heap.objs.size) (lb : b < s1.heap.objs.size) (hhd : X.A.handled = none)
    (D1 : ∀ A' : Around, A'.handled = none → Draws X.prog X.w A' s1.heap.objs.size [s1.heap.objs.size, a] its.toArray.size (fun i v => its.toArray[i]? = some v) St1) (D2 : ∀ A' : Around, A'.handled = none → Draws X.prog X.w A' (s1.heap.objs.size + 1) [s1.heap.objs.size + 1, b] its2.toArray.size (fun i v => its2.toArray[i]? = some v) St2)
    (hz : IsZip h' (s1.heap.objs.size + 4) (s1.heap.objs.size + 2) (s1.heap.objs.size + 3) .none) (hTI : IsPair h' (s1.heap.objs.size + 2) (.ref s1.heap.objs.size) (.ref (s1.heap.objs.size + 1))) (hTO : IsPair h' (s1.heap.objs.size + 3) .none .none) (st1 : St1 0 h') (st2 : St2 0 h') (hsz5 : h'.objs.size = s1.heap.objs.size + 5) (hk : ∀ c o, s1.heap.get? c = some o → h'.get? c = some o)
    (q : ∀ (ts : List Addr) (H' : Hp) (p : Addr), ts.length = ys.length → (∀ (j : Nat) (t : Addr) (x y : V), ts[j]? = some t → xs[j]? = some x → ys[j]? = some y → ∃ o : Obj, o.dict = none ∧ H' t = some (.frz o (.tup [x, y]))) → (∀ b u, H1 b = some u → H' b = some u) → H' p = none → H1 p = none → Q (.ref p) (upd H' p (.lst (ts.map V.ref)))) :
    wpAny (model X.prog X.w) X.A (call (.type "list") [.ref (s1.heap.objs.size + 4)]) (EP X pins σ Q) X.xe { s1 with heap := h' } := by
  have l1 := rv.length
  have l2 := rv2.length
  refine call_list_zip (s := { s1 with heap := h' }) (zip_sep2 (N := s1.heap.objs.size) (fp1 := [a]) (fp2 := [b]) (fun c hc => by cases List.mem_singleton.mp hc; exact la) (fun c hc => by cases List.mem_singleton.mp hc; exact lb)) D1 D2 (fun c hc => ?_) (its := its.toArray) (its2 := its2.toArray) (by simp; omega) (by simp; omega) hhd hz ⟨⟨_, _, hz, .inl rfl⟩, hTI, ⟨_, _, hTO⟩, st1, st2⟩ fun h'' tk fd => ?_
  · show c < h'.objs.size
    rw [hsz5]
    simp only [List.mem_cons, List.not_mem_nil, or_false] at hc
    rcases hc with z | z | z | z | z | z | z <;> rw [z]
    · exact Nat.lt_succ_self _
    · exact Nat.add_lt_add_left (by decide) _
    · exact Nat.add_lt_add_left (by decide) _
    · exact Nat.lt_add_of_pos_right (by decide)
    · exact Nat.add_lt_add_left (by decide) _
    · exact Nat.lt_of_lt_of_le la (Nat.le_add_right _ _)
    · exact Nat.lt_of_lt_of_le lb (Nat.le_add_right _ _)
  · obtain ⟨f1, acc, cc, ts, f2, f3, f4, f5, f6⟩ := fd
    have e5 : h'.objs.size = s1.heap.objs.size + 5 := hsz5
    have old : ∀ c o, s1.heap.get? c = some o → h''.get? c = some o := fun c o g => by
      have lc := Heap.lt_size g
      refine f1 c o (fun hc => ?_) (Heap.get?_push_of_some _ (hk c o g))
      simp only [List.mem_cons, List.not_mem_nil, or_false] at hc
      have e5' : ({ s1 with heap := h' } : Shared).heap.objs.size = s1.heap.objs.size + 5 := e5
      rw [e5'] at hc
      rcases hc with z | z | z | z | z <;> rw [z] at lc <;> exact absurd lc (Nat.not_lt.mpr (by first | exact Nat.le_add_right _ _ | exact Nat.le_refl _))
    have tsz : ∀ t ∈ ts, s1.heap.objs.size + 6 ≤ t := fun t ht => by
      obtain ⟨j, hj⟩ := List.getElem?_of_mem ht
      have := (f6 j t hj).1
      have e5' : ({ s1 with heap := h' } : Shared).heap.objs.size = s1.heap.objs.size + 5 := e5
      rw [e5'] at this
      exact this
    have tn : ∀ c o, s1.heap.get? c = some o → c ∉ ts := fun c o g hc => by
      have h1 := Heap.lt_size g
      have h2 := tsz c hc
      exact absurd (Nat.lt_of_lt_of_le h1 (Nat.le_trans (Nat.le_add_right _ 6) h2)) (Nat.lt_irrefl _)
    have Hn : ∀ c u, H1 c = some u → c ∉ ts := fun c u g hc => by
      have h1 := (I1.hok c u g).lt
      have h2 := tsz c hc
      exact absurd (Nat.lt_of_lt_of_le h1 (Nat.le_trans (Nat.le_add_right _ 6) h2)) (Nat.lt_irrefl _)
    have keepH : ∀ c u, H1 c = some u → addT H1 ts its.toArray its2.toArray xs ys c = some u := fun c u g => by
      unfold addT
      rw [if_neg (Hn c u g)]
      exact g
    have atT : ∀ (j : Nat) (t : Addr) (x y : V), ts[j]? = some t → xs[j]? = some x → ys[j]? = some y → ∃ vx vy, its[j]? = some vx ∧ its2[j]? = some vy ∧ RelV x vx ∧ RelV y vy ∧ IsTupOf2 h'' t vx vy ∧ addT H1 ts its.toArray its2.toArray xs ys t = some (.frz { cls := .type "tuple", data := .seq #[vx, vy] } (.tup [x, y])) := fun j t x y ht hx hy => by
      obtain ⟨u, hu, ru⟩ := rv.get hx
      obtain ⟨u2, hu2, ru2⟩ := rv2.get hy
      obtain ⟨_, vx, vy, gx, gy, gt⟩ := f6 j t ht
      have q1 : vx = u := by
        have : its[j]? = some vx := by simpa using gx
        rw [hu] at this
        exact (Option.some.inj this).symm
      have q2 : vy = u2 := by
        have : its2[j]? = some vy := by simpa using gy
        rw [hu2] at this
        exact (Option.some.inj this).symm
      subst q1 q2
      refine ⟨vx, vy, hu, hu2, ru, ru2, gt, ?_⟩
      unfold addT
      rw [if_pos (List.mem_of_getElem? ht), idx_at f5 ht]
      have a1 : its.toArray.getD j .none = vx := by
        rw [Array.getD_eq_getD_getElem?, gx]; rfl
      have a2 : its2.toArray.getD j .none = vy := by
        rw [Array.getD_eq_getD_getElem?, gy]; rfl
      have a3 : xs.getD j .non = x := by rw [List.getD_eq_getElem?_getD, hx]; rfl
      have a4 : ys.getD j .non = y := by rw [List.getD_eq_getElem?_getD, hy]; rfl
      rw [a1, a2, a3, a4]
    have Sn : addT H1 ts its.toArray its2.toArray xs ys h'.objs.size = none := by
      unfold addT
      rw [if_neg (fun hc => by
        have := tsz _ hc
        rw [e5] at this
        exact absurd this (by exact Nat.not_succ_le_self _))]
      exact I1.hok.fresh (by rw [e5]; exact Nat.le_add_right _ _)
    have S1 : H1 h'.objs.size = none := I1.hok.fresh (by rw [e5]; exact Nat.le_add_right _ _)
    have hts : ts.length = ys.length := by rw [f4]; simp; omega
    refine ⟨.ref h'.objs.size, _, Inv.drained (ex := []) (out := ts.map V.ref) (acc := acc) (c := cc) I1 (H' := addT H1 ts its.toArray its2.toArray xs ys) (s' := { s1 with heap := h'', toks := tk }) (by rw [e5]; exact Nat.le_add_right _ _) (by simp; omega) f2 ?_ ExOk.nil rfl I1.bare ⟨fun c o g _ _ _ => old c o g, fun c o g _ _ _ => ⟨o.slots, old c o g⟩, fun c o g hn _ => ?_, fun c o g _ => ⟨o, old c o g⟩, fun c zs g => keepH c _ g, fun c o u g => keepH c _ g, fun c ps g => ⟨#[], by rw [keepH c _ g]; simp⟩⟩ (fun c u g => ?_) Sn, rfl, q ts _ _ hts (fun j t x y ht hx hy => ?_) keepH Sn S1⟩
    · rw [f3]
      clear f3 f4 f5 f6 tsz tn Hn keepH atT Sn hts
      induction ts with
      | nil => exact .nil
      | cons t ts ih => exact .cons rfl ih
    · unfold addT
      rw [if_neg (tn c o g)]
      exact hn
    · by_cases w : c ∈ ts
      · obtain ⟨j, hj⟩ := List.getElem?_of_mem w
        have hjl := (List.getElem?_eq_some_iff.mp hj).1
        obtain ⟨vx, vy, g1, g2, g3, g4, g5, g6⟩ := atT j c xs[j] (ys[j]'(by omega)) hj (List.getElem?_eq_getElem (by omega)) (List.getElem?_eq_getElem (by omega))
        rw [g6] at g
        cases g
        exact ⟨g5, by show 2 ≤ sizeLine; decide, [vx, vy], .cons g3 (.cons g4 .nil), ⟨_, g5, rfl, _, rfl⟩⟩
      · have g' : H1 c = some u := by
          unfold addT at g
          rw [if_neg w] at g
          exact g
        exact (I1.hok c u g').stay (fun d v _ z => old d v z) (fun d z => keepH d _ z) fun d zs z => keepH d _ z
    · obtain ⟨vx, vy, _, _, _, _, _, g6⟩ := atT j t x y ht hx hy
      exact ⟨_, rfl, g6⟩
theorem pe_listZip {X : Cx} {e e2 : Expr} {ta : TA} {p pos p2 pos2 : Pos} (hc : X.calm = true) (hg : Gl X "list") (hm : X.mg "list" = none) (hg2 : Gl X "zip") (hm2 : X.mg "zip" = none) (ha : PA X [e, e2] ta)
    (hs : starEach [e, e2] X.env = (false, eval e X.env) :: starEach [e2] X.env := by rfl) (hpl : (backTo pos2 (starEach [e2] X.env)).any (·.1) = false := by rfl)
    (na : starEach [.Call (.Name "zip" p2) [e, e2] [] pos2] X.env = (false, eval (.Call (.Name "zip" p2) [e, e2] [] pos2) X.env) :: starEach [] X.env := by rfl) :
    PE X (.Call (.Name "list" p) [.Call (.Name "zip" p2) [e, e2] [] pos2] [] pos) (tLstZip X.K ta) := by
  refine ⟨fun pins s σ H Q I h => ?_⟩
  refine Call_ (ld_blt I hg hm boot_list (PyProof.Rows.callWith_type1 (PyProof.Rows.args_cons ?_ na) na))
  refine Call_ (ld_blt I hg2 hm2 PyProof.Rows.boot_zip (PyProof.Rows.callWith_type1 (thn (ha.run pos2 pins s σ H _ I h) fun us s1 ⟨vs, H1, I1, r1, q1⟩ => ?_) hs hpl))
  obtain ⟨a, b, xs, ys, ex, hq, hlen, hsz, q⟩ := q1
  subst ex
  cases r1 with
  | cons r rr =>
    cases rr with
    | cons r' rr =>
      cases rr
      cases r
      cases r'
      rcases hq with ⟨hqx, hqy⟩ | ⟨hqx, hqy⟩
      · obtain ⟨its, rv, p1, _⟩ := I1.tuple hqx
        obtain ⟨its2, rv2, p3, _⟩ := I1.tuple hqy
        have la : a < s1.heap.objs.size := let ⟨_, w, _⟩ := p1; Heap.lt_size w
        have lb : b < s1.heap.objs.size := let ⟨_, w, _⟩ := p3; Heap.lt_size w
        refine RZ.call_zipT (show s1.heap.IsTuple a its.toArray from p1) (show s1.heap.IsTuple b its2.toArray from p3) fun h' hz hTI hTO h1 h2 hsz5 hk => PyProof.Rows.args_nil ?_
        exact listZip_tail I1 rv rv2 hlen hsz la lb (I1.ok.hd hc) (fun A' hh' => Draws.tuple hh' _ a (Nat.ne_of_lt la) its.toArray) (fun A' hh' => Draws.tuple hh' _ b (Nat.ne_of_lt (Nat.lt_succ_of_lt lb)) its2.toArray) hz hTI hTO ⟨h1, (show s1.heap.IsTuple a its.toArray from p1).at fun o e => hk a o e⟩ ⟨h2, (show s1.heap.IsTuple b its2.toArray from p3).at fun o e => hk b o e⟩ hsz5 hk q
      · obtain ⟨its, rv, p1, _⟩ := I1.list hqx
        obtain ⟨its2, rv2, p3, _⟩ := I1.list hqy
        have la : a < s1.heap.objs.size := let ⟨_, w, _⟩ := p1.isList; Heap.lt_size w
        have lb : b < s1.heap.objs.size := let ⟨_, w, _⟩ := p3.isList; Heap.lt_size w
        refine call_zip_2 p1.isList p3.isList fun h' hz hTI hTO h1 h2 hsz5 hk => PyProof.Rows.args_nil ?_
        exact listZip_tail I1 rv rv2 hlen hsz la lb (I1.ok.hd hc) (fun A' hh' => Draws.list hh' _ a (Nat.ne_of_lt la) its.toArray) (fun A' hh' => Draws.list hh' _ b (Nat.ne_of_lt (Nat.lt_succ_of_lt lb)) its2.toArray) hz hTI hTO ⟨h1, p1.isList.at fun o e => hk a o e⟩ ⟨h2, p3.isList.at fun o e => hk b o e⟩ hsz5 hk q
section
variable {X : Cx} {K : PySem.W.Frag} (hK : X.K = K)
include hK
theorem k_listZip {e e2 : Expr} {ta : TA} {p pos p2 pos2 : Pos} (hc : X.calm = true) (hg : Gl X "list") (hm : X.mg "list" = none) (hg2 : Gl X "zip") (hm2 : X.mg "zip" = none) (ha : PA X [e, e2] ta)
    (hs : starEach [e, e2] X.env = (false, eval e X.env) :: starEach [e2] X.env := by rfl) (hpl : (backTo pos2 (starEach [e2] X.env)).any (·.1) = false := by rfl)
    (na : starEach [.Call (.Name "zip" p2) [e, e2] [] pos2] X.env = (false, eval (.Call (.Name "zip" p2) [e, e2] [] pos2) X.env) :: starEach [] X.env := by rfl) :
    PE X (.Call (.Name "list" p) [.Call (.Name "zip" p2) [e, e2] [] pos2] [] pos) (tLstZip K ta) := hK ▸ pe_listZip hc hg hm hg2 hm2 ha hs hpl na
end
section
variable {c : Ct} {H H' : Hp} {Γ : List (Option Rs)} {tr : TA} {ds es : List PyData} {kv : Bool}
theorem bo_of : ∀ {vs : List V} {ds : List PyData}, vs.length = ds.length → (∀ (j : Nat) (v : V) (d : PyData), vs[j]? = some v → ds[j]? = some d → Bo c H v d) → BoAll c H vs ds
  | [], [], _, _ => .nil
  | v :: vs, d :: ds, hl, h => .cons (h 0 v d rfl rfl) (bo_of (by simpa using hl) fun j v d a b => h (j + 1) v d (by simpa using a) (by simpa using b))
  | [], _ :: _, hl, _ => by simp at hl
  | _ :: _, [], hl, _ => by simp at hl
def zipTs (ds es : List PyData) : List PyData := (ds.zip es).map fun p => .tuple [p.1, p.2]
theorem zipTs_flat (hd : flatAll ds = true) (he : flatAll es = true) : flatAll (zipTs ds es) = true := flatAll_mem fun d hd' => by
  obtain ⟨p, hp, rfl⟩ := List.mem_map.mp hd'
  have h1 := flatAll_one hd (List.of_mem_zip hp).1
  have h2 := flatAll_one he (List.of_mem_zip hp).2
  simp [flatD, flatAll, h1, h2]
theorem e_listZip (h : EvA c tr Γ true [.tuple ds, .tuple es]) (hd : flatAll ds = true) (he : flatAll es = true) (hl : es.length = ds.length ∨ es.length + 1 = ds.length) (hs : ds.length ≤ 1000000) : Ev c (tLstZip c.K tr) Γ .o (.list (zipTs ds es)) := fun H0 O H σ e Q q =>
  h H0 O H σ e _ fun vs H1 r s => by
    obtain ⟨va, vb, rfl, ba, bb⟩ := s.two
    have ba' : Bo c H1 va (.tuple ds) := Bo.same mns_same ba
    have bb' : Bo c H1 vb (.tuple es) := Bo.same mns_same bb
    obtain ⟨a, xs, rfl, sa, al⟩ := ba'.tup'
    obtain ⟨b, ys, rfl, sb, bl⟩ := bb'.tup'
    have l1 := al.len
    have l2 := bl.len
    refine ⟨a, b, xs, ys, rfl, .inl ⟨sa.sq, sb.sq⟩, by omega, by rw [l1]; exact sizeOk hs, fun ts H' p h1 h2 h3 h4 h5 => ?_⟩
    have sm1 : Same H1 H' := fun b u z => h3 b u z
    have sm2 : Same H' (upd H' p (.lst (ts.map V.ref))) := fun b u z => by rw [upd_ne (ne_of_none z h4)]; exact z
    refine q _ _ (r.tr ((Rr.same sm1).tr (Rr.same sm2))) ⟨[p], .lst upd_same (FoAll.leaves (zipTs_flat hd he) (bo_of (by simp [zipTs]; omega) fun j v d hv hd' => ?_)), by simp, fun a ha => ?_⟩
    · rw [List.getElem?_map] at hv
      obtain ⟨t, ht, rfl⟩ := Option.map_eq_some_iff.mp hv
      have hj := (List.getElem?_eq_some_iff.mp ht).1
      have hx : xs[j]? = some xs[j] := List.getElem?_eq_getElem (by omega)
      have hy : ys[j]? = some (ys[j]'(by omega)) := List.getElem?_eq_getElem (by omega)
      obtain ⟨o, ho, ht'⟩ := h2 j t _ _ ht hx hy
      obtain ⟨dx, gx, bx⟩ := al.get hx
      obtain ⟨dy, gy, bY⟩ := bl.get hy
      have ed : d = .tuple [dx, dy] := by
        unfold zipTs at hd'
        rw [List.getElem?_map] at hd'
        obtain ⟨pq, hpq, e1⟩ := Option.map_eq_some_iff.mp hd'
        have := List.getElem?_zip_eq_some.mp hpq
        rw [gx, gy] at this
        rw [← e1]
        have h1 := Option.some.inj this.1
        have h2 := Option.some.inj this.2
        rw [h1, h2]
      subst ed
      exact .tup (.inl ⟨o, ho, sm2 _ _ ht'⟩) (.cons ((bx.same sm1).same sm2) (.cons ((bY.same sm1).same sm2) .nil))
    · cases List.mem_singleton.mp ha
      exact r.back e.jH h5
theorem e_listZipL (h : EvA c tr Γ kv [.list ds, .list es]) (hd : flatAll ds = true) (he : flatAll es = true) (hl : es.length = ds.length ∨ es.length + 1 = ds.length) (hs : ds.length ≤ 1000000) : Ev c (tLstZip c.K tr) Γ .o (.list (zipTs ds es)) := fun H0 O H σ e Q q =>
  h H0 O H σ e _ fun vs H1 r s => by
    have s' : BoAll c H1 vs [.list ds, .list es] := by
      cases kv with
      | true => exact BoAll.same mns_same (BoAll.vm s)
      | false => exact s
    obtain ⟨va, vb, rfl, ba', bb'⟩ := s'.two
    obtain ⟨a, xs, rfl, _, sa, al⟩ := ba'.lst'
    obtain ⟨b, ys, rfl, _, sb, bl⟩ := bb'.lst'
    have l1 := al.len
    have l2 := bl.len
    refine ⟨a, b, xs, ys, rfl, .inr ⟨sa, sb⟩, by omega, by rw [l1]; exact sizeOk hs, fun ts H' p h1 h2 h3 h4 h5 => ?_⟩
    have sm1 : Same H1 H' := fun b u z => h3 b u z
    have sm2 : Same H' (upd H' p (.lst (ts.map V.ref))) := fun b u z => by rw [upd_ne (ne_of_none z h4)]; exact z
    refine q _ _ (r.tr ((Rr.same sm1).tr (Rr.same sm2))) ⟨[p], .lst upd_same (FoAll.leaves (zipTs_flat hd he) (bo_of (by simp [zipTs]; omega) fun j v d hv hd' => ?_)), by simp, fun a ha => ?_⟩
    · rw [List.getElem?_map] at hv
      obtain ⟨t, ht, rfl⟩ := Option.map_eq_some_iff.mp hv
      have hj := (List.getElem?_eq_some_iff.mp ht).1
      have hx : xs[j]? = some xs[j] := List.getElem?_eq_getElem (by omega)
      have hy : ys[j]? = some (ys[j]'(by omega)) := List.getElem?_eq_getElem (by omega)
      obtain ⟨o, ho, ht'⟩ := h2 j t _ _ ht hx hy
      obtain ⟨dx, gx, bx⟩ := al.get hx
      obtain ⟨dy, gy, bY⟩ := bl.get hy
      have ed : d = .tuple [dx, dy] := by
        unfold zipTs at hd'
        rw [List.getElem?_map] at hd'
        obtain ⟨pq, hpq, e1⟩ := Option.map_eq_some_iff.mp hd'
        have := List.getElem?_zip_eq_some.mp hpq
        rw [gx, gy] at this
        rw [← e1]
        have h1 := Option.some.inj this.1
        have h2 := Option.some.inj this.2
        rw [h1, h2]
      subst ed
      exact .tup (.inl ⟨o, ho, sm2 _ _ ht'⟩) (.cons ((bx.same sm1).same sm2) (.cons ((bY.same sm1).same sm2) .nil))
    · cases List.mem_singleton.mp ha
      exact r.back e.jH h5
end
end Lm


/-! slices of tuples or lists, a range kept in a name, enumerate of a new list -/
namespace Lm
open PySem PySem.Spec PyProof.Rows L2
def rSlU (K : PySem.W.Frag) : V → Option Int → Option Int → Hp → VK → Prop := fun x lo hi H Q => rSlN K x lo hi H Q ∨ rSlL K x lo hi H Q
/-- a new range object -/
def rRng1 : List V → Hp → VK → Prop := fun vs H Q => ∃ j : Int, vs = [V.int j] ∧ ∀ p, H p = none → Q (.ref p) (upd H p (.rng 0 j))
section
variable {X : Cx} {tg : Expr}
theorem cr_rng1 : CallR X (.type "range") rRng1 := by
  intro pins s σ H vs us Q I r h
  obtain ⟨j, rfl, q⟩ := h
  cases r with
  | cons ra rb =>
    cases rb
    obtain ⟨t, rfl⟩ := ra
    refine call_range_1 ⟨.ref s.heap.objs.size, upd H s.heap.objs.size (.rng 0 j), I.laid (t' := s.toks + 1 + 1) (fun b o e => Heap.get?_push_of_some _ e) (Nat.le_refl _) ?_, rfl, q _ (I.hok.fresh (Nat.le_refl _))⟩
    exact ⟨s.toks, t, s.toks + 1, Heap.get?_push_size _ rfl⟩
end
section
variable {X : Cx} {K : PySem.W.Frag} (hK : X.K = K)
include hK
theorem k_slU : SlR X (rSlU K) := by
  subst hK
  intro pins s σ H x v vl vu lo hi sl Q I rx hs pl pu h
  rcases h with h | h
  · exact sl_tupN pins s σ H x v vl vu lo hi sl Q I rx hs pl pu h
  · exact sl_list pins s σ H x v vl vu lo hi sl Q I rx hs pl pu h
end
section
variable {c : Ct} {H H' H0 H1 H2 H3 : Hp} {O : List Addr} {Γ Γ' Γ1 : List (Option Rs)}
variable {te ta tb tx : TE} {tl th : TO} {k ka kb : Kd} {d x y z : PyData} {i j : Int} {a b : Bool} {ds es : List PyData} {u : TS} {P : Out → Prop} {n : Nat} {kv : Bool} {tr : TA}
theorem e_slU {lo hi : Option Int} (h : Ev c te Γ .v (.tuple ds)) (h1 : Eo c tl Γ lo) (h2 : Eo c th Γ hi) : Ev c (tSl (rSlU c.K) te tl th) Γ .v (.tuple (cutD ds lo hi)) := fun H0 O H σ e Q q => by
  have := e_sl h h1 h2 H0 O H σ e Q q
  revert this
  unfold tSl rSlU
  intro w
  refine h H0 O H σ e _ fun v H1 r1 s1 => h1 H0 O H1 σ (e.on r1) _ fun H2 r2 => h2 H0 O H2 σ ((e.on r1).on r2) _ fun H3 r3 => .inl ?_
  have r : Rr c H H3 := (r1.tr r2).tr r3
  obtain ⟨p, xs, rfl, s, al⟩ := Bo.tup' (Res.on e r1 (r2.tr r3) s1)
  refine ⟨p, xs, rfl, (sqT_same mns_same s).sq, fun w => ?_, fun _ => newTk (c := c) fun p' H4 hp sm tp => ?_⟩
  · refine q (.ref p) H3 r ?_
    have n1 : cutD ds lo hi = ds := by
      unfold cutD
      rw [← al.len, w.1, w.2, al.len]
      simp
    rw [n1]
    exact .tup s al
  · have r4 : Rr c H H4 := r.tr (Rr.same sm)
    exact q _ H4 r4 (.tup (tpN_mns e r4 tp) (al.cut.mono (e.on r).j ((Rr.same sm : Rr c H3 H4).mns (e.on r).j e.okO)))
/-- a slice of a list: a new list -/
theorem e_slL {lo hi : Option Int} (h : Ev c te Γ k (.list ds)) (h1 : Eo c tl Γ lo) (h2 : Eo c th Γ hi) (hf : flatAll ds = true) : Ev c (tSl (rSlU c.K) te tl th) Γ .o (.list (cutD ds lo hi)) := fun H0 O H σ e Q q =>
  h H0 O H σ e _ fun v H1 r1 s1 => h1 H0 O H1 σ (e.on r1) _ fun H2 r2 => h2 H0 O H2 σ ((e.on r1).on r2) _ fun H3 r3 => .inr <| by
    have r : Rr c H H3 := (r1.tr r2).tr r3
    obtain ⟨p, xs, rfl, _, s, al⟩ := (Res.bo e (Res.on e r1 (r2.tr r3) s1)).lst'
    refine ⟨p, xs, rfl, s, fun p' hp => ?_⟩
    have sm : Same H3 (upd H3 p' (.lst (cutV xs lo hi))) := fun b u z => by rw [upd_ne (ne_of_none z hp)]; exact z
    refine q _ _ (r.tr (Rr.same sm)) ⟨[p'], .lst upd_same (FoAll.leaves ?_ (al.cut.same sm)), by simp, fun b hb => ?_⟩
    · exact flatAll_mem fun d hd => flatAll_one hf (List.mem_of_mem_drop (List.mem_of_mem_take hd))
    · cases List.mem_singleton.mp hb
      exact r.back e.jH hp
end
end Lm


/-! series of allocations: their steps, losses, turns -/
namespace Lm
open PySem PySem.Spec PyProof.Rows L2
def prs {α : Type} (ns : List α) : List (α × α) := ns.zip (ns.drop 1)
def totA (A : List (List Int)) : Int := ((prs A).map fun p => trI p.1 p.2).sum
structure Ser (A : List (List Int)) (v b : Int) : Prop where
  l1 : 1 ≤ A.length
  l2 : A.length ≤ 10
  alc : ∀ a ∈ A, Alc a v b
  v1 : 1 ≤ v
  v5 : v ≤ 5
  b20 : b ≤ 20
variable {A : List (List Int)} {v b : Int}
theorem Ser.len (h : Ser A v b) : ∀ a ∈ A, a.length = v.toNat := fun a ha => by have := (h.alc a ha).len; omega
theorem Ser.at (h : Ser A v b) {i : Nat} (hi : i < A.length) : Alc (A.getD i []) v b := by
  have : A.getD i [] = A[i] := by simp [List.getD_eq_getElem?_getD, hi]
  rw [this]
  exact h.alc _ (List.getElem_mem hi)
theorem prs_mem {p : List Int × List Int} (h : p ∈ prs A) : p.1 ∈ A ∧ p.2 ∈ A := by
  have := List.of_mem_zip h
  exact ⟨this.1, List.mem_of_mem_drop this.2⟩
end Lm


/-! series: the promises -/
namespace Lm
open PySem PySem.Spec PyProof.Rows L2
section
variable {c : Ct} {H H' H0 H1 H2 H3 : Hp} {O : List Addr} {Γ Γ' Γ1 : List (Option Rs)}
variable {te ta tb tx : TE} {k ka kb : Kd} {d x y z : PyData} {ds es : List PyData} {u : TS} {P : Out → Prop} {n : Nat}
end
def sp_check_steps (K : PySem.W.Frag) : Sp := spD K fun ds k d => ∃ A v b, ds = [.tuple (A.map tupD)] ∧ Ser A v b ∧ k = .v ∧ d = .none
def sp_steps_of (K : PySem.W.Frag) : Sp := spD K fun ds k d => ∃ es : List PyData, (ds = [.tuple es] ∨ ds = [.list es]) ∧ flatAll es = true ∧ 1 ≤ es.length ∧ es.length ≤ 1000 ∧ k = .o ∧ d = .list (zipTs es (es.drop 1))
def sp_total (K : PySem.W.Frag) : Sp := spD K fun ds k d => ∃ A v b, ds = [.tuple (A.map tupD)] ∧ Ser A v b ∧ k = .v ∧ d = .int (totA A)
theorem fl_rows (A : List (List Int)) : flatAll (A.map tupD) = true := flatAll_mem fun d hd => by
  obtain ⟨r, _, rfl⟩ := List.mem_map.mp hd
  exact flatT r
theorem at_tup {A : List (List Int)} {j : Nat} (h : j < A.length) : atI (A.map tupD) (j : Int) = some (tupD (A.getD j [])) := atI_nat (by simp [h])
theorem zipTs_rows (A : List (List Int)) : zipTs (A.map tupD) ((A.map tupD).drop 1) = (prs A).map fun p => .tuple [tupD p.1, tupD p.2] := by
  unfold zipTs prs
  rw [← List.map_drop, List.zip_map, List.map_map]
  rfl
theorem prs_len {α : Type} (A : List α) : (prs A).length = A.length - 1 := by simp [prs]
end Lm
namespace Lm
open PySem PySem.Spec PyProof.Rows L2
theorem i_seqL' {c : Ct} {Γ : List (Option Rs)} {tl : TE} {k : Kd} {ds : List PyData} {items : List Im} (h : Ev c tl Γ k (.list ds)) (hk : k ≠ .b) (e : ds.map Im.d = items) : EvI c (iSeq c.K tl) Γ true items := e ▸ i_seqL h hk
end Lm
namespace Lm
open PySem PySem.Spec PyProof.Rows L2
theorem i_seqB' {c : Ct} {Γ : List (Option Rs)} {tl : TE} {k : Kd} {ds : List PyData} {items : List Im} (h : Ev c tl Γ k (.list ds)) (hf : flatAll ds = true) (e : ds.map Im.d = items) : EvI c (iSeq c.K tl) Γ false items := e ▸ i_seqB h hf
theorem fl_prs (A : List (List Int)) : flatAll ((prs A).map fun p => PyData.tuple [tupD p.1, tupD p.2]) = true := flatAll_mem fun d hd => by
  obtain ⟨p, _, rfl⟩ := List.mem_map.mp hd
  simp [flatD, flatAll, flatAll_ints]
end Lm
namespace Lm
open PySem PySem.Spec PyProof.Rows L2
theorem i_rowsT {c : Ct} {Γ : List (Option Rs)} {tl : TE} {k : Kd} {l : List (List Int)} (h : Ev c tl Γ k (.tuple (l.map tupD))) (hk : k ≠ .b) : EvI c (iSeq c.K tl) Γ true (l.map tupI) := by
  have := i_seqT h hk
  rw [List.map_map] at this
  exact this
end Lm
namespace Lm
open PySem PySem.Spec PyProof.Rows L2
end Lm


/-! lists that hold lists of one's own; any item of a list handed back; forms of any data -/
namespace Lm
open PySem PySem.Spec PyProof.Rows L2
section
variable {c : Ct} {H H' H0 H1 H2 H3 : Hp} {O : List Addr} {Γ Γ' Γ1 : List (Option Rs)}
variable {te ta tb tx : TE} {k ka kb kx : Kd} {d x y z : PyData} {ds es : List PyData} {u : TS} {P : Out → Prop} {n : Nat} {tr : TA} {i : Int}
end
/-- each value once -/
def dd : List Int → List Int
  | [] => []
  | n :: l => if n ∈ l then dd l else n :: dd l
theorem mem_dd {m : Int} : ∀ {l : List Int}, m ∈ dd l ↔ m ∈ l
  | [] => by simp [dd]
  | n :: l => by
    unfold dd
    split
    · rename_i h
      rw [mem_dd, List.mem_cons]
      exact ⟨.inr, fun w => w.elim (fun z => z ▸ h) id⟩
    · rw [List.mem_cons, List.mem_cons, mem_dd]
theorem nd_dd : ∀ {l : List Int}, (dd l).Nodup
  | [] => List.nodup_nil
  | n :: l => by
    unfold dd
    split
    · exact nd_dd
    · rename_i h
      exact List.nodup_cons.mpr ⟨fun w => h (mem_dd.mp w), nd_dd⟩
theorem dd_self : ∀ {l : List Int}, l.Nodup → dd l = l
  | [], _ => rfl
  | n :: l, h => by
    have h' := List.nodup_cons.mp h
    unfold dd
    rw [if_neg h'.1, dd_self h'.2]
def ddN : PyData → Nat
  | .tuple ds => (dd (ds.map Lm.intD)).length
  | _ => 0
def isOrdB (x : PyData) (m : Int) : Bool := areInts x 0 (m - 1) && (decide ((lenT x : Int) = m) && decide ((ddN x : Int) = m))
def sp_is_orderD (K : PySem.W.Frag) : Sp := spD K fun ds k d => ∃ x m, ds = [x, .int m] ∧ SmallT x ∧ m ≤ 1000 ∧ k = .v ∧ d = .bool (isOrdB x m)
theorem ordB_ints (ns : List Int) (m : Int) : isOrdB (.tuple (ns.map .int)) m = (areInts (.tuple (ns.map .int)) 0 (m - 1) && (decide ((ns.length : Int) = m) && decide (((dd ns).length : Int) = m))) := by
  have e : (ns.map PyData.int).map Lm.intD = ns := by
    rw [List.map_map]
    exact List.map_id ns
  unfold isOrdB
  rw [lenT_ints]
  show (_ && (_ && decide (((dd ((ns.map PyData.int).map Lm.intD)).length : Int) = m))) = _
  rw [e]
theorem IsOrd.isB {ns : List Int} {m : Int} (h : IsOrd ns m) : isOrdB (.tuple (ns.map .int)) m = true := by
  rw [ordB_ints, areInts_of fun n hn => ⟨(h.rng n hn).1, by have := (h.rng n hn).2; omega⟩, dd_self h.nd, h.len]
  simp
end Lm
namespace Lm
open PySem PySem.Spec PyProof.Rows L2
section
variable {c : Ct} {Γ : List (Option Rs)} {t u w : TS} {P : Out → Prop}
end
end Lm
namespace Lm
open PySem PySem.Spec PyProof.Rows L2
theorem s_seqE {c : Ct} {Γ : List (Option Rs)} {t u : TS} {P : Out → Prop} (I : List (Option Rs) → Prop) (h : Sd c t Γ (fun o => ∃ Γ3, o = .nx Γ3 ∧ I Γ3)) (hd : ∀ Γ3, I Γ3 → Sd c u Γ3 P) : Sd c (tSeq t u) Γ P :=
  s_seq h (fun _ e => by obtain ⟨Γ3, e, i⟩ := e; cases e; exact hd _ i) (fun _ _ e => by obtain ⟨_, e, _⟩ := e; cases e) (fun _ e => by obtain ⟨_, e, _⟩ := e; cases e) (fun _ e => by obtain ⟨_, e, _⟩ := e; cases e)
end Lm


/-! assignments in order of their variants; small series -/
namespace Lm
open PySem PySem.Spec PyProof.Rows L2
theorem take_one {ns : List Int} {n : Nat} (h : n < ns.length) : ns.take (n + 1) = ns.take n ++ [ns.getD n 0] := by
  rw [List.take_add_one, List.getElem?_eq_getElem h, List.getD_eq_getElem?_getD, List.getElem?_eq_getElem h]
  rfl
theorem rep_int (m : Nat) (x : Int) : (List.replicate m [PyData.int x]).flatten = (List.replicate m x).map PyData.int := by
  rw [List.flatten_replicate_singleton, List.map_replicate]
end Lm


/-! defs that raise: promises with a second half -/
namespace Lm
open PySem PySem.Spec PyProof.Rows L2
section
variable {P : Program} {w : World} {K : PySem.W.Frag} {mg : Str → Option Value} {base : Heap} {k : Nat} {f : Addr} {fd : FuncData} {ps : List Str} {sp : Sp} {x : Str} {CX : CXT}
/-- what never raises does so in any context -/
theorem fn_up0 (F : FnOk P w K mg base CX0 k f fd ps sp) : FnOk P w K mg base CX k f fd ps sp :=
  ⟨F.len, fun A outer s H args us vs Q E hr he hb hv hs => codeAny_mono (F.run A outer s H args us vs Q E hr he hb hv hs) fun r s' h => by
    cases r with
    | ok fl => cases fl <;> exact h
    | error e => exact False.elim h⟩
theorem cal_up0 (F : Cal P w K mg base CX0 k x ps sp) : Cal P w K mg base CX k x ps sp := by
  obtain ⟨f, fd, F1, F2⟩ := F.ok
  exact ⟨f, fd, fn_up0 F1, F2⟩
end
/-- __init__ of an exception that keeps a text at x -/
def spIni (C : Addr) (x : Str) : Sp := fun vs H Q _ => ∃ (a : Addr) (nm : Str), vs = [.ref a, .str nm] ∧ nm.length ≤ 1000 ∧ H a = some (exo a C none) ∧ ∀ dx, H dx = none → dx ≠ a → Q .non (upd (upd H dx (exd dx [(x, .str nm)])) a (exo a C (some dx)))
/-- it holds, or the name is raised -/
def spReq (C : Addr) : Sp := fun vs H Q E => ∃ (b : Bool) (nm : Str), vs = [.bl b, .str nm] ∧ nm.length ≤ 1000 ∧ (b = true → Q .non H) ∧ (b = false → ∀ dx, H dx = none → E (.ref C) (some dx) (upd H dx (.xd [("name", .str nm)])))
theorem upd_end {H : Hp} {a dx : Addr} {o o2 o3 : HO} {u : HO} (ha : H a = none) (hd : dx ≠ a) : upd (del (upd (upd (upd H a o) dx o2) a o3) a) dx u = upd H dx u := by
  funext b
  by_cases h1 : b = dx
  · subst h1; rw [upd_same, upd_same]
  · rw [upd_ne h1, upd_ne h1]
    by_cases h2 : b = a
    · subst h2; rw [del_same, ha]
    · rw [del_ne h2, upd_ne h2, upd_ne h1, upd_ne h2]
/-- raise C(e) where e is a text -/
theorem mkO_req {C : Addr} {ta : TE} {σ : L2.St} {H : Hp} {Q : XK} {nm : Str} (hz : nm.length ≤ 1000) (h : ∀ Q' : VK, Q' (.str nm) H → ta σ H Q') (q : ∀ dx, H dx = none → Q (.ref C) (some dx) (upd H dx (.xd [("name", .str nm)]))) :
    tMkO C (spIni C "name") [] (tCons ta tNil) σ H Q := by
  refine h _ ⟨by simp, fun a ha => ⟨a, nm, rfl, hz, upd_same, fun dx hdx hne => ⟨rfl, dx, [("name", .str nm)], upd_same, ?_, ?_, ?_⟩⟩⟩
  · rw [upd_ne hne, upd_same]
  · rw [upd_ne hne] at hdx; exact hdx
  · rw [upd_ne hne] at hdx
    rw [upd_end ha hne]
    exact q dx hdx
end Lm
namespace Lm
open PySem PySem.Spec PyProof.Rows L2
section
variable {P : Program} {w : World} {K : PySem.W.Frag} {mg : Str → Option Value} {base : Heap} {k : Nat} {f : Addr} {fd : FuncData} {ps : List Str} {sp : Sp}
/-- nothing gets out of it -/
theorem fn_down0 (h : ∀ vs H Q E, sp vs H Q E → sp vs H Q E0) (F : FnOk P w K mg base (L2.CX P w) k f fd ps sp) : FnOk P w K mg base CX0 k f fd ps sp :=
  ⟨F.len, fun A outer s H args us vs Q E hr he hb hv hs => codeAny_mono (F.run A outer s H args us vs Q E0 hr he hb hv (h _ _ _ _ hs)) fun r s' h => by
    cases r with
    | ok fl => cases fl <;> exact h
    | error e =>
      obtain ⟨_, _, _, _, _, _, _, _, _, _, _, _, z⟩ := h
      exact z.elim⟩
end
end Lm
namespace Lm
open PySem PySem.Spec PyProof.Rows L2
section
variable {c : Ct} {H0 : Hp} {Γ : List (Option Rs)} {te : TE} {u : TS} {k : Kd} {d : PyData} {n : Nat}
/-- a body that ends in a raise: whatever stands behind -/
def SdX (c : Ct) (H0 : Hp) (t : TS) (Γ : List (Option Rs)) : Prop := ∀ O H σ D, Env c H0 O H σ Γ → t D σ H
theorem x_drop (h : Ev c te Γ k d) (p : SdX c H0 u Γ) : SdX c H0 (tSeq (tDrop te) u) Γ := fun O H σ D e => h H0 O H σ e _ fun v H2 r q => p O H2 σ D (e.on r)
theorem x_req {K : PySem.W.Frag} {C : Addr} {nm : Str} {E : XK} (hz : nm.length ≤ 1000) (hE : ∀ dx H1, Same H0 H1 → H1 dx = some (.xd [("name", .str nm)]) → E (.ref C) (some dx) H1) (h : Ev (pc K) te Γ k (.bool false)) : SdX (pc K) H0 (tSeq (tDrop (tCall (spReq C) [] E (tCons te (tCons (tC (.str nm)) tNil)))) u) Γ := fun O H σ D e =>
  h H0 O H σ e _ fun v H1 r s => ⟨false, nm, by rw [(Res.bo e s).bl']; rfl, hz, (fun w => nomatch w), fun _ dx hdx => hE dx _ (fun a o z => by
    have z1 : H1 a = some o := (e.rH.tr r).1 a o (fun _ _ w => nomatch w) z
    rw [upd_ne (ne_of_none z1 hdx)]
    exact z1) upd_same⟩
end
end Lm


/-! __init__ of an exception class two below ValueError: super().__init__(..) and what stands behind it -/
namespace PySem.W
open PySem PySem.Calls PyProof.Rows PyProof.V PySem.Spec
theorem call_mwr {prog : Program} {w : World} {A : Around} {E : Value → Shared → Prop} {h : Heap} {g : Array GenState} {d : Drawn} {t : Nat} {os : OsState} {nm q : Str} {C N u e t0 : Addr} {bs bm bmB : List Value} {hdct : Bool} {sn : List Str} {sub : List Value} {ab : Bool} {col : Option Bool} {dd dv : Option Addr}
    {k0 k1 k2 k3 k5 : Option Value} {c2 : Value} {B newId i : String} {rest : List Value} {Q : Value → Shared → Prop} (FB : ExcBaseFacts B newId i bmB) (hC : h.get? C = some (excClassObj nm q C N bs bm hdct sn sub ab col dd k0 k1 k2 k3 k5 newId))
    (he : h.get? e = some (excObj C t0 dv c2)) (hu : h.get? u = some (kxs_mw i e)) (hz : rest.length ≤ sizeLine)
    (fin : ∀ h', (∀ b o, b ≠ e → h.get? b = some o → h'.get? b = some o) → h'.get? e = some (excObj C h.objs.size dv c2) → Q .none ⟨h', g, d, t, os⟩) : wpAny (model prog w) A (call (.ref u) rest) Q E ⟨h, g, d, t, os⟩ := by
  refine wpAny_call (codeAny_of_tree ?_)
  show wpAny _ A.in1 (callAny (.ref u) ⟨rest, []⟩) _ _ _
  simp only [callAny]
  refine wpAny_bind (wpAny_load hu ?_)
  simp only [kxs_mw, show (Value.type "method-wrapper" == Value.type "method" || Value.type "method-wrapper" == Value.type "builtin_function_or_method" || Value.type "method-wrapper" == Value.type "method-wrapper") = true by decide, if_true]
  refine KFB.if_so (by decide) ?_
  refine wpAny_bind (check_bound_init FB.toExcCallFacts hC he rfl ?_)
  refine wpAny_bind (wpAny_pure (wpAny_pure ?_))
  refine ⟨plainId_quiet FB.init.plain _, codeAny_builtin FB.initEntry ?_⟩
  exact exc_init_tree (cls := .ref C) (t0 := t0) (dv := dv) (c2 := c2) (c3 := .none) (b4 := .bool false) he hz fun h' k e' _ => fin h' k e'
end PySem.W
namespace Lm
open PySem PySem.Spec PyProof.Rows L2
/-- the context of such a def's body: the class's cell is free in it -/
def cxF (CX : CXT) (P : Program) (w : World) (K : PySem.W.Frag) (mg : Str → Option Value) (base : Heap) (N : List Str) (qual : Str) (scope : Scope) (f : Addr) (cd : Value) (cc : Addr) (A : Around) (outer : List PySem.Env) (s : Shared) (H : Hp) (E : XK) : Cx where
  prog := P
  w := w
  K := K
  mg := mg
  base := base
  A := A.deeper (PySem.W.ksEnv qual scope s.heap.objs.size f cd cc)
  N := N
  s_0 := s
  H_0 := H
  env := PySem.W.ksEnv qual scope s.heap.objs.size f cd cc
  outer := outer
  stack := PySem.W.ksEnv qual scope s.heap.objs.size f cd cc :: outer
  ex := []
  calm := true
  fn := fun _ => false
  pn := []
  xe := fun e s' => wpAny (model P w) (A.deeper (PySem.W.ksEnv qual scope s.heap.objs.size f cd cc)) (leaving (PySem.W.ksEnv qual scope s.heap.objs.size f cd cc) e) (fun _ s'' => CX outer H s E e s'') (fun e' s'' => CX outer H s E e' s'') s'
/-- its scope -/
structure IniScope (N P : List Str) (sc : Scope) : Prop where
  kind : sc.kind = .function
  co : sc.isCoroutine = false
  gen : sc.isGenerator = false
  nd : N.Nodup
  pre : N.take P.length = P
  par : ∀ x ∈ P, sc.names.lookup x = some .local
  nocell : ∀ y ∈ sc.names, y.2 ≠ .cell
  free : ∀ y ∈ sc.names, y.2 = .free → y.1 = "__class__"
  sup : sc.names.lookup ("super" : Str) = some .globalImplicit
  cls : sc.names.lookup ("__class__" : Str) = some .free
theorem lookup_mem : ∀ {l : List (Str × Value)} {x : Str} {v : Value}, (l.map (·.1)).Nodup → (x, v) ∈ l → l.lookup x = some v
  | [], _, _, _, h => nomatch h
  | (y, u) :: l, x, v, nd, h => by
    have nd' := List.nodup_cons.mp nd
    by_cases e : x = y
    · subst e
      rcases List.mem_cons.mp h with z | z
      · cases z; simp [List.lookup]
      · exact absurd (List.mem_map_of_mem (f := (·.1)) z) nd'.1
    · have e' : (x == y) = false := by simpa using e
      rcases List.mem_cons.mp h with z | z
      · cases z; exact absurd rfl e
      · simp only [List.lookup, e']
        exact lookup_mem nd'.2 z
theorem cell1 {x : Str} {c cc : Addr} (h : [(("__class__" : Str), cc)].lookup x = some c) : x = "__class__" ∧ c = cc := by
  by_cases e : x = "__class__"
  · subst e
    exact ⟨rfl, (Option.some.inj (by simpa [List.lookup] using h)).symm⟩
  · have e' : (x == ("__class__" : Str)) = false := by simpa using e
    simp [List.lookup, e'] at h
theorem inv_startF {CX : CXT} {P : Program} {w : World} {K : PySem.W.Frag} {mg : Str → Option Value} {base : Heap} {N ps : List Str} {qual : Str} {scope : Scope} {f cc : Addr} {cd : Value} {A : Around} {outer : List PySem.Env} {s : Shared} {h1 : Heap} {tk : Nat} {H : Hp} {E : XK} {us : List Value} {vs : List V} {cl : Value} {cld : Option Addr} {cv : Option Value} {csl : Array (Option Value)}
    (S : IniScope N ps scope) (hcell : K.lookup cc = some ⟨cl, cld, .cell cv, csl⟩) (hd : A.handled = none) (e0 : Env0 P w K mg base A outer s H) (hl : vs.length = ps.length) (r : Vals vs us)
    (hns : h1.Ns s.heap.objs.size (fun x => (ps.zip us).reverse.lookup x)) (hk : ∀ b o, s.heap.get? b = some o → h1.get? b = some o) :
    Inv (cxF CX P w K mg base N qual scope f cd cc A outer s H E) [] (L2.start N vs) H { s with heap := h1, toks := tk } := by
  have hpl : ps.length ≤ N.length := by have := congrArg List.length S.pre; rw [List.length_take] at this; omega
  have hb : base.get? cc = some ⟨cl, cld, .cell cv, csl⟩ := e0.mod.kin _ _ hcell
  have hs := e0.bs _ _ hb
  have noA : ∀ b : Addr, b ∉ (cxF CX P w K mg base N qual scope f cd cc A outer s H E).ex := fun b z => absurd (show b ∈ ([] : List Addr) from z) (by simp)
  refine ⟨⟨e0.mod, S.kind, rfl, rfl, Nat.le_refl _, fun y z c p q => ((cell1 p).1.trans (cell1 q).1.symm), fun y hy => ?_, fun y c z _ => (nomatch z), fun _ => hd, Around.frames_deeper e0.frames, .inr ⟨rfl, rfl⟩, fun b z => absurd z (noA b), e0.bs, e0.bsz, fun b _ _ => noA b, fun b z => absurd z (noA b), e0.funs, e0.frf⟩,
    rfl, e0.bare, Un.kept hk, ⟨_, hns, fun i y v p q z => ?_⟩, fun y c z => ?_, e0.hok.fresh (Nat.le_refl _), fun y c z => ?_, fun p hp => absurd (show p ∈ ([] : List (Addr × Obj)) from hp) (by simp), e0.hok.kept hk, ?_⟩
  · have hy : scope.names.lookup y = some .cell ∨ scope.names.lookup y = some .free := hy
    rcases hy with hy | hy
    · exact absurd rfl (S.nocell _ (PySem.mem_of_lookup hy))
    · have e := S.free _ (PySem.mem_of_lookup hy) rfl
      exact ⟨cc, by
        have e' : y = "__class__" := e
        subst e'
        show [(("__class__" : Str), cc)].lookup ("__class__" : Str) = some cc
        simp [List.lookup]⟩
  · have hi : i < vs.length := by
      unfold L2.start at q
      by_cases hi : i < vs.length
      · exact hi
      · rw [List.getElem?_append_right (by simpa using hi), List.getElem?_replicate] at q
        split at q <;> cases q
    have ha : vs[i]? = some v := by
      unfold L2.start at q
      rw [List.getElem?_append_left (by simpa using hi), List.getElem?_map] at q
      cases e : vs[i]? with
      | none => rw [e] at q; cases q
      | some a => rw [e] at q; cases q; rfl
    obtain ⟨u, hu, rv⟩ := r.get ha
    have hp : ps[i]? = some y := by
      rw [← S.pre, List.getElem?_take_of_lt (by omega)]; exact p
    have ndP : ps.Nodup := by rw [← S.pre]; exact S.nd.sublist (List.take_sublist _ _)
    have ml : (y, u) ∈ ps.zip us := by
      have : (ps.zip us)[i]? = some (y, u) := by rw [List.getElem?_zip_eq_some]; exact ⟨hp, hu⟩
      exact List.mem_of_getElem? this
    have lz : us.length = ps.length := by rw [← hl, Paired.length r]
    refine ⟨u, rv, .inl ⟨S.par y (List.mem_of_getElem? hp), lookup_mem ?_ (List.mem_reverse.mpr ml)⟩⟩
    rw [List.map_reverse, List.map_fst_zip (by omega)]
    exact (List.reverse_perm ps).nodup_iff.mpr ndP
  · obtain ⟨_, rfl⟩ := cell1 z
    exact ⟨cv, _, hk _ _ hs.1, rfl⟩
  · obtain ⟨_, rfl⟩ := cell1 z
    exact hs.2
  · unfold L2.start
    show _ = N.length
    rw [List.length_append, List.length_map, List.length_replicate]
    omega

theorem super_boot : bootBuiltins "super" = some (.type "super") := by first | rfl | decide +kernel
/-- THE RULE: super().__init__(e), then the rest of the body -/
theorem fn_super {CX : CXT} {P : Program} {w : World} {K : PySem.W.Frag} {mg : Str → Option Value} {base : Heap} {k : Nat} {f C cc cda : Addr} {name qual : Str} {params : Arguments} {scope : Scope} {dV kV doc pm ct oc : Value} {an od : Option Addr} {osl : Array (Option Value)} {N ps : List Str} {sp : Sp}
    {p0 p1 p2 p3 p4 : Pos} {e : Expr} {rest : List Stmt} {ar : Arg} {vs : Array Value} {file : Str} {tf : Tok} {ccl cl : Value} {cdd cld : Option Addr} {ccs csl : Array (Option Value)}
    (lk : K.lookup f = some ⟨oc, od, .func (PySem.W.ksFn name qual params (.Expr (.Call (.Attribute (.Call (.Name "super" p0) [] [] p1) "__init__" p2) [e] [] p3) p4 :: rest) scope dV kV doc pm an (.ref cda) ct cc), osl⟩)
    (hcd : PySem.W.codeIn K (.ref cda) qual = true) (S : IniScope N ps scope) (hp : (params.posonlyargs ++ params.args).head? = some ar) (h0 : ps[0]? = some ar.arg)
    (hcode : K.lookup cda = some ⟨ccl, cdd, .fields vs, ccs⟩) (hvs : vs[2]? = some (.str file tf)) (hfile : ((P.main.file : Str) == file) = true) (hcell : K.lookup cc = some ⟨cl, cld, .cell (some (.ref C)), csl⟩)
    (T : OexC K C) (hsuper : mg "super" = none) (hsub : PySem.W.subIn K (.ref C) (.type "ValueError") = some true) (hop : PySem.W.nsIn K cStatics "thirdparty.any" = some none)
    (hm : PySem.W.ks_superIn K C C "__init__" = some (some (.builtin "ValueError.__init__"))) (htop : (P.main.scope.names.lookup ("super" : Str)).isSome = false)
    (len : ∀ vs H Q E, sp vs H Q E → vs.length = ps.length)
    (hbody : ∀ (A : Around) (outer : List PySem.Env) (s : Shared) (H : Hp) (vs : List V) (Q : VK) (E : XK), Room k (A.deeper (PySem.W.ksEnv qual scope s.heap.objs.size f (.ref cda) cc)) → sp vs H Q E →
      ∃ (a : Addr) (ws : List V) (te : TE) (t : TS), vs = .ref a :: ws ∧ H a = some (exo a C none) ∧ PE (cxF CX P w K mg base N qual scope f (.ref cda) cc A outer s H E) e te ∧ PSs (cxF CX P w K mg base N qual scope f (.ref cda) cc A outer s H E) rest t ∧
        te (L2.start N vs) H fun _ H1 => H1 a = some (exo a C none) ∧ t { nx := fun _ H' => Q .non H', rt := Q } (L2.start N vs) H1)
    {pl : PySem.Env → Sem Bool}
    (hme : ∀ env : PySem.Env, eval (.Call (.Attribute (.Call (.Name "super" p0) [] [] p1) "__init__" p2) [e] [] p3) env = (do
      let ov ← attributeBase (.Call (.Name "super" p0) [] [] p1) "__init__" env (eval (.Call (.Name "super" p0) [] [] p1) env)
      standAt p2.atName
      let (f, first) ← holding [ov] (getMethod ov "__init__" (pl env))
      callWith p3 f first (backTo p3 (starEach [e] env)) []) := by intro env; rfl)
    (he : ∀ env : PySem.Env, starEach [e] env = [(false, eval e env)] := by intro env; rfl) :
    FnOk P w K mg base CX (k + 1) f (PySem.W.ksFn name qual params (.Expr (.Call (.Attribute (.Call (.Name "super" p0) [] [] p1) "__init__" p2) [e] [] p3) p4 :: rest) scope dV kV doc pm an (.ref cda) ct cc) ps sp := by
  refine ⟨len, fun A outer s H args us vs Q E hr e0 hb r hsp => ?_⟩
  have hl := len _ _ _ _ hsp
  have KX : K.In s.heap := e0.mod.kin.keeps fun b o e => (e0.bs b o e).1
  have lim : s.heap.NoLimit := e0.mod.nolimit.keeps fun b o e => (e0.bs b o e).1
  refine ks_codeAny_call_defAt (fd := PySem.W.ksFn name qual params (.Expr (.Call (.Attribute (.Call (.Name "super" p0) [] [] p1) "__init__" p2) [e] [] p3) p4 :: rest) scope dV kV doc pm an (.ref cda) ct cc) (binds := ps.zip us) hr.depth (KX _ _ lk) rfl lim (PySem.W.codeRec_of KX hcd) rfl hb S.nocell
    (fun y hy => S.par _ (List.of_mem_zip (a := y.1) (b := y.2) hy).1) (fun h1 hns hk => ?_) S.co S.gen S.kind
  obtain ⟨a, ws, te, t, ev, ha, hpe, hps, hq⟩ := hbody A outer s H vs Q E (hr.deeper _) hsp
  have I := inv_startF (CX := CX) (w := w) (mg := mg) (qual := qual) (f := f) (cd := .ref cda) (tk := s.toks + (ps.zip us).length) (E := E) S hcell hr.hd e0 hl r hns hk
  show PySem.wpAt (model P w) (A.deeper (PySem.W.ksEnv qual scope s.heap.objs.size f (.ref cda) cc)) (.func _ (PySem.W.ksEnv qual scope s.heap.objs.size f (.ref cda) cc)) (execs _ (PySem.W.ksEnv qual scope s.heap.objs.size f (.ref cda) cc)) _ _ _
  refine ks_wpAt_execs_cons (ks_wpAt_Expr_any (ks_wpAt_MethodCall ?_ (hme _)) I.quiet (by rfl))
  obtain ⟨t1, hoe⟩ := exo_at e0.hok ha
  obtain ⟨nm, qn, Nn, bs, bm, sn, sub, ab, col, dd, k0, k1, k2, k3, k5, hC, hbm⟩ := T.cls
  have hcl : PySem.W.clsIn K C = some { name := nm, bases := bs, mro := .ref C :: bm, ns := Nn, qualname := qn, hasDict := true, slotNames := sn, subclasses := sub, abstract := ab, collection := col, hasDel := false } := by unfold PySem.W.clsIn; rw [hC] <;> rfl
  have hmro : PySem.W.mroIn K C (.ref C) = some true := by
    unfold PySem.W.mroIn
    rw [hcl, Option.bind_some, if_neg (show ¬ (List.isEmpty (Value.ref C :: bm) = true) from Bool.false_ne_true)]
    simp
  have KI := I.kIn
  have hsf : N[0]? = some ar.arg := by
    have h1 : ps.length ≠ 0 := fun z => by rw [List.length_eq_zero_iff.mp z] at h0; cases h0
    rw [← S.pre, List.getElem?_take_of_lt (by omega)] at h0
    exact h0
  have hk0 := S.par _ (List.mem_of_getElem? h0)
  refine ks_wpAt_super_base (env := PySem.W.ksEnv qual scope s.heap.objs.size f (.ref cda) cc) S.sup S.cls (by decide) rfl (KI _ _ lk) rfl hp rfl (KI _ _ hcode) rfl hvs hfile htop ?_
  obtain ⟨mb, b1, b2⟩ := I.mod.blt
  refine PySem.W.ks_loadName_global S.kind S.sup (Calls.loadGlobal_builtin (env := PySem.W.ksEnv qual scope s.heap.objs.size f (.ref cda) cc) (I.mod.glob.keeps I.bk) hsuper (b1.keeps I.bk) ((b2 _ (by decide)).trans super_boot) ⟨rfl, ?_⟩)
  refine wpAny_loadName_free S.kind S.cls rfl ⟨_, KI _ _ hcell, rfl⟩ ?_
  obtain ⟨m, hn, hlk⟩ := I.loc
  have hself : m ar.arg = some (.ref a) := by
    obtain ⟨u, ru, l⟩ := hlk 0 ar.arg (.ref a) hsf (by rw [ev]; rfl) (.inl hk0)
    obtain rfl : u = Value.ref a := ru
    rcases l with l | ⟨l, _⟩
    · exact l.2
    · have l' : scope.names.lookup ar.arg = some .cell ∨ scope.names.lookup ar.arg = some .free := l
      rw [hk0] at l'
      rcases l' with z | z <;> cases z
  refine wpAny_loadName_local S.kind hk0 hn hself ?_
  refine ks_wpAny_isType_cls (KI _ _ hC) rfl ⟨rfl, ?_⟩
  refine ks_wpAny_call_super (KI _ _ hC) rfl (hk _ _ hoe) rfl (fun c z => by cases z) (PySem.W.looks_mroIn KI hmro) (fun h2 e2 kk2 => ?_)
  have I2 := I.kept (t' := s.toks + (ps.zip us).length) kk2
  have KI2 := I2.kIn
  have hxC : a ≠ C := fun z => by
    have := (I2.bs C _ (e0.mod.kin _ _ hC)).2
    rw [← z, ha] at this
    cases this
  have hI : PySem.W.InstAt h2 a _ C none := ⟨kk2 _ _ (hk _ _ hoe), rfl, rfl, trivial⟩
  unfold PySem.W.ks_superIn at hm
  rw [hcl] at hm
  refine PySem.W.kxs_getMethod PySem.W.kxs_ValueError e2 (PySem.W.looks_opaque KI2 hop) (l₀ := .ref C :: bm) (fun A Q E s k q => wpAny_bind ((PySem.W.looks_clsIn KI2 hcl) A _ E s k (wpAny_pure q))) rfl KI2 hm (hI.type.andThen (PySem.W.looks_subIn KI2 hsub)) hxC (by decide) ?_
  have hu : (h2.push (PySem.W.kxs_mw "ValueError.__init__" a)).get? h2.objs.size = some (PySem.W.kxs_mw "ValueError.__init__" a) := Heap.get?_push_at rfl rfl
  have I3 := I2.kept (h' := h2.push (PySem.W.kxs_mw "ValueError.__init__" a)) (t' := s.toks + (ps.zip us).length + 1) (fun b o z => Heap.get?_push_of_some _ z)
  have I4 := I3.pins_of (pins' := [(h2.objs.size, PySem.W.kxs_mw "ValueError.__init__" a)]) (fun p hp => by
    have ep : p = (h2.objs.size, PySem.W.kxs_mw "ValueError.__init__" a) := by simpa using hp
    subst ep
    refine ⟨hu, I2.hok.fresh (Nat.le_refl _), fun z => ?_, I2.nofs (Nat.le_refl _), fun v z => by cases z⟩
    have y := I2.lt
    rw [← z] at y
    exact Nat.lt_irrefl _ y)
  show PySem.wpAny _ _ (callWith p3 (.ref h2.objs.size) [] (backTo p3 (starEach [e] (PySem.W.ksEnv qual scope s.heap.objs.size f (.ref cda) cc))) []) _ _ _
  rw [he]
  refine PySem.W.kxs_callWith (i := "ValueError.__init__") (x := a) rfl (Calls.evalArgs_plain ?_)
  refine Calls.spliced_cons (thn (hpe.run _ _ _ _ _ I4 hq) fun u1 s1 ⟨x, H1, I5, r1, ea, q1⟩ => Calls.spliced_nil ⟨(I5.pin (h2.objs.size, PySem.W.kxs_mw "ValueError.__init__" a) (List.mem_append_right _ (by simp))).1, ?_⟩)
  obtain ⟨hp', g, d, tk, os⟩ := s1
  obtain ⟨t2, ho⟩ := exo_at I5.hok ea
  refine PySem.W.call_mwr F.excBase_ValueError (I5.kIn _ _ hC) ho (I5.pin (h2.objs.size, PySem.W.kxs_mw "ValueError.__init__" a) (List.mem_append_right _ (by simp))).1 (by show 1 ≤ sizeLine; rw [sizeLine_eq]; omega) (fun h' k' e' => ?_)
  have J := I5.write (t' := tk) (x := a) (e := a) (o := exo a C none) (by rw [ea]; exact True.intro) (.inl rfl) k' ⟨_, e'⟩ (exo_ok e')
  have eu : upd H1 a (exo a C none) = H1 := by
    funext b
    by_cases hb : b = a
    · rw [hb, upd_same, ea]
    · rw [upd_ne hb]
  rw [eu] at J
  have J0 := J.pins_of (pins' := []) (fun p hp => by simp at hp)
  refine wpAt_of_wpAny (wpAny_mono (hps.run [] _ _ _ _ J0 q1) (fun fl s' hs => ?_) fun e s' hs => hs)
  cases fl with
  | ret u =>
    obtain ⟨v, σ', H', J, rv, q⟩ := hs
    exact ⟨v, H', J.os, J.bare, J.base, J.hok, rv, q⟩
  | next =>
    obtain ⟨σ', H', J, q⟩ := hs
    exact ⟨V.non, H', J.os, J.bare, J.base, J.hok, rfl, q⟩
  | brk =>
    obtain ⟨_, _, _, q⟩ := hs
    exact False.elim q
  | cont =>
    obtain ⟨_, _, _, q⟩ := hs
    exact False.elim q

theorem exm_self {K : PySem.W.Frag} {C : Addr} {cd : ClassData} (xb : PySem.W.subIn K (.ref C) (.type "BaseException") = some true) (hc : PySem.W.clsIn K C = some cd) (xt : PySem.W.typeIn K (.ref C) = some (.type "type")) (hs : PySem.W.subIn K (.ref C) (.ref C) = some true) :
    PySem.W.exmOne K (.ref C) (.ref C) = some true := by
  unfold PySem.W.exmOne PySem.W.kitCls
  rw [if_pos (by rw [xb]; rfl)]
  show (if ((PySem.W.clsIn K C).isSome && PySem.W.typeIn K (.ref C) == some (.type "type")) = true then PySem.W.subIn K (.ref C) (.ref C) else none) = some true
  rw [hc, xt, hs]
  rfl
/-- what is known of an exception class that keeps a text -/
structure Exc1 (P : Program) (w : World) (K : PySem.W.Frag) (mg : Str → Option Value) (base : Heap) (cls fld : Str) (C : Addr) : Prop where
  O : OexC K C
  X : XfC K C
  hC : mg cls = some (.ref C)
  no : PySem.W.findIn K (.ref C) fld = some none
  exm : PySem.W.exmOne K (.ref C) (.ref C) = some true
  ini : ∃ fI fdI, PySem.W.findIn K (.ref C) "__init__" = some (some (.ref fI)) ∧ PySem.W.typeIn K (.ref fI) = some (.type "function") ∧ FnOk P w K mg base (L2.CX P w) 1 fI fdI ["self", fld] (spIni C fld) ∧ Binds K fdI ["self", fld] []
/-- the readings of such an __init__ -/
theorem run_ini {K : PySem.W.Frag} {C a : Addr} {pre fld nm : Str} {σ : L2.St} {H : Hp} {Q : VK} {D : Ends} (hp : pre.length ≤ 1000) (hz : nm.length ≤ 1000) (O : OexC K C) (hno : PySem.W.findIn K (.ref C) fld = some none) (s0 : σ[0]? = some (some (.ref a))) (s1 : σ[1]? = some (some (.str nm)))
    (ha : H a = some (exo a C none)) (hq : ∀ dx, H dx = none → dx ≠ a → D.nx σ (upd (upd H dx (exd dx [(fld, .str nm)])) a (exo a C (some dx)))) :
    tJs [tC (.str pre), tFmt (tVar 1)] Str.empty σ H fun out H1 => H1 a = some (exo a C none) ∧ tOst K fld (tVar 0) (tVar 1) D σ H1 := by
  have e0 : Str.empty.length = 0 := by decide
  refine ⟨pre, rfl, ?_, .str nm, s1, .inl ⟨nm, rfl, ?_, nm, rfl, ?_, ha, .str nm, s1, .ref a, s0, a, C, rfl, O, hno, .inl ⟨ha, hq⟩⟩⟩
  · rw [PySem.Str.length_append, sizeLine_eq]; omega
  · rw [sizeLine_eq]; omega
  · rw [PySem.Str.length_append, PySem.Str.length_append, sizeLine_eq]; omega
end Lm


/-! tuple * int, any int from 0 on -/
namespace L2
open PySem PySem.Spec PyProof.Rows
theorem tuple_mul1 (l : Addr) (items : Array Value) (n : Nat) (dd : Option Addr) (sl : Array (Option Value)) (u : Tok) :
    Meets (Builtin.«tuple.__mul__» ⟨[.ref l, .int 1 u], []⟩) (fun _ R s => s.heap.get? l = some { cls := .type "tuple", dict := dd, data := .seq items n, slots := sl } ∧ R (.ok (.ret (Value.ref l))) s) :=
  .of_wp fun prog w A R s h => by
    obtain ⟨hp, g, d, tk, os⟩ := s
    obtain ⟨hl, h⟩ := h
    have f1 := AutoSeq1.idx_int
    have c1 : (items.isEmpty || (1 : Int) == 1) = true := by simp
    wp_walk using wpAny_loadPart' hl
    repeat (first
      | (refine wpAny_ite_true (decide_eq_true (by rw [c1])) ?_; wp_walk using wpAny_loadPart' hl)
      | (rw [if_pos c1]; wp_walk using wpAny_loadPart' hl)
      | (refine wpAny_ite_false (decide_eq_false (by decide)) ?_; wp_walk using wpAny_loadPart' hl))
    all_goals exact ⟨_, rfl, h⟩
theorem tuple_mul0 (l : Addr) (items : Array Value) (n : Nat) (dd : Option Addr) (sl : Array (Option Value)) (u : Tok) (c1 : items.isEmpty = false) :
    Meets (Builtin.«tuple.__mul__» ⟨[.ref l, .int 0 u], []⟩) (fun _ R s => s.heap.get? l = some { cls := .type "tuple", dict := dd, data := .seq items n, slots := sl } ∧
      R (.ok (.ret (Value.ref s.heap.objs.size))) { s with heap := s.heap.push { cls := Value.type "tuple", data := Data.seq #[] }, toks := s.toks }) :=
  .of_wp fun prog w A R s h => by
    obtain ⟨hp, g, d, tk, os⟩ := s
    obtain ⟨hl, h⟩ := h
    have f1 := AutoSeq1.idx_int
    have c2 : (items.isEmpty || (0 : Int) == 1) = false := by rw [c1]; rfl
    wp_walk using wpAny_loadPart' hl
    repeat (first
      | (refine wpAny_ite_false (decide_eq_false (by rw [c2]; exact Bool.false_ne_true)) ?_; wp_walk using wpAny_loadPart' hl)
      | (rw [if_neg (by rw [c2]; exact Bool.false_ne_true)]; wp_walk using wpAny_loadPart' hl))
    all_goals exact ⟨_, rfl, h⟩
end L2
namespace Lm
open PySem PySem.Spec PyProof.Rows L2
def rRepU (K : PySem.W.Frag) : R2 := fun x y H Q => ∃ l k xs, x = .ref l ∧ y = .int k ∧ SqT K H l xs ∧ xs ≠ [] ∧ 0 ≤ k ∧ k ≤ 1000 ∧ xs.length ≤ 1000 ∧ (k = 1 → Q (.ref l) H) ∧ (k ≠ 1 → NewT H (List.replicate k.toNat xs).flatten Q)
section
variable {X : Cx}
theorem op_repU : OpR X (binaryOp .Mult) (rRepU X.K) := by
  intro pins s σ H x y v u Q I rx ry ⟨l, k, xs, ex, ey, hT, hne, h1, h2, hz, q1, q⟩
  subst ex ey
  cases rx
  obtain ⟨t, rfl⟩ := ry
  obtain ⟨us, r, ⟨⟨cls, dd, data, sl⟩, ho, hc, n, hd⟩, _⟩ := I.tuple hT
  simp only at hc hd
  subst hc hd
  have hle : us.length = xs.length := Eq.symm r.length
  have hi : us.toArray.isEmpty = false := by
    cases us with
    | nil => exact (hne (List.eq_nil_of_length_eq_zero hle.symm)).elim
    | cons _ _ => rfl
  by_cases k1 : k = 1
  · subst k1
    refine wpAny_binaryOp_repeat_ref (T := "tuple") (U := "int") (by decide) ⟨_, ho, rfl⟩ (fun s2 => typeIs_int s2 1 t) noFill_tuple_mul F.fills_int_mul F.slot_int_rmul repeat_tuple F.slot_int_index.lookup (call_meets F.slot_int_rmul (typeIs_int s 1 t) F.entry_int_rmul (F.args_int_rmul_2 _ _) (int_rmul_tuple 1 t l us.toArray n dd sl)
        ⟨ho, rfl, ⟨_, ho, rfl⟩, call_meets F.slot_tuple_mul ⟨_, ho, rfl⟩ F.entry_tuple_mul (F.args_tuple_mul_2 _ _) (tuple_mul1 l us.toArray n dd sl t) ⟨ho, ?_⟩⟩)
    exact ⟨.ref l, H, I, rfl, q1 rfl⟩
  have fin := newT (us := (List.replicate k.toNat us).flatten) I (r.rep k.toNat) (by
    rw [PyProof.Rows.lm_len_rep_flat, sizeLine_eq]
    have := Nat.mul_le_mul (show k.toNat ≤ 1000 by omega) hz
    omega) (q k1)
  by_cases k0 : k = 0
  · subst k0
    exact wpAny_binaryOp_repeat_ref (T := "tuple") (U := "int") (by decide) ⟨_, ho, rfl⟩ (fun s2 => typeIs_int s2 0 t) noFill_tuple_mul F.fills_int_mul F.slot_int_rmul repeat_tuple F.slot_int_index.lookup (call_meets F.slot_int_rmul (typeIs_int s 0 t) F.entry_int_rmul (F.args_int_rmul_2 _ _) (int_rmul_tuple 0 t l us.toArray n dd sl)
        ⟨ho, rfl, ⟨_, ho, rfl⟩, call_meets F.slot_tuple_mul ⟨_, ho, rfl⟩ F.entry_tuple_mul (F.args_tuple_mul_2 _ _) (tuple_mul0 l us.toArray n dd sl t hi) ⟨ho, fin⟩⟩)
  have sz : us.toArray.size = xs.length := by simp [hle]
  have a1 : ((xs.length : Nat) : Int) * k ≤ 1000 * k := Int.mul_le_mul_of_nonneg_right (by omega) (by omega)
  have fl : (List.foldl (fun x1 x2 => x1 ++ x2) #[] (List.replicate k.toNat us.toArray)) = (List.replicate k.toNat us).flatten.toArray := size_rep us k.toNat
  refine wpAny_binaryOp_repeat_ref (T := "tuple") (U := "int") (by decide) ⟨_, ho, rfl⟩ (fun s2 => typeIs_int s2 k t) noFill_tuple_mul F.fills_int_mul F.slot_int_rmul repeat_tuple F.slot_int_index.lookup (call_meets F.slot_int_rmul (typeIs_int s k t) F.entry_int_rmul (F.args_int_rmul_2 _ _) (int_rmul_tuple k t l us.toArray n dd sl)
        ⟨ho, rfl, ⟨_, ho, rfl⟩, call_meets F.slot_tuple_mul ⟨_, ho, rfl⟩ F.entry_tuple_mul (F.args_tuple_mul_2 _ _) (tuple_mulW l us.toArray n dd sl k t ?_ ?_ ?_ ?_ ?_ ?_) ⟨ho, ?_⟩⟩)
  · rw [decide_eq_false (by omega), decide_eq_false (by omega)]; rfl
  · rw [hi, Bool.false_or]; simpa using k1
  · rw [hi, Bool.or_false]; simp; omega
  · rw [sz]; omega
  · rw [sz]; unfold Builtin.Tuple.tupleTooMany; rw [sizeLine_eq]; simp; omega
  · rw [fl, List.size_toArray, PyProof.Rows.lm_len_rep_flat, sizeLine_eq, hle]
    have := Nat.mul_le_mul (show k.toNat ≤ 1000 by omega) hz
    omega
  · rw [fl]; exact fin
end
end Lm
namespace Lm
open PySem PySem.Spec PyProof.Rows L2
section
variable {X : Cx} {K : PySem.W.Frag} (hK : X.K = K)
include hK
theorem k_repU : OpR X (binaryOp .Mult) (rRepU K) := hK ▸ op_repU
end
section
variable {c : Ct} {Γ : List (Option Rs)} {ta tb : TE} {ka kb : Kd} {ds : List PyData} {i : Int}
/-- tuple * int -/
theorem e_repT (h : Ev c ta Γ .v (.tuple ds)) (hne : ds ≠ []) (hb : Ev c tb Γ kb (.int i)) (h1 : 0 ≤ i) (h2 : i ≤ 1000) (hl : ds.length ≤ 1000) : Ev c (tOp (rRepU c.K) ta tb) Γ .v (.tuple (List.replicate i.toNat ds).flatten) := fun H0 O H σ e Q q =>
  h H0 O H σ e _ fun v H1 r1 s1 => hb H0 O H1 σ (e.on r1) _ fun u H2 r2 s2 => by
    have b2 : Bo c (mns H2 O) v (.tuple ds) := Res.on (k := .v) e r1 r2 s1
    obtain ⟨a, xs, rfl, tp, al⟩ := b2.tup'
    have tq : SqT c.K H2 a xs := (sqT_same mns_same tp).sq
    have lx : xs.length = ds.length := al.len
    refine ⟨a, i, xs, rfl, (Res.bo (e.on r1) s2).int', tq, fun z => hne (List.eq_nil_of_length_eq_zero (by rw [← lx, z]; rfl)), h1, h2, by omega, fun z => ?_, fun _ => newTk (c := c) fun p H3 hp sm tp => ?_⟩
    · refine q _ H2 (r1.tr r2) ?_
      subst z
      have e1 : (List.replicate (1 : Int).toNat ds).flatten = ds := by simp
      rw [e1]
      exact b2
    · have r3 : Rr c H2 H3 := Rr.same sm
      have e2 := (e.on r1).on r2
      have rep : ∀ n : Nat, BoAll c (mns H2 O) (List.replicate n xs).flatten (List.replicate n ds).flatten := fun n => by
        induction n with
        | zero => exact .nil
        | succ n ih => rw [List.replicate_succ, List.replicate_succ, List.flatten_cons, List.flatten_cons]; exact al.app ih
      exact q _ H3 ((r1.tr r2).tr r3) (.tup (tpN_mns e2 r3 tp) ((rep _).mono e2.j (r3.mns e2.j e2.okO)))
end
end Lm


/-! intervals: one variant after another -/
namespace Lm
open PySem PySem.Spec PyProof.Rows L2
/-- the assignment by intervals -/
def runL (as os : List Int) : List Int := os.flatMap fun o => List.replicate (gI as o).toNat o
theorem runL_cons {as os : List Int} {o : Int} : runL as (o :: os) = List.replicate (gI as o).toNat o ++ runL as os := rfl
theorem runL_snoc {as os : List Int} {o : Int} : runL as (os ++ [o]) = runL as os ++ List.replicate (gI as o).toNat o := by
  unfold runL; rw [List.flatMap_append]; simp
theorem runL_mem {as os : List Int} {x : Int} (h : x ∈ runL as os) : x ∈ os := by
  obtain ⟨o, ho, hx⟩ := List.mem_flatMap.mp h
  rw [(List.mem_replicate.mp hx).2]; exact ho
def shL (as os : List Int) : List Int := os.map (gI as)
theorem gI_nn {as : List Int} (h : ∀ n ∈ as, 0 ≤ n) (o : Int) : 0 ≤ gI as o := by
  unfold gI
  rw [List.getD_eq_getElem?_getD]
  cases e : as[o.toNat]? with
  | none => simp
  | some x => simpa using h x (List.mem_of_getElem? e)
theorem runL_len {as : List Int} (h : ∀ n ∈ as, 0 ≤ n) : ∀ os : List Int, ((runL as os).length : Int) = (shL as os).sum
  | [] => rfl
  | o :: os => by
    have := runL_len h os
    have := gI_nn h o
    rw [runL_cons, List.length_append, List.length_replicate]
    simp only [shL, List.map_cons, List.sum_cons] at *
    omega
theorem shL_sum {as os : List Int} {v b : Int} (h : Alc as v b) (o : IsOrd os v) : (shL as os).sum = b := by
  have hl : os.length = as.length := by have := h.len; have := o.len; omega
  have p : (shL as (upI 0 os.length)).sum = (shL as os).sum := perm_sum (o.perm.map _)
  rw [← p, ← h.sum, ← sum_range (ns := as), hl]
  unfold shL upI gI
  rw [List.map_map]
  congr 1
  apply List.map_congr_left
  intro j hj
  show as.getD (0 + (j : Int)).toNat 0 = as.getD j 0
  rw [Int.zero_add, Int.toNat_natCast]
theorem runL_asg {as os : List Int} {v b : Int} (h : Alc as v b) (o : IsOrd os v) (hb : b ≤ 20) : Asg (runL as os) v := by
  have := runL_len h.nn os
  rw [shL_sum h o] at this
  exact ⟨by omega, fun n hn => o.rng n (runL_mem hn)⟩
theorem runL_length {as os : List Int} {v b : Int} (h : Alc as v b) (o : IsOrd os v) : ((runL as os).length : Int) = b := by
  rw [runL_len h.nn, shL_sum h o]
/-- running totals -/
def accL : Int → List Int → List Int
  | _, [] => []
  | a, x :: xs => (a + x) :: accL (a + x) xs
theorem accL_snoc : ∀ (xs : List Int) (a x : Int), accL a (xs ++ [x]) = accL a xs ++ [a + xs.sum + x]
  | [], a, x => by simp [accL]
  | y :: xs, a, x => by
    rw [List.cons_append, accL, accL, accL_snoc xs, List.cons_append, List.sum_cons]
    congr 3; omega
theorem accL_len : ∀ (xs : List Int) (a : Int), (accL a xs).length = xs.length
  | [], _ => rfl
  | _ :: xs, a => by simp [accL, accL_len xs]
def bndL (as os : List Int) : List Int := accL 0 (shL as os.dropLast)
/-! promises -/
def sp_one_after_another (K : PySem.W.Frag) : Sp := spD K fun ds k d => ∃ (as os : List Int) (v b : Int), ds = [.tuple (as.map .int), .tuple (os.map .int)] ∧ Alc as v b ∧ IsOrd os v ∧ v ≤ 1000 ∧ b ≤ 1000 ∧ k = .v ∧ d = .tuple ((runL as os).map .int)
def sp_check_order (K : PySem.W.Frag) : Sp := spD K fun ds k d => ∃ (as os : List Int) (v : Int), ds = [.tuple (os.map .int), .tuple (as.map .int)] ∧ IsOrd os v ∧ (as.length : Int) = v ∧ v ≤ 1000 ∧ k = .v ∧ d = .none
def sp_check_ordered (K : PySem.W.Frag) : Sp := spD K fun ds k d => ∃ (as os : List Int) (v b : Int), ds = [.tuple (as.map .int), .tuple (os.map .int)] ∧ Alc as v b ∧ IsOrd os v ∧ 1 ≤ v ∧ v ≤ 5 ∧ b ≤ 20 ∧ k = .v ∧ d = .none
def sp_by_intervals (K : PySem.W.Frag) : Sp := spD K fun ds k d => ∃ (as os : List Int) (v b : Int), ds = [.tuple (as.map .int), .tuple (os.map .int)] ∧ Alc as v b ∧ IsOrd os v ∧ 1 ≤ v ∧ v ≤ 5 ∧ b ≤ 20 ∧ k = .v ∧ d = .tuple ((runL as os).map .int)
def sp_boundaries (K : PySem.W.Frag) : Sp := spD K fun ds k d => ∃ (as os : List Int) (v b : Int), ds = [.tuple (as.map .int), .tuple (os.map .int)] ∧ Alc as v b ∧ IsOrd os v ∧ 1 ≤ v ∧ v ≤ 5 ∧ b ≤ 20 ∧ k = .v ∧ d = .tuple ((bndL as os).map .int)
def sp_both_by_intervals (K : PySem.W.Frag) : Sp := spD K fun ds k d => ∃ (as cs os : List Int) (v b : Int), ds = [.tuple (as.map .int), .tuple (cs.map .int), .tuple (os.map .int)] ∧ Alc as v b ∧ Alc cs v b ∧ IsOrd os v ∧ 1 ≤ v ∧ v ≤ 5 ∧ b ≤ 20 ∧ k = .v ∧ d = .tuple [.tuple ((runL as os).map .int), .tuple ((runL cs os).map .int)]
def sp_interval_churn (K : PySem.W.Frag) : Sp := spD K fun ds k d => ∃ (as cs os : List Int) (v b : Int), ds = [.tuple (as.map .int), .tuple (cs.map .int), .tuple (os.map .int)] ∧ Alc as v b ∧ Alc cs v b ∧ IsOrd os v ∧ 1 ≤ v ∧ v ≤ 5 ∧ b ≤ 20 ∧ k = .v ∧ d = .int (zs ne1 (runL as os) (runL cs os))
def sp_waste (K : PySem.W.Frag) : Sp := spD K fun ds k d => ∃ (as cs os : List Int) (v b : Int), ds = [.tuple (as.map .int), .tuple (cs.map .int), .tuple (os.map .int)] ∧ Alc as v b ∧ Alc cs v b ∧ IsOrd os v ∧ 1 ≤ v ∧ v ≤ 5 ∧ b ≤ 20 ∧ k = .v ∧ d = .int (zs ne1 (runL as os) (runL cs os) - trI as cs)
end Lm


/-! readings that the intervals want -/
namespace Lm
open PySem PySem.Spec PyProof.Rows L2
theorem ord_at {os : List Int} {v : Int} (o : IsOrd os v) {n : Nat} {a : Im} (h : (os.map imI)[n]? = some a) : ∃ (hn : n < os.length) (j : Nat), (j : Int) < v ∧ os.getD n 0 = (j : Int) ∧ a = imI (j : Int) := by
  have hn : n < os.length := by have := (List.getElem?_eq_some_iff.mp h).1; simpa using this
  rw [List.getElem?_map, List.getElem?_eq_getElem hn] at h
  have r := o.rng _ (List.getElem_mem hn)
  obtain ⟨j, e⟩ := Int.eq_ofNat_of_zero_le r.1
  refine ⟨hn, j, by omega, ?_, ?_⟩
  · rw [List.getD_eq_getElem?_getD, List.getElem?_eq_getElem hn]; exact e
  · rw [← e]; exact (Option.some.inj h).symm
theorem runL_take {as os : List Int} (n : Nat) : (runL as (os.take n)).length ≤ (runL as os).length := by
  have e : runL as os = runL as (os.take n) ++ runL as (os.drop n) := by
    conv => lhs; rw [← List.take_append_drop n os]
    unfold runL; rw [List.flatMap_append]
  rw [e, List.length_append]; omega
theorem cutD_last {α : Type} {ds : List α} : cutD ds none (some (-1)) = ds.dropLast := by
  show (ds.drop 0).take ((if (-1 : Int) < 0 then ((-1 : Int) + (ds.length : Int)).toNat else min (-1 : Int).toNat ds.length) - 0) = ds.dropLast
  rw [if_pos (by decide), List.drop_zero, List.dropLast_eq_take]
  congr 1
  omega
theorem Asg.up {ns : List Int} {v w : Int} (h : Asg ns v) (hw : v ≤ w) : Asg ns w := ⟨h.len, fun n hn => ⟨(h.rng n hn).1, by have := (h.rng n hn).2; omega⟩⟩
section
variable {c : Ct} {H H' H0 H1 H2 H3 : Hp} {O : List Addr} {Γ Γ' Γ1 : List (Option Rs)}
variable {te ta tb tx ty : TE} {k ka kb kc : Kd} {d x y z : PyData}
end
end Lm


/-! all assignments of an allocation, in order; the one whose places ascend -/
namespace Lm
open PySem PySem.Spec PyProof.Rows L2
theorem nodup_sub {α : Type} [DecidableEq α] : ∀ {l m : List α}, l.Nodup → (∀ x ∈ l, x ∈ m) → l.length ≤ m.length
  | [], _, _, _ => Nat.zero_le _
  | a :: l, m, nd, h => by
    have nd' := List.nodup_cons.mp nd
    have ha := h a (by simp)
    have ih := nodup_sub (m := m.erase a) nd'.2 fun x hx => (List.mem_erase_of_ne (fun z => nd'.1 (by rw [← z]; exact hx))).mpr (h x (by simp [hx]))
    rw [List.length_erase_of_mem ha] at ih
    have := List.length_pos_of_mem ha
    simp only [List.length_cons]; omega
theorem perm_of_count {r m : List Int} (hc : ∀ x, r.count x ≤ m.count x) (hl : m.length ≤ r.length) : r.Perm m := by
  induction r generalizing m with
  | nil =>
    have : m = [] := List.eq_nil_of_length_eq_zero (by simpa using hl)
    rw [this]
  | cons a r ih =>
    have ha : a ∈ m := by
      have := hc a
      rw [List.count_cons_self] at this
      exact List.count_pos_iff.mp (by omega)
    refine (List.Perm.cons a (ih (m := m.erase a) (fun x => ?_) ?_)).trans (List.perm_cons_erase ha).symm
    · have h1 := hc x
      rw [List.count_erase]
      by_cases e : a = x
      · subst e
        rw [List.count_cons_self] at h1
        simp; omega
      · rw [List.count_cons_of_ne e] at h1
        rw [if_neg (by simpa using e)]; omega
    · rw [List.length_erase_of_mem ha]
      simp only [List.length_cons] at hl; omega
/-- what may come behind r -/
def nxtA (as r : List Int) : List Int := (upI 0 as.length).filter fun x => decide ((r.count x : Int) < gI as x)
def asgN (as : List Int) : Nat → List (List Int)
  | 0 => [[]]
  | n + 1 => (asgN as n).flatMap fun r => (nxtA as r).map fun x => r ++ [x]
theorem mem_asgN {as : List Int} (nn : ∀ n ∈ as, 0 ≤ n) : ∀ (n : Nat) (r : List Int), r ∈ asgN as n ↔ r.length = n ∧ (∀ x ∈ r, 0 ≤ x ∧ x < as.length) ∧ ∀ x, (r.count x : Int) ≤ gI as x
  | 0, r => by
    constructor
    · intro h
      have : r = [] := by simpa [asgN] using h
      subst this
      exact ⟨rfl, fun _ h => (nomatch h), fun x => by have := gI_nn nn x; simpa using this⟩
    · rintro ⟨h, _⟩
      rw [List.eq_nil_of_length_eq_zero h]
      simp [asgN]
  | n + 1, r => by
    unfold asgN
    rw [List.mem_flatMap]
    constructor
    · rintro ⟨q, hq, h⟩
      obtain ⟨x, hx, rfl⟩ := List.mem_map.mp h
      obtain ⟨h1, h2, h3⟩ := (mem_asgN nn n q).mp hq
      obtain ⟨hx1, hx2⟩ := List.mem_filter.mp hx
      have hx3 := of_decide_eq_true hx2
      have hx4 := mem_upI.mp hx1
      refine ⟨by simp [h1], fun y hy => ?_, fun y => ?_⟩
      · rcases List.mem_append.mp hy with w | w
        · exact h2 y w
        · rw [List.mem_singleton.mp w]; exact hx4
      · rw [List.count_append]
        by_cases e : x = y
        · subst e
          simp only [List.count_cons_self, List.count_nil]; omega
        · rw [List.count_cons_of_ne e, List.count_nil]
          exact h3 y
    · rintro ⟨h1, h2, h3⟩
      have hne : r ≠ [] := fun z => by rw [z] at h1; simp at h1
      have el := List.dropLast_concat_getLast hne
      obtain ⟨q, eq⟩ : ∃ q, q = r.dropLast := ⟨_, rfl⟩
      obtain ⟨x, ex⟩ : ∃ x, x = r.getLast hne := ⟨_, rfl⟩
      rw [← eq, ← ex] at el
      have cx : ∀ y, r.count y = q.count y + [x].count y := fun y => by rw [← el, List.count_append]
      have xr : x ∈ r := by rw [← el]; simp
      refine ⟨q, (mem_asgN nn n q).mpr ⟨by rw [eq, List.length_dropLast]; omega, fun y hy => h2 y (by rw [← el]; simp [hy]), fun y => by have := h3 y; have := cx y; omega⟩, List.mem_map.mpr ⟨x, List.mem_filter.mpr ⟨mem_upI.mpr (h2 x xr), decide_eq_true ?_⟩, el⟩⟩
      have a1 := h3 x
      have a2 := cx x
      rw [List.count_cons_self, List.count_nil] at a2
      omega
/-- the places that ascend -/
theorem runL_count {as : List Int} (nn : ∀ n ∈ as, 0 ≤ n) : ∀ {os : List Int}, os.Nodup → ∀ o, ((runL as os).count o : Int) = if o ∈ os then gI as o else 0
  | [], _, o => by simp [runL]
  | p :: os, nd, o => by
    have nd' := List.nodup_cons.mp nd
    have ih := runL_count nn nd'.2 o
    have g0 := gI_nn nn o
    rw [runL_cons, List.count_append, List.count_replicate, Int.natCast_add, ih]
    by_cases e : p = o
    · subst e
      rw [if_neg nd'.1, if_pos (by simp), if_pos (by simp)]; omega
    · rw [if_neg (by simpa using e), Int.natCast_zero, Int.zero_add]
      by_cases m : o ∈ os
      · rw [if_pos m, if_pos (by simp [m])]
      · rw [if_neg m, if_neg (fun z => by rcases List.mem_cons.mp z with w | w; exact e w.symm; exact m w)]
section
variable {c : Ct} {Γ : List (Option Rs)} {te : TE} {k : Kd}
end
end Lm


/-! t[::-1] of a tuple -/
namespace HT
open PySem PySem.W PySem.Calls PyProof.Rows
end HT
namespace Lm
open PySem PySem.Spec PyProof.Rows L2
section
variable {prog : Program} {w : World} {A : Around} {E : Value → Shared → Prop} {s : Shared}
end
section
variable {c : Ct} {Γ : List (Option Rs)} {te : TE} {ds : List PyData}
end
end Lm


/-! intervals: bounds of their churn, and when nothing is wasted -/
namespace Lm
open PySem PySem.Spec PyProof.Rows L2
variable {as cs os : List Int} {v b : Int}
theorem runL_counts (h : Alc as v b) (o : IsOrd os v) : countsI (runL as os) v = as := by
  have hl := h.len
  apply List.ext_getElem
  · simp [countsI, upI]; omega
  · intro j h1 h2
    have hj : (j : Int) < v := by omega
    have e := countsI_get (ns := runL as os) hj
    rw [List.getD_eq_getElem?_getD, List.getElem?_eq_getElem h1] at e
    have e' : (countsI (runL as os) v)[j] = ((runL as os).count (j : Int) : Int) := e
    rw [e', runL_count h.nn o.nd, if_pos (o.mem (by omega) hj)]
    simp [gI, h2]
/-! the other bound -/
/-! both ways, and backwards -/
/-! when nothing is wasted -/
end Lm


/-! the first history: each step's first change is the least one -/
namespace Lm
open PySem PySem.Spec PyProof.Rows L2
variable {v b : Int} {A T : List (List Int)} {as f r : List Int} {n : Nat}
theorem asgN_cnt (h : Alc as v b) (hr : r ∈ asgN as b.toNat) : (r.length : Int) = b ∧ (∀ x ∈ r, 0 ≤ x ∧ x < v) ∧ countsI r v = as := by
  obtain ⟨h1, h2, h3⟩ := (mem_asgN h.nn _ r).mp hr
  have hl := h.len
  have o := ord_upI (m := v) (by omega)
  have rl := runL_length h o
  have b0 : 0 ≤ b := by rw [← h.sum]; exact sum_nn h.nn
  have cle : ∀ x, r.count x ≤ (runL as (upI 0 v.toNat)).count x := fun x => by
    have c1 := runL_count h.nn o.nd x
    by_cases m : x ∈ upI 0 v.toNat
    · rw [if_pos m] at c1
      have := h3 x
      omega
    · rw [List.count_eq_zero_of_not_mem fun z => m (o.mem (h2 x z).1 (by have := (h2 x z).2; omega))]; omega
  have sp : r.Perm (runL as (upI 0 v.toNat)) := perm_of_count cle (by omega)
  refine ⟨by omega, fun x hx => ⟨(h2 x hx).1, by have := (h2 x hx).2; omega⟩, ?_⟩
  rw [← runL_counts h o]
  unfold countsI
  apply List.map_congr_left
  intro i _
  rw [sp.count_eq]
/-- rows of the allocations' sizes -/
structure Tab (T A : List (List Int)) (v b : Int) : Prop where
  ser : Ser A v b
  len : T.length = A.length
  asg : ∀ t ∈ T, Asg t v ∧ (t.length : Int) = b
theorem Tab.at (h : Tab T A v b) (hn : n < A.length) : Asg (T.getD n []) v ∧ ((T.getD n []).length : Int) = b := by
  have := h.len
  have e : T.getD n [] = T[n] := by simp [List.getD_eq_getElem?_getD, show n < T.length by omega]
  rw [e]
  exact h.asg _ (List.getElem_mem (by omega))
def tTupRn (te : L2.St → Hp → (Int → Int → Hp → Prop) → Prop) : TE := fun σ H Q => te σ H fun a z H1 => RgOk a z ∧ NewT H1 (rgV a z) Q
theorem pe_tupRn {X : Cx} {e : Expr} {te : L2.St → Hp → (Int → Int → Hp → Prop) → Prop} {p pos : Pos} (hc : X.calm = true) (hg : Gl X "tuple") (hm : X.mg "tuple" = none) (he : PRg X e te) (na : starEach [e] X.env = (false, eval e X.env) :: starEach [] X.env := by rfl) :
    PE X (.Call (.Name "tuple" p) [e] [] pos) (tTupRn te) := by
  refine ⟨fun pins s σ H Q I h => Call_ (ld_blt I hg hm boot_tuple (PyProof.Rows.callWith_type1 (args_cons (thn (he pins s σ H _ I h) fun x s1 ⟨r, a, z, t, u, v, H1, ex, hr, I1, ok, q⟩ => args_nil ?_) na) na))⟩
  obtain ⟨z1, z2, z3, z4, z5⟩ := ok
  rw [ex]
  refine call_tuple_range (n := (z - a).toNat) (I1.ok.hd hc) hr (small_one z1 z2 z3 z4) (rangeSize_nat a z) z5 fun h' tk acc hk hi => ?_
  have I2 : Inv X pins σ H1 { s1 with heap := h', toks := tk } := I1.kept hk
  have w := newT I2 (vals_rg hi) (by rw [rgV_length, sizeLine_eq]; omega) q
  rwa [Array.toArray_toList] at w
section
variable {c : Ct} {H H' H0 H1 H2 H3 : Hp} {O : List Addr} {Γ Γ' Γ1 : List (Option Rs)} {te : TE} {k : Kd} {i : Int}
/-- tuple(range(n)) -/
theorem e_tupRg (h : Ev c te Γ k (.int i)) (h0 : 0 ≤ i) (h1 : i ≤ 1000000) : Ev c (tTupRn (tRg1 te)) Γ .v (.tuple ((upI 0 i.toNat).map .int)) := fun H0 O H σ e Q q =>
  h H0 O H σ e _ fun v H1 r s => ⟨i, (Res.bo e s).int', .of_le (by decide) (by omega) (by decide) h0, newTk (c := c) fun p' H4 hp sm tp => by
    have r4 : Rr c H H4 := r.tr (Rr.same sm)
    rw [rgV_upI] at tp
    exact q _ H4 r4 (.tup (tpN_mns e r4 tp) (BoAll.ofInts _))⟩
end
/-! of lists -/
end Lm


/-! itertools.combinations(range(n), k), walked -/
namespace CmbK
open PySem PySem.Spec PyProof.Rows L2
theorem mro_c : mroOf (.type "itertools.combinations") = pure [.type "itertools.combinations", .type "object"] := by rw [mroOf_type]; kernel_rfl
theorem new_c : typeLookup (.type "itertools.combinations") "__new__" = pure (some (.builtin "itertools.combinations.__new__")) := by rw [typeLookup_type, builtinLookup_eq_fast]; kernel_rfl
theorem init_c : Slot "itertools.combinations" "__init__" "object.__init__" :=
  .of (owner := "object") (n := "__init__") (by rw [typeLookup_type, builtinLookup_eq_fast]; kernel_rfl) (by decide +kernel) (by decide +kernel) (by decide +kernel) (by first | exact .inl (by decide +kernel) | exact .inr (by decide +kernel)) (by rw [isSubtype_type]; kernel_rfl)
theorem sub_c : isSubtype (.type "itertools.combinations") (.type "itertools.combinations") = pure true := by rw [isSubtype_type]; kernel_rfl
theorem called_c : TypeCalled "itertools.combinations" "itertools.combinations.__new__" "object.__init__" :=
  ⟨by decide +kernel, by decide +kernel, ⟨_, _, mro_c⟩, madeBy_type mro_c new_c (by decide +kernel), by decide +kernel, sub_c, init_c⟩
theorem entryN_c : entryFor table "itertools.combinations.__new__" = some Builtin.«itertools.combinations.__new__» := entryFor_of_tree (by kernel_rfl)
theorem iter_c : Slot "itertools.combinations" "__iter__" "itertools.combinations.__iter__" :=
  .of (owner := "itertools.combinations") (n := "__iter__") (by rw [typeLookup_type, builtinLookup_eq_fast]; kernel_rfl) (by decide +kernel) (by decide +kernel) (by decide +kernel) (by first | exact .inl (by decide +kernel) | exact .inr (by decide +kernel)) sub_c
theorem next_c : Slot "itertools.combinations" "__next__" "itertools.combinations.__next__" :=
  .of (owner := "itertools.combinations") (n := "__next__") (by rw [typeLookup_type, builtinLookup_eq_fast]; kernel_rfl) (by decide +kernel) (by decide +kernel) (by decide +kernel) (by first | exact .inl (by decide +kernel) | exact .inr (by decide +kernel)) sub_c
theorem entryI_c : entryFor table "itertools.combinations.__iter__" = some Builtin.«dict_keyiterator.__iter__» :=
  entryFor_alias (id' := "dict_keyiterator.__iter__") (by kernel_rfl) (by first | rfl | decide +kernel | (unfold String.splitOn; simp +decide [String.splitOnAux])) (by decide +kernel) (by kernel_rfl)
theorem entryX_c : entryFor table "itertools.combinations.__next__" = some Builtin.«itertools.combinations.__next__» := entryFor_of_tree (by kernel_rfl)
theorem owner_c : Manifest.owners.lookup (String.ofList "itertools.combinations".toList.reverse.reverse) = some Manifest.sig_itertools_combinations := by kernel_rfl
theorem argsI_c (a : Value) : argsOk "itertools.combinations.__iter__" ⟨[a], []⟩ := by
  unfold argsOk; rw [signature?_of (id := "itertools.combinations.__iter__") (n := "__iter__".toList.reverse) (o := "itertools.combinations".toList.reverse) (by kernel_rfl) owner_c]; kernel_rfl
theorem argsX_c (a : Value) : argsOk "itertools.combinations.__next__" ⟨[a], []⟩ := by
  unfold argsOk; rw [signature?_of (id := "itertools.combinations.__next__") (n := "__next__".toList.reverse) (o := "itertools.combinations".toList.reverse) (by kernel_rfl) owner_c]; kernel_rfl
theorem noDict_c : typeHasDict (.type "itertools.combinations") = false := by decide +kernel
/-- the iterator: its items' tuple, 0 before the first item, 1 behind it, 2 at the end; what it handed out; the places -/
def cells (T : Addr) (st : Int) (bf : Value) (ks : List Nat) : Array Value := ([.ref T, .int st 0, bf] ++ ks.map fun (i : Nat) => Value.int i 0).toArray
abbrev IsCmb (h : Heap) (it T : Addr) (st : Int) (bf : Value) (ks : List Nat) : Prop := h.get? it = some { cls := .type "itertools.combinations", dict := none, data := .fields (cells T st bf ks), slots := #[] }
/-- the places that follow -/
def nxt (n : Nat) (ks : List Nat) : Option (List Nat) :=
  match (List.range ks.length).reverse.find? fun i => ks.getD i 0 != i + n - ks.length with
  | none => none
  | some i => some (ks.take i ++ (List.range (ks.length - i)).map (ks.getD i 0 + 1 + ·))
end CmbK


/-! itertools.combinations(range(n), k): made, its turns -/
namespace CmbK
open PySem PySem.Spec PyProof.Rows L2
end CmbK


/-! itertools.combinations: its turns -/
namespace CmbK
open PySem PySem.Spec PyProof.Rows L2
theorem cells_st (T : Addr) (st st' : Int) (bf : Value) (ks : List Nat) : (cells T st bf ks).setIfInBounds 1 (.int st' 0) = cells T st' bf ks := by
  unfold cells
  simp
theorem cells_bf (T : Addr) (st : Int) (bf bf' : Value) (ks : List Nat) : (cells T st bf ks).setIfInBounds 2 bf' = cells T st bf' ks := by
  unfold cells
  simp
theorem cells_set (T : Addr) (st : Int) (bf : Value) (ks ls : List Nat) : (cells T st bf ks).extract 0 3 ++ (ls.map fun (n : Nat) => rawInt n).toArray = cells T st bf ls := by
  unfold cells
  simp [rawInt]
/-- the items at these places -/
def picks (xs : Array Value) (ks : List Nat) : List Value := ks.map fun i => xs.getD i .none
section
variable {prog : Program} {w : World} {A : Around} {E : Value → Shared → Prop} {s : Shared} {it T : Addr} {bf : Value} {ks : List Nat} {xs : Array Value}
theorem nums_from {st : Int} {Q : List Nat → Shared → Prop} (hz : IsCmb s.heap it T st bf ks) (h : Q ks s) : wpAny (model prog w) A (Builtin.Itertools.itNumbersFrom (.ref it) 3) Q E s := by
  have key : ∀ l, l = ks → Q l s := fun l e => e ▸ h
  unfold Builtin.Itertools.itNumbersFrom
  refine wpAny_bind (wpAny_load hz (wpAny_pure (key _ ?_)))
  show List.map _ (ks.map fun (i : Nat) => Value.int i 0) = ks
  rw [List.map_map]
  conv => rhs; rw [← List.map_id ks]
  apply List.map_congr_left
  intro i _
  simp
/-- the items at the places, handed out -/
theorem hand_out {st : Int} {ls : List Nat} {Q : Value → Shared → Prop} (hz : IsCmb s.heap it T st bf ks) (hT : s.heap.IsTuple T xs) (hl : ls.length ≤ 1000)
    (hQ : ∀ h', IsCmb h' it T st (.ref s.heap.objs.size) ks → h'.get? s.heap.objs.size = some { cls := .type "tuple", data := .seq (picks xs ls).toArray } → h'.objs.size = s.heap.objs.size + 1 →
      (∀ c o, c ≠ it → s.heap.get? c = some o → h'.get? c = some o) → Q (.ref s.heap.objs.size) { s with heap := h' }) :
    wpAny (model prog w) A (newTuple (ls.map fun i => xs.getD i .none)) (fun result s1 => wpAny (model prog w) A (field (.ref it) 2 >>= fun before => setField (.ref it) 2 result >>= fun _ => letGo [before] [result] >>= fun _ => ret result) (fun fin s' => ∃ v, fin = .done (.ret v) ∧ Q v s') E s1) E s := by
  refine wpAny_newTuple ?_ (by rw [List.length_map, sizeLine_eq]; omega)
  have lt : it < s.heap.objs.size := Heap.lt_size hz
  have hz1 : IsCmb (s.heap.push { cls := .type "tuple", data := .seq (picks xs ls).toArray }) it T st bf ks := Heap.get?_push_of_some _ hz
  refine wpAny_bind (wpAny_field hz1 rfl (x := bf) rfl ?_)
  refine wpAny_bind (wpAny_setField_rec hz1 (by simp [cells]) fun h2 hz2 hs2 => ?_)
  rw [cells_bf] at hz2
  refine wpAny_bind (wpAny_letGo (wpAny_pure ⟨_, rfl, ?_⟩))
  replace hs2 : Heap.SameBut it (s.heap.push { cls := .type "tuple", data := .seq (picks xs ls).toArray }) h2 := hs2
  refine hQ h2 hz2 (hs2.extBut _ _ (Nat.ne_of_gt lt) (Heap.get?_push_size _ rfl)) (by rw [hs2.1, Heap.size_push]) fun c o ce q => hs2.extBut _ _ ce (Heap.get?_push_of_some _ q)
theorem notT {st : Int} {h : Heap} (hz : IsCmb h it T st bf ks) (hT : h.IsTuple T xs) : T ≠ it := fun e => by
  obtain ⟨o, ho, hc, _⟩ := id hT
  rw [e, hz] at ho
  cases ho
  simp at hc
/-- the first item -/
theorem turn_first {Q : Value → Shared → Prop} (hl : ks.length ≤ 1000) (hz : IsCmb s.heap it T 0 bf ks) (hT : s.heap.IsTuple T xs)
    (hQ : ∀ h', IsCmb h' it T 1 (.ref s.heap.objs.size) ks → h'.get? s.heap.objs.size = some { cls := .type "tuple", data := .seq (picks xs ks).toArray } → h'.objs.size = s.heap.objs.size + 1 →
      (∀ c o, c ≠ it → s.heap.get? c = some o → h'.get? c = some o) → Q (.ref s.heap.objs.size) { s with heap := h' }) :
    wpAny (model prog w) A (Builtin.«itertools.combinations.__next__» ⟨[.ref it], []⟩) (fun fin s' => ∃ v, fin = .done (.ret v) ∧ Q v s') E s := by
  show wpAny _ _ (field (.ref it) 0 >>= _) _ _ s
  refine wpAny_bind (wpAny_field hz rfl (x := .ref T) rfl ?_)
  show wpAny _ _ (Builtin.Itertools.itNumbersFrom (.ref it) 3 >>= _) _ _ s
  refine wpAny_bind (nums_from hz ?_)
  show wpAny _ _ (Builtin.Itertools.itIntField (.ref it) 1 >>= _) _ _ s
  refine wpAny_bind (wpAny_bind (wpAny_field hz rfl (x := .int 0 0) rfl (wpAny_pure ?_)))
  show wpAny _ _ (setField (.ref it) 1 (rawInt 1) >>= _) _ _ s
  refine wpAny_bind (wpAny_setField_rec hz (by simp [cells]) fun h1 hz1 hs1 => ?_)
  rw [show rawInt 1 = Value.int 1 0 from rfl, cells_st] at hz1
  replace hs1 : Heap.SameBut it s.heap h1 := hs1
  have hT1 : h1.IsTuple T xs := let ⟨o, ho, r⟩ := hT; ⟨o, hs1.extBut _ _ (notT hz hT) ho, r⟩
  obtain ⟨o, ho, _, n, hd⟩ := id hT1
  show wpAny _ _ ((Builtin.Itertools.itPoolItems (.ref T) >>= fun items => newTuple (ks.map fun i => items.getD i .none)) >>= _) _ _ _
  refine wpAny_bind (wpAny_bind (wpAny_bind (wpAny_seqItems ho hd (wpAny_pure ?_))))
  exact hand_out (s := { s with heap := h1 }) hz1 hT1 hl fun h2 z2 t2 n2 k2 => by
    have n1 : h1.objs.size = s.heap.objs.size := hs1.1
    replace z2 : IsCmb h2 it T 1 (.ref h1.objs.size) ks := z2
    replace t2 : h2.get? h1.objs.size = some { cls := .type "tuple", data := .seq (picks xs ks).toArray } := t2
    replace n2 : h2.objs.size = h1.objs.size + 1 := n2
    show Q (.ref h1.objs.size) { s with heap := h2 }
    rw [n1] at z2 t2 n2 ⊢
    exact hQ h2 z2 t2 n2 fun c o ce q => k2 c o ce (hs1.extBut _ _ ce q)
/-- an item behind the first one -/
theorem turn_next {Q : Value → Shared → Prop} {ls : List Nat} (hl : ls.length ≤ 1000) (hz : IsCmb s.heap it T 1 bf ks) (hT : s.heap.IsTuple T xs) (hn : nxt xs.size ks = some ls)
    (hQ : ∀ h', IsCmb h' it T 1 (.ref s.heap.objs.size) ls → h'.get? s.heap.objs.size = some { cls := .type "tuple", data := .seq (picks xs ls).toArray } → h'.objs.size = s.heap.objs.size + 1 →
      (∀ c o, c ≠ it → s.heap.get? c = some o → h'.get? c = some o) → Q (.ref s.heap.objs.size) { s with heap := h' }) :
    wpAny (model prog w) A (Builtin.«itertools.combinations.__next__» ⟨[.ref it], []⟩) (fun fin s' => ∃ v, fin = .done (.ret v) ∧ Q v s') E s := by
  show wpAny _ _ (field (.ref it) 0 >>= _) _ _ s
  refine wpAny_bind (wpAny_field hz rfl (x := .ref T) rfl ?_)
  show wpAny _ _ (Builtin.Itertools.itNumbersFrom (.ref it) 3 >>= _) _ _ s
  refine wpAny_bind (nums_from hz ?_)
  show wpAny _ _ (Builtin.Itertools.itIntField (.ref it) 1 >>= _) _ _ s
  refine wpAny_bind (wpAny_bind (wpAny_field hz rfl (x := .int 1 0) rfl (wpAny_pure ?_)))
  obtain ⟨o, ho, _, n, hd⟩ := id hT
  show wpAny _ _ (Builtin.Itertools.itPoolItems (.ref T) >>= _) _ _ s
  refine wpAny_bind (wpAny_bind (wpAny_seqItems ho hd (wpAny_pure ?_)))
  show wpAny _ _ (match nxt xs.size ks with | some next => _ | none => _) _ _ s
  rw [hn]
  show wpAny _ _ (Builtin.Itertools.itSetNumbersFrom (.ref it) 3 ls >>= _) _ _ s
  refine wpAny_bind (wpAny_updateFields hz rfl ?_ (by rw [cells_set]; simp [cells, sizeLine_eq]; omega))
  have hz1 := Heap.get?_update_self (Obj.mapFields fun fs => fs.extract 0 3 ++ (ls.map fun (n : Nat) => rawInt n).toArray) hz rfl
  have e1 : (Obj.mapFields (fun fs => fs.extract 0 3 ++ (ls.map fun (n : Nat) => rawInt n).toArray) { cls := .type "itertools.combinations", data := .fields (cells T 1 bf ks) }) = { cls := .type "itertools.combinations", dict := none, data := .fields (cells T 1 bf ls), slots := #[] } := by
    rw [← cells_set T 1 bf ks ls]
    rfl
  rw [e1] at hz1
  have sb : Heap.SameBut it s.heap (s.heap.update it (Obj.mapFields fun fs => fs.extract 0 3 ++ (ls.map fun (n : Nat) => rawInt n).toArray)) := Heap.SameBut.update ..
  generalize s.heap.update it (Obj.mapFields fun fs => fs.extract 0 3 ++ (ls.map fun (n : Nat) => rawInt n).toArray) = h1 at hz1 sb
  have hT1 : h1.IsTuple T xs := let ⟨o, ho, r⟩ := hT; ⟨o, sb.extBut _ _ (notT hz hT) ho, r⟩
  obtain ⟨o', ho', _, n', hd'⟩ := id hT1
  show wpAny _ _ ((Builtin.Itertools.itPoolItems (.ref T) >>= fun items => newTuple (ls.map fun i => items.getD i .none)) >>= _) _ _ _
  refine wpAny_bind (wpAny_bind (wpAny_bind (wpAny_seqItems ho' hd' (wpAny_pure ?_))))
  exact hand_out (s := { s with heap := h1 }) hz1 hT1 hl fun h2 z2 t2 n2 k2 => by
    have n1 : h1.objs.size = s.heap.objs.size := sb.1
    replace z2 : IsCmb h2 it T 1 (.ref h1.objs.size) ls := z2
    replace t2 : h2.get? h1.objs.size = some { cls := .type "tuple", data := .seq (picks xs ls).toArray } := t2
    replace n2 : h2.objs.size = h1.objs.size + 1 := n2
    show Q (.ref h1.objs.size) { s with heap := h2 }
    rw [n1] at z2 t2 n2 ⊢
    exact hQ h2 z2 t2 n2 fun c o ce q => k2 c o ce (sb.extBut _ _ ce q)
/-- StopIteration -/
theorem stops {Q : Fin → Shared → Prop} (hh : A.handled = none) (hE : ∀ e h', (∀ c o, s.heap.get? c = some o → h'.get? c = some o) → (∃ o, h'.get? e = some o ∧ o.cls = .type "StopIteration") → E (.ref e) { s with heap := h' }) :
    wpAny (model prog w) A (Builtin.Itertools.itStop (α := Fin)) Q E s := by
  unfold Builtin.Itertools.itStop
  refine wpAny_bind ?_
  simp only [newExc, newTuple]
  refine wpAny_bind (wpAny_newObj_type ?_ (by size_fits))
  refine wpAny_bind (m := firstArgMember _ _) (wpAny_of_eq (a := Value.none) (by first | rfl | (simp only [firstArgMember]; rfl)) ?_)
  refine wpAny_newObj_type ?_ (by size_fits)
  simp only [raiseNew]
  refine wpAny_bind (wpAny_handled ?_)
  rw [hh]
  refine wpAny_bind (wpAny_pure (wpAny_throw ?_))
  exact hE _ _ (fun c o q => Heap.get?_push_of_some _ (Heap.get?_push_of_some _ q)) ⟨_, Heap.get?_push_size _ rfl, rfl⟩
/-- at its end: behind the last item, or there never was one -/
theorem turn_end {st : Int} {Q : Fin → Shared → Prop} (hh : A.handled = none) (hz : IsCmb s.heap it T st bf ks) (hT : s.heap.IsTuple T xs) (hn : (st = 1 ∧ nxt xs.size ks = none) ∨ st = 2)
    (hE : ∀ e h', (∀ c o, c ≠ it → s.heap.get? c = some o → h'.get? c = some o) → (∃ o, h'.get? e = some o ∧ o.cls = .type "StopIteration") → E (.ref e) { s with heap := h' }) :
    wpAny (model prog w) A (Builtin.«itertools.combinations.__next__» ⟨[.ref it], []⟩) Q E s := by
  show wpAny _ _ (field (.ref it) 0 >>= _) _ _ s
  refine wpAny_bind (wpAny_field hz rfl (x := .ref T) rfl ?_)
  show wpAny _ _ (Builtin.Itertools.itNumbersFrom (.ref it) 3 >>= _) _ _ s
  refine wpAny_bind (nums_from hz ?_)
  show wpAny _ _ (Builtin.Itertools.itIntField (.ref it) 1 >>= _) _ _ s
  refine wpAny_bind (wpAny_bind (wpAny_field hz rfl (x := .int st 0) rfl (wpAny_pure ?_)))
  rcases hn with ⟨rfl, hn⟩ | rfl
  · obtain ⟨o, ho, _, n, hd⟩ := id hT
    show wpAny _ _ (Builtin.Itertools.itPoolItems (.ref T) >>= _) _ _ s
    refine wpAny_bind (wpAny_bind (wpAny_seqItems ho hd (wpAny_pure ?_)))
    show wpAny _ _ (match nxt xs.size ks with | some next => _ | none => _) _ _ s
    rw [hn]
    show wpAny _ _ (setField (.ref it) 1 (rawInt 2) >>= _) _ _ s
    refine wpAny_bind (wpAny_setField_rec hz (by simp [cells]) fun h1 _ hs1 => ?_)
    replace hs1 : Heap.SameBut it s.heap h1 := hs1
    exact stops (s := { s with heap := h1 }) hh fun e h' k x => hE e h' (fun c o ce q => k c o (hs1.extBut _ _ ce q)) x
  · show wpAny _ _ (rule "itertools.combinations.ended" >>= _) _ _ s
    refine wpAny_bind (wpAny_rule ?_)
    exact stops hh fun e h' k x => hE e h' (fun c o _ q => k c o q) x
/-- next(c) -/
theorem py_next {st : Int} {Q : Option Value → Shared → Prop} (hz : IsCmb s.heap it T st bf ks)
    (h : ∀ E' : Value → Shared → Prop, wpAny (model prog w) A.in1 (Builtin.«itertools.combinations.__next__» ⟨[.ref it], []⟩) (fun fin s' => ∃ v, fin = .done (.ret v) ∧ Q (some v) s') E' s) : wpAny (model prog w) A (pyNext (.ref it)) Q E s := by
  have hC : s.TypeIs (.ref it) "itertools.combinations" := ⟨_, hz, rfl⟩
  unfold pyNext
  refine wpAny_bind (wpAny_attempt (wpAny_callSpecial?_slot (name := Str.ofString "__next__") hC next_c (wpAny_call_entry next_c hC entryX_c ?_ (argsX_c _))))
  refine wpAny_mono (h _) (fun fin s' ⟨v, e, q⟩ => ?_) fun _ _ y => y
  subst e
  exact ⟨v, rfl, wpAny_pure q⟩
theorem py_end {st : Int} {Q : Option Value → Shared → Prop} (hh : A.handled = none) (hz : IsCmb s.heap it T st bf ks) (hT : s.heap.IsTuple T xs) (hn : (st = 1 ∧ nxt xs.size ks = none) ∨ st = 2)
    (hQ : ∀ h', (∀ c o, c ≠ it → s.heap.get? c = some o → h'.get? c = some o) → Q none { s with heap := h' }) : wpAny (model prog w) A (pyNext (.ref it)) Q E s := by
  have hC : s.TypeIs (.ref it) "itertools.combinations" := ⟨_, hz, rfl⟩
  unfold pyNext
  refine wpAny_bind (wpAny_attempt (wpAny_callSpecial?_slot (name := Str.ofString "__next__") hC next_c (wpAny_call_entry next_c hC entryX_c ?_ (argsX_c _))))
  refine turn_end (A := A.in1) hh hz hT hn fun e h' k ⟨o, ho, hc⟩ => ?_
  refine wpAny_bind (wpAny_isInstance (T := "StopIteration") (b := true) ⟨o, ho, hc⟩ isSubtype_stop ?_)
  exact wpAny_pure (hQ _ k)
theorem py_iter {st : Int} {Q : Value → Shared → Prop} (hz : IsCmb s.heap it T st bf ks) (h : Q (.ref it) s) : wpAny (model prog w) A (pyIter (.ref it)) Q E s := by
  have hC : s.TypeIs (.ref it) "itertools.combinations" := ⟨_, hz, rfl⟩
  refine wpAny_pyIter_slot hC iter_c (wpAny_call_entry iter_c hC entryI_c ?_ (argsI_c _))
  show wpAny _ _ (ret (.ref it)) _ _ s
  exact wpAny_pure ⟨_, rfl, "itertools.combinations", _, hC, next_c.lookup, h⟩
end
end CmbK


/-! for t in itertools.combinations(range(n), k) -/
namespace Lm
open PySem PySem.Spec PyProof.Rows L2 CmbK
theorem vals_picks {xs : Array Value} {n : Nat} (hx : ItemsOf (fun i v => ∃ t, v = .int (0 + i * 1) t) xs n) : ∀ {ks : List Nat}, (∀ i ∈ ks, i < n) → Vals (ks.map fun (i : Nat) => V.int i) (picks xs ks)
  | [], _ => .nil
  | k :: ks, h => by
    refine .cons ?_ (vals_picks hx fun i hi => h i (List.mem_cons_of_mem _ hi))
    have hk : k < xs.size := by rw [hx.1]; exact h k (by simp)
    obtain ⟨t, e⟩ := hx.2 k xs[k] (Array.getElem?_eq_getElem hk)
    refine ⟨t, ?_⟩
    show xs.getD k .none = _
    rw [Array.getD_eq_getD_getElem?, Array.getElem?_eq_getElem hk, Option.getD_some, e, Int.zero_add, Int.mul_one]
section
variable {c : Ct} {Γ : List (Option Rs)} {te : TE} {kd : Kd}
def plcD (ks : List Nat) : PyData := .tuple ((ks.map fun (i : Nat) => (i : Int)).map .int)
end
end Lm


/-! the places that combinations hands out -/
namespace Lm
open PySem PySem.Spec PyProof.Rows L2 CmbK
def cmbL : List Nat → Nat → List (List Nat)
  | _, 0 => [[]]
  | [], _ + 1 => []
  | a :: l, k + 1 => (cmbL l k).map (a :: ·) ++ cmbL l (k + 1)
def cmbs (n k : Nat) : List (List Nat) := cmbL (List.range n) k
/-- the pairs, the first place first -/
def pairL (n : Nat) : List (List Nat) := (List.range n).flatMap fun i => (List.range (n - (i + 1))).map fun d => [i, i + 1 + d]
end Lm


/-! families of shares: the promises -/
namespace Lm
open PySem PySem.Spec PyProof.Rows L2
/-- a share of each variant but the control -/
structure Shr (r : List Int) (v : Int) : Prop where
  len : (r.length : Int) = v - 1
  nn : ∀ x ∈ r, 0 ≤ x
  sum : r.sum ≤ 10
/-- lists of different buckets below b, one for each of v variants -/
structure Lsts (L : List (List Int)) (v b : Int) : Prop where
  len : (L.length : Int) = v
  v4 : v ≤ 1000
  rng : ∀ r ∈ L, ∀ x ∈ r, 0 ≤ x ∧ x < b
  nd : ∀ r ∈ L, r.Nodup
  small : ∀ r ∈ L, r.length ≤ 1000
theorem Shr.le {r : List Int} {v : Int} (h : Shr r v) : ∀ x ∈ r, x ≤ 10 := fun x hx => by
  have := le_sum h.nn x hx
  have := h.sum
  omega
end Lm


/-! which lists serve which shares -/
namespace Lm
open PySem PySem.Spec PyProof.Rows L2
variable {L F : List (List Int)} {r s : List Int} {v b : Int}
/-- what of a list is used -/
def hdL (L : List (List Int)) (r : List Int) (i : Nat) : List Int := (L.getD i []).take (r.getD i 0).toNat
/-- long enough, and none twice -/
def OkF (L : List (List Int)) (r : List Int) : Prop := (∀ i < r.length, r.getD i 0 ≤ ((L.getD i []).length : Int)) ∧ ∀ i j, i < j → j < r.length → ∀ x ∈ hdL L r i, x ∉ hdL L r j
end Lm


/-! == of plain data, forms of data, a drawn test behind a plain one -/
namespace Lm
open PySem PySem.Spec PyProof.Rows L2
mutual
/-- no truth values, no dicts: == is being equal -/
def plD : PyData → Bool
  | .none => true
  | .int _ => true
  | .str _ => true
  | .list ds => plAll ds
  | .tuple ds => plAll ds
  | _ => false
def plAll : List PyData → Bool
  | [] => true
  | d :: ds => plD d && plAll ds
end
mutual
theorem eqv_pl : ∀ {x y : PyData}, plD x = true → plD y = true → (PyData.eqv x y = true ↔ x = y)
  | .none, .none, _, _ => by simp [PyData.eqv]
  | .int i, .int j, _, _ => by simp [PyData.eqv]
  | .str i, .str j, _, _ => by simp [PyData.eqv]
  | .list xs, .list ys, h, g => by
    have := eqv_plA (xs := xs) (ys := ys) h g
    simp only [PyData.eqv, this, PyData.list.injEq]
  | .tuple xs, .tuple ys, h, g => by
    have := eqv_plA (xs := xs) (ys := ys) h g
    simp only [PyData.eqv, this, PyData.tuple.injEq]
  | .none, .int _, _, _ | .none, .str _, _, _ | .none, .list _, _, _ | .none, .tuple _, _, _ => by simp [PyData.eqv]
  | .int _, .none, _, _ | .int _, .str _, _, _ | .int _, .list _, _, _ | .int _, .tuple _, _, _ => by simp [PyData.eqv]
  | .str _, .none, _, _ | .str _, .int _, _, _ | .str _, .list _, _, _ | .str _, .tuple _, _, _ => by simp [PyData.eqv]
  | .list _, .none, _, _ | .list _, .int _, _, _ | .list _, .str _, _, _ | .list _, .tuple _, _, _ => by simp [PyData.eqv]
  | .tuple _, .none, _, _ | .tuple _, .int _, _, _ | .tuple _, .str _, _, _ | .tuple _, .list _, _, _ => by simp [PyData.eqv]
  | .bool _, _, h, _ | .dict _, _, h, _ => by simp [plD] at h
  | .none, .bool _, _, g | .none, .dict _, _, g | .int _, .bool _, _, g | .int _, .dict _, _, g | .str _, .bool _, _, g | .str _, .dict _, _, g | .list _, .bool _, _, g | .list _, .dict _, _, g | .tuple _, .bool _, _, g | .tuple _, .dict _, _, g => by simp [plD] at g
theorem eqv_plA : ∀ {xs ys : List PyData}, plAll xs = true → plAll ys = true → (PyData.eqvAll xs ys = true ↔ xs = ys)
  | [], [], _, _ => by simp [PyData.eqvAll]
  | [], _ :: _, _, _ => by simp [PyData.eqvAll]
  | _ :: _, [], _, _ => by simp [PyData.eqvAll]
  | x :: xs, y :: ys, h, g => by
    have h' : (plD x && plAll xs) = true := h
    have g' : (plD y && plAll ys) = true := g
    rw [Bool.and_eq_true] at h' g'
    have e1 := eqv_pl (x := x) (y := y) h'.1 g'.1
    have e2 := eqv_plA (xs := xs) (ys := ys) h'.2 g'.2
    simp only [PyData.eqvAll, Bool.and_eq_true, e1, e2, List.cons.injEq]
end
theorem eqv_rf {x : PyData} (h : plD x = true) : PyData.eqv x x = true := (eqv_pl h h).mpr rfl
/-- data of a depth of at most n, all of it to be compared -/
def Sh (n : Nat) (d : PyData) : Prop := d.canLay0 = true ∧ d.depth ≤ n
theorem Sh.ok {n : Nat} {d : PyData} (h : Sh n d) (hn : n ≤ 64) : SeqAt.shaped d = true := by
  unfold SeqAt.shaped
  rw [h.1, decide_eq_true (by have := h.2; omega)]
  rfl
theorem Sh.up {n m : Nat} {d : PyData} (h : Sh n d) (hn : n ≤ m) : Sh m d := ⟨h.1, Nat.le_trans h.2 hn⟩
section
variable {c : Ct} {Γ : List (Option Rs)} {ta tb : TE} {tt tu : TT} {ka kb : Kd} {d e : PyData} {a : Bool}
end
end Lm


/-! in and not in over tuples or lists of data -/
namespace Lm
open PySem PySem.Spec PyProof.Rows L2
section
variable {X : Cx}
variable {K : PySem.W.Frag} (hK : X.K = K)
include hK
end
section
variable {c : Ct} {Γ : List (Option Rs)} {ta tb : TE} {ka kb : Kd} {d : PyData} {ds : List PyData} {r : List Int} {P : List (List Int)} {neg : Bool}
end
section
variable {c : Ct} {Γ : List (Option Rs)} {tr : TA} {kv : Bool} {n m lo : Nat} {a : Im}
end
/-! ### plans -/
/-! bad triples -/
def castL (ks : List Nat) : List Int := ks.map fun (i : Nat) => (i : Int)
end Lm


/-! rules: the mathematics -/
namespace Lm
open PySem PySem.Spec PyProof.Rows L2
abbrev Pr := List Int × List Int
/-- an allocation and an assignment of it -/
structure OkP (p : Pr) (v b : Int) : Prop where
  alc : Alc p.1 v b
  len : (p.2.length : Int) = b
  rng : ∀ x ∈ p.2, 0 ≤ x ∧ x < v
  cnt : countsI p.2 v = p.1
theorem OkP.asg {p : Pr} {v b : Int} (h : OkP p v b) (hb : b ≤ 20) : Asg p.2 v := ⟨by have := h.len; omega, h.rng⟩
/-- a bucket leaves needlessly -/
def leftB (p q : Pr) (i : Nat) : Bool := !decide (p.2.getD i 0 = 0) && (!decide (q.2.getD i 0 = p.2.getD i 0) && decide (p.1.getD (p.2.getD i 0).toNat 0 ≤ q.1.getD (p.2.getD i 0).toNat 0))
/-! the first of three places -/
/-! lists give the variants their buckets -/
theorem getD_setI {r : List Int} {i j : Nat} {x : Int} (hi : i < r.length) : (r.set i x).getD j 0 = if i = j then x else r.getD j 0 := by
  simp only [List.getD_eq_getElem?_getD, List.getElem?_set]
  split
  · rename_i h
    subst h
    simp [hi]
  · rfl
theorem gL_mem {Ls : List (List Int)} {i : Nat} (h : i < Ls.length) : Ls.getD i [] ∈ Ls := by
  rw [List.getD_eq_getElem?_getD, List.getElem?_eq_getElem h]
  exact List.getElem_mem h
end Lm


/-! drawn assignments of an allocation; drawn tests -/
namespace Lm
open PySem PySem.Spec PyProof.Rows L2
structure Drw (as : List Int) (lf acc : List Int) (n : Nat) : Prop where
  len : lf.length = as.length
  al : acc.length = n
  nn : ∀ x ∈ lf, 0 ≤ x
  rng : ∀ x ∈ acc, 0 ≤ x ∧ x < (as.length : Int)
  cnt : ∀ i < as.length, (acc.count (i : Int) : Int) + lf.getD i 0 = as.getD i 0
  sum : lf.sum + (n : Int) = as.sum
theorem sum_setX : ∀ {l : List Int} {i : Nat} {x : Int}, i < l.length → (l.set i x).sum = l.sum - l.getD i 0 + x
  | [], _, _, h => by simp at h
  | a :: l, 0, x, _ => by simp only [List.set_cons_zero, List.sum_cons, List.getD_cons_zero]; omega
  | a :: l, i + 1, x, h => by
    have := sum_setX (l := l) (i := i) (x := x) (by simpa using h)
    simp only [List.set_cons_succ, List.sum_cons, List.getD_cons_succ]
    omega
theorem Drw.step {as lf acc : List Int} {n i : Nat} (h : Drw as lf acc n) (hi : i < as.length) (hp : 0 < lf.getD i 0) : Drw as (lf.set i (lf.getD i 0 - 1)) (acc ++ [(i : Int)]) (n + 1) := by
  have hl := h.len
  refine ⟨by simpa using hl, by simp [h.al], fun x hx => ?_, fun x hx => ?_, fun j hj => ?_, ?_⟩
  · rcases List.mem_or_eq_of_mem_set hx with w | w
    · exact h.nn x w
    · omega
  · rcases List.mem_append.mp hx with w | w
    · exact h.rng x w
    · rw [List.mem_singleton.mp w]; omega
  · have hc := h.cnt j hj
    rw [getD_setI (by omega), List.count_append]
    by_cases e : i = j
    · subst e
      have c1 : List.count (i : Int) [(i : Int)] = 1 := by simp
      rw [if_pos rfl, c1]
      omega
    · have c1 : List.count (j : Int) [(i : Int)] = 0 := List.count_eq_zero_of_not_mem (by simp; omega)
      rw [if_neg e, c1]
      omega
  · rw [sum_setX (by omega)]
    have := h.sum
    omega
theorem Drw.pos {as lf acc : List Int} {n : Nat} (h : Drw as lf acc n) (hn : (n : Int) < as.sum) : 0 < ((List.range as.length).filter fun i => decide (0 < lf.getD i 0)).length := by
  cases q : (List.range as.length).filter fun i => decide (0 < lf.getD i 0) with
  | cons => simp
  | nil =>
    exfalso
    have z : ∀ x ∈ lf, x = 0 := fun x hx => by
      obtain ⟨i, hi⟩ := List.getElem?_of_mem hx
      have il : i < lf.length := (List.getElem?_eq_some_iff.mp hi).1
      have e : lf.getD i 0 = x := by rw [List.getD_eq_getElem?_getD, hi]; rfl
      have m := List.filter_eq_nil_iff.mp q i (List.mem_range.mpr (by have := h.len; omega))
      have := h.nn x hx
      rw [e] at m
      simp at m
      omega
    have s : lf.sum = 0 := by
      clear q
      have : ∀ l : List Int, (∀ x ∈ l, x = 0) → l.sum = 0 := by
        intro l
        induction l with
        | nil => intro _; rfl
        | cons a l ih => intro w; rw [List.sum_cons, w a (by simp), ih fun x hx => w x (by simp [hx])]; rfl
      exact this lf z
    have := h.sum
    omega
section
variable {c : Ct} {Γ : List (Option Rs)} {te ta tb : TE} {tt tu : TT} {k ka kb : Kd} {a : Bool} {P : Out → Prop} {n : Nat}
end
end Lm


/-! the waste of rules -/
namespace Lm
open PySem PySem.Spec PyProof.Rows L2
theorem zip_at {f g : List Int} {p : Int × Int} (h : p ∈ f.zip g) : ∃ k : Nat, k < f.length ∧ f.getD k 0 = p.1 ∧ g.getD k 0 = p.2 := by
  obtain ⟨k, hk⟩ := List.getElem?_of_mem h
  rw [List.getElem?_zip_eq_some] at hk
  refine ⟨k, (List.getElem?_eq_some_iff.mp hk.1).1, ?_, ?_⟩
  · rw [List.getD_eq_getElem?_getD, hk.1]; rfl
  · rw [List.getD_eq_getElem?_getD, hk.2]; rfl
section
variable {p q : Pr} {v b : Int}
theorem outs (h : OkP p v b) (g : OkP q v b) (hs : ∀ k : Nat, (k : Int) < b → leftB p q k = false ∧ leftB q p k = false) {i : Nat} (hi : 1 ≤ i) (hv : (i : Int) < v) : outI i (p.2.zip q.2) = 0 ∨ innI i (p.2.zip q.2) = 0 := by
  have pl := h.len
  have ql := g.len
  have cp : p.1.getD i 0 = (p.2.count (i : Int) : Int) := by rw [← h.cnt]; exact countsI_get hv
  have cq : q.1.getD i 0 = (q.2.count (i : Int) : Int) := by rw [← g.cnt]; exact countsI_get hv
  have o0 := out_nn i (p.2.zip q.2)
  have n0 := inn_nn i (p.2.zip q.2)
  refine Decidable.byContradiction fun hc => ?_
  obtain ⟨x, hx, e1, e2⟩ := out_ex (i := (i : Int)) (z := p.2.zip q.2) (by omega)
  obtain ⟨y, hy, e3, e4⟩ := inn_ex (i := (i : Int)) (z := p.2.zip q.2) (by omega)
  obtain ⟨k, hk, k1, k2⟩ := zip_at hx
  obtain ⟨j, hj, j1, j2⟩ := zip_at hy
  have a := (hs k (by omega)).1
  have c := (hs j (by omega)).2
  unfold leftB at a c
  rw [k1, k2, e1, Int.toNat_natCast, decide_eq_false (show ¬ (i : Int) = 0 by omega), decide_eq_false e2] at a
  rw [j1, j2, e3, Int.toNat_natCast, decide_eq_false (show ¬ (i : Int) = 0 by omega), decide_eq_false e4] at c
  have a' := of_decide_eq_false (show decide (p.1.getD i 0 ≤ q.1.getD i 0) = false by simpa using a)
  have c' := of_decide_eq_false (show decide (q.1.getD i 0 ≤ p.1.getD i 0) = false by simpa using c)
  omega
end
/-! the pair of the greatest waste -/
end Lm


/-! two places exchanged; drawn changes; which pairs a table keeps -/
namespace Lm
open PySem PySem.Spec PyProof.Rows L2
section
variable {c : Ct} {H H0 : Hp} {O : List Addr} {σ : L2.St} {Γ : List (Option Rs)} {te ta tb tx ty : TE} {k ka kb kc : Kd} {P : Out → Prop} {n m : Nat} {i j x y : Int} {ns : List Int} {u : TS}
end
/-- drawn steps from one assignment to one of another allocation -/
structure Chg (A B g : List Int) (v : Int) (n : Nat) (t : Int) : Prop where
  rng : ∀ x ∈ g, 0 ≤ x ∧ x < v
  len : (g.length : Int) = B.sum
  up : ∀ x : Nat, (x : Int) < v → A.getD x 0 ≤ B.getD x 0 → (g.count (x : Int) : Int) ≤ B.getD x 0
  dn : ∀ x : Nat, (x : Int) < v → B.getD x 0 < A.getD x 0 → (g.count (x : Int) : Int) = if x < n then B.getD x 0 else if x = n then A.getD x 0 - t else A.getD x 0
section
variable {A B g : List Int} {v b : Int} {n : Nat} {t : Int}
theorem Chg.next (h : Chg A B g v n t) (ht : B.getD n 0 < A.getD n 0 → t = A.getD n 0 - B.getD n 0) : Chg A B g v (n + 1) 0 := by
  refine ⟨h.rng, h.len, h.up, fun x hx hd => ?_⟩
  rw [h.dn x hx hd]
  by_cases e : x = n
  · subst e
    rw [if_neg (by omega), if_pos rfl, if_pos (by omega), ht hd]
    omega
  · by_cases q : x < n
    · rw [if_pos q, if_pos (by omega)]
    · rw [if_neg q, if_neg e, if_neg (by omega)]
      split <;> omega
theorem Chg.step (h : Chg A B g v n t) (ht : 0 ≤ t ∧ t < A.getD n 0 - B.getD n 0) (hn : (n : Int) < v) {p x : Nat} (hp : p < g.length) (hg : g.getD p 0 = (n : Int)) (hx : (x : Int) < v) (hw : (g.count (x : Int) : Int) < B.getD x 0) : Chg A B (g.set p (x : Int)) v n (t + 1) := by
  have cn := h.dn n hn (by omega)
  rw [if_neg (by omega), if_pos rfl] at cn
  have nx : x ≠ n := fun e => by subst e; omega
  have e1 : g[p] = (n : Int) := by rw [← hg]; simp [List.getD_eq_getElem?_getD, hp]
  have pos : 1 ≤ g.count (n : Int) := List.count_pos_iff.mpr (e1 ▸ List.getElem_mem hp)
  have cnt : ∀ y : Nat, ((g.set p (x : Int)).count (y : Int) : Int) = (g.count (y : Int) : Int) - (if y = n then 1 else 0) + (if y = x then 1 else 0) := fun y => by
    rw [List.count_set hp, e1]
    by_cases h1 : y = n
    · subst h1
      have : ¬ (x : Int) = (y : Int) := by omega
      simp [this, show ¬ y = x by omega]
      omega
    · by_cases h2 : y = x
      · subst h2
        have : ¬ (n : Int) = (y : Int) := by omega
        simp [this, h1]
      · have a1 : ¬ (n : Int) = (y : Int) := by omega
        have a2 : ¬ (x : Int) = (y : Int) := by omega
        simp [a1, a2, h1, h2]
  refine ⟨fun z hz => ?_, by simpa using h.len, fun y hy hd => ?_, fun y hy hd => ?_⟩
  · rcases List.mem_or_eq_of_mem_set hz with w | w
    · exact h.rng z w
    · omega
  · have := h.up y hy hd
    rw [cnt y]
    by_cases h1 : y = n
    · subst h1; omega
    · by_cases h2 : y = x
      · subst h2; rw [if_neg h1, if_pos rfl]; omega
      · rw [if_neg h1, if_neg h2]; omega
  · have hc := h.dn y hy hd
    have y2 : y ≠ x := fun e => by
      subst e
      rw [hc] at hw
      by_cases q : y < n
      · rw [if_pos q] at hw; omega
      · rw [if_neg q, if_neg nx] at hw; omega
    rw [cnt y, hc, if_neg y2]
    by_cases h1 : y = n
    · subst h1
      rw [if_neg (by omega), if_pos rfl, if_pos rfl, if_neg (by omega), if_pos rfl]
      omega
    · rw [if_neg h1]
      simp only [if_neg h1]
      omega
end
/-! which pairs a table keeps -/
/-- a table of a plan -/
structure Tbl (T A : List (List Int)) (v b : Int) : Prop where
  ser : Ser A v b
  len : T.length = A.length
  ok : ∀ i < A.length, OkP (A.getD i [], T.getD i []) v b
end Lm


/-! which buckets fit: the mathematics -/
namespace Lm
open PySem PySem.Spec PyProof.Rows L2
abbrev Pk := Nat → Bool
/-- all its own are among the chosen -/
def insP (p : Pk) (own : List Int) : Bool := own.all fun y => p y.toNat
def rmP (as : List Int) (p : Pk) : Int := ((List.range as.length).map fun x => if p x then as.getD x 0 else 0).sum
def cfP (C : List (List Int)) (p : Pk) : Int := ((C.filter (insP p)).length : Nat)
def Hall (as : List Int) (C : List (List Int)) : Prop := ∀ p : Pk, cfP C p ≤ rmP as p
def dcI (x : Int) (as : List Int) : List Int := as.set x.toNat (as.getD x.toNat 0 - 1)
theorem dcI_len {x : Int} {as : List Int} : (dcI x as).length = as.length := by simp [dcI]
def b1 (b : Bool) : Int := if b then 1 else 0
theorem cf_cons {own : List Int} {C : List (List Int)} {p : Pk} : cfP (own :: C) p = cfP C p + b1 (insP p own) := by
  unfold cfP b1
  rw [List.filter_cons]
  split <;> simp
theorem cf_nn {C : List (List Int)} {p : Pk} : 0 ≤ cfP C p := by unfold cfP; omega
theorem sum_upd {g h : Nat → Int} : ∀ {n x : Nat}, x < n → (∀ i < n, i ≠ x → h i = g i) → ((List.range n).map h).sum = ((List.range n).map g).sum - g x + h x
  | n + 1, x, hx, e => by
    rw [List.range_succ, List.map_append, List.map_append, List.sum_append, List.sum_append]
    simp only [List.map_cons, List.map_nil, List.sum_cons, List.sum_nil]
    by_cases q : x = n
    · subst q
      have : (List.range x).map h = (List.range x).map g := List.map_congr_left fun i hi => e i (by have := List.mem_range.mp hi; omega) (by have := List.mem_range.mp hi; omega)
      rw [this]
      omega
    · have := sum_upd (n := n) (x := x) (g := g) (h := h) (by omega) fun i hi hn => e i (by omega) hn
      rw [this, e n (by omega) (fun z => q z.symm)]
      omega
theorem rm_dec {x : Int} {as : List Int} (hx : 0 ≤ x ∧ x < as.length) (p : Pk) : rmP (dcI x as) p = rmP as p - b1 (p x.toNat) := by
  unfold rmP
  rw [dcI_len]
  have xl : x.toNat < as.length := by omega
  have s : ∀ i, (dcI x as).getD i 0 = if x.toNat = i then as.getD x.toNat 0 - 1 else as.getD i 0 := fun i => getD_setI xl
  rw [sum_upd (g := fun i => if p i then as.getD i 0 else 0) xl fun i hi hn => by
    have e : (dcI x as).getD i 0 = as.getD i 0 := by rw [s, if_neg (fun z => hn z.symm)]
    rw [e]]
  rw [s, if_pos rfl]
  unfold b1
  split <;> omega
theorem rm_or (as : List Int) (p q : Pk) : rmP as (fun x => p x || q x) + rmP as (fun x => p x && q x) = rmP as p + rmP as q := by
  have e : ∀ (a c : Bool) (n : Int), (if (a || c) = true then n else 0) + (if (a && c) = true then n else 0) = (if a = true then n else 0) + (if c = true then n else 0) := fun a c n => by cases a <;> cases c <;> simp
  unfold rmP
  generalize List.range as.length = l
  induction l with
  | nil => rfl
  | cons x l ih =>
    have h1 := e (p x) (q x) (as.getD x 0)
    simp only [List.map_cons, List.sum_cons]
    simp only at ih
    omega
theorem ins_or {p q : Pk} {own : List Int} : insP p own = true → insP (fun x => p x || q x) own = true := fun h => by
  unfold insP at *
  rw [List.all_eq_true] at *
  intro y hy
  show (p y.toNat || q y.toNat) = true
  rw [h y hy]; rfl
theorem ins_or' {p q : Pk} {own : List Int} : insP q own = true → insP (fun x => p x || q x) own = true := fun h => by
  unfold insP at *
  rw [List.all_eq_true] at *
  intro y hy
  show (p y.toNat || q y.toNat) = true
  rw [h y hy, Bool.or_true]
theorem ins_and {p q : Pk} {own : List Int} : insP (fun x => p x && q x) own = (insP p own && insP q own) := by
  unfold insP
  induction own with
  | nil => rfl
  | cons y l ih =>
    simp only [List.all_cons, ih]
    cases p y.toNat <;> cases q y.toNat <;> simp
theorem cf_or (C : List (List Int)) (p q : Pk) : cfP C p + cfP C q ≤ cfP C (fun x => p x || q x) + cfP C (fun x => p x && q x) := by
  induction C with
  | nil => simp [cfP]
  | cons own C ih =>
    rw [cf_cons, cf_cons, cf_cons, cf_cons, ins_and]
    have h1 := ins_or (p := p) (q := q) (own := own)
    have h2 := ins_or' (p := p) (q := q) (own := own)
    unfold b1
    cases a : insP p own <;> cases c : insP q own <;> cases d : insP (fun x => p x || q x) own <;> simp_all <;> omega
/-- with such a bucket there is more in the two together -/
theorem cf_or1 {own : List Int} {C : List (List Int)} {p q : Pk} (h1 : insP p own = false) (h2 : insP q own = false) (h3 : insP (fun x => p x || q x) own = true) :
    cfP (own :: C) p + cfP (own :: C) q + 1 ≤ cfP (own :: C) (fun x => p x || q x) + cfP (own :: C) (fun x => p x && q x) := by
  have := cf_or C p q
  rw [cf_cons, cf_cons, cf_cons, cf_cons, ins_and, h1, h2, h3]
  simp only [b1, Bool.false_and, if_true, if_false, Bool.false_eq_true]
  omega
theorem hall_back {as own : List Int} {C : List (List Int)} {x : Int} (hx : x ∈ own) (x0 : 0 ≤ x ∧ x < as.length) (h : Hall (dcI x as) C) : Hall as (own :: C) := fun p => by
  have := h p
  rw [rm_dec x0] at this
  rw [cf_cons]
  unfold b1 at *
  cases q : insP p own with
  | false => split at this <;> simp only [if_false, Bool.false_eq_true] <;> omega
  | true =>
    unfold insP at q
    rw [List.all_eq_true.mp q x hx] at this
    simp only [if_true] at *
    omega
theorem hall_step {as own : List Int} {C : List (List Int)} (hr : ∀ y ∈ own, 0 ≤ y ∧ y < as.length) (h : Hall as (own :: C)) : ∃ x ∈ own, Hall (dcI x as) C := by
  refine Classical.byContradiction fun hc => ?_
  have bad : ∀ x ∈ own, ∃ p : Pk, p x.toNat = true ∧ insP p own = false ∧ cfP (own :: C) p = rmP as p := fun x hx => by
    refine Classical.byContradiction fun hn => hc ⟨x, hx, fun p => ?_⟩
    have hp := h p
    rw [rm_dec (hr x hx)]
    have hp' := hp
    rw [cf_cons] at hp
    unfold b1 at *
    cases q : insP p own with
    | true =>
      rw [q] at hp
      unfold insP at q
      rw [List.all_eq_true.mp q x hx]
      simp only [if_true] at *
      omega
    | false =>
      rw [q] at hp
      cases z : p x.toNat with
      | false => simp only [if_false, Bool.false_eq_true] at *; omega
      | true =>
        have ne : cfP (own :: C) p ≠ rmP as p := fun e => hn ⟨p, z, q, e⟩
        have e2 : cfP (own :: C) p = cfP C p := by rw [cf_cons, q]; simp [b1]
        simp only [if_true]
        omega
  have key : ∀ xs : List Int, (∀ x ∈ xs, x ∈ own) → ∃ U : Pk, insP U own = false ∧ (∀ x ∈ xs, U x.toNat = true) ∧ cfP (own :: C) U = rmP as U := by
    intro xs
    induction xs with
    | nil =>
      intro _
      have h0 := h fun _ => false
      have r0 : rmP as (fun _ => false) = 0 := by
        unfold rmP
        simp only [Bool.false_eq_true, if_false]
        exact sum_zeroN _
      have c0 := cf_nn (C := own :: C) (p := fun _ => false)
      have c1 := cf_nn (C := C) (p := fun _ => false)
      have hc0 := cf_cons (own := own) (C := C) (p := fun _ => false)
      refine ⟨fun _ => false, ?_, by simp, by omega⟩
      cases q : insP (fun _ => false) own with
      | false => rfl
      | true => rw [q] at hc0; simp only [b1, if_true] at hc0; omega
    | cons x xs ih =>
      intro hs
      obtain ⟨U, u1, u2, u3⟩ := ih fun y hy => hs y (by simp [hy])
      obtain ⟨p, p1, p2, p3⟩ := bad x (hs x (by simp))
      have hW := h fun y => U y || p y
      have hA := h fun y => U y && p y
      have ro := rm_or as U p
      refine ⟨fun y => U y || p y, ?_, fun y hy => ?_, ?_⟩
      · cases q : insP (fun y => U y || p y) own with
        | false => rfl
        | true =>
          have := cf_or1 (C := C) u1 p2 q
          omega
      · rcases List.mem_cons.mp hy with w | w
        · rw [w]; simp [p1]
        · simp [u2 y w]
      · have := cf_or (own :: C) U p
        omega
  obtain ⟨U, u1, u2, _⟩ := key own fun x hx => hx
  have : insP U own = true := by
    unfold insP
    rw [List.all_eq_true]
    exact u2
  rw [this] at u1
  cases u1
where sum_zeroN : ∀ l : List Nat, (l.map fun _ => (0 : Int)).sum = 0
  | [] => rfl
  | a :: l => by rw [List.map_cons, List.sum_cons, sum_zeroN l]; rfl
/-- each bucket has one of its own, and all shares are used up -/
def Fits : List Int → List (List Int) → List Int → Prop
  | as, [], [] => ∀ x ∈ as, x = 0
  | as, own :: C, x :: f => x ∈ own ∧ Fits (dcI x as) C f
  | _, _, _ => False
theorem sum_dcI {x : Int} {as : List Int} (hx : 0 ≤ x ∧ x < as.length) : (dcI x as).sum = as.sum - 1 := by
  unfold dcI
  rw [sum_setX (by omega)]
  omega
theorem rm_one {as : List Int} {x : Nat} (hx : x < as.length) : rmP as (fun y => decide (y = x)) = as.getD x 0 := by
  unfold rmP
  rw [sum_upd (g := fun _ => 0) hx fun i _ hn => by simp [hn], hall_step.sum_zeroN]
  simp
theorem hall_nn {as : List Int} {C : List (List Int)} (h : Hall as C) : ∀ x ∈ as, 0 ≤ x := fun x hx => by
  obtain ⟨i, hi⟩ := List.getElem?_of_mem hx
  have il := (List.getElem?_eq_some_iff.mp hi).1
  have := h fun y => decide (y = i)
  rw [rm_one il] at this
  have c := cf_nn (C := C) (p := fun y => decide (y = i))
  have e : as.getD i 0 = x := by rw [List.getD_eq_getElem?_getD, hi]; rfl
  omega
def Rng (C : List (List Int)) (n : Nat) : Prop := ∀ own ∈ C, ∀ y ∈ own, 0 ≤ y ∧ y < (n : Int)
theorem fit_hall : ∀ {C : List (List Int)} {as f : List Int}, Rng C as.length → Fits as C f → Hall as C
  | [], as, [], _, h => fun p => by
    have z : ∀ x ∈ as, x = 0 := h
    have e : rmP as p = 0 := by
      unfold rmP
      rw [List.map_congr_left (g := fun _ => (0 : Int)) fun i hi => by
        have : as.getD i 0 = 0 := z _ (gd_mem (List.mem_range.mp hi))
        rw [this]; split <;> rfl]
      exact hall_step.sum_zeroN _
    rw [e]
    simp [cfP]
  | own :: C, as, x :: f, hr, h => by
    obtain ⟨hx, hf⟩ := h
    exact hall_back hx (hr own (by simp) x hx) (fit_hall (by rw [dcI_len]; exact fun o ho => hr o (by simp [ho])) hf)
  | [], _, _ :: _, _, h => absurd h id
  | _ :: _, _, [], _, h => absurd h id
open Classical in
noncomputable def grd : List Int → List (List Int) → List Int
  | _, [] => []
  | as, own :: C => (own.filter fun x => decide (Hall (dcI x as) C)).headD 0 :: grd (dcI ((own.filter fun x => decide (Hall (dcI x as) C)).headD 0) as) C
theorem headF_mem {l : List Int} {p : Int → Bool} (h : ∃ x ∈ l, p x = true) : (l.filter p).headD 0 ∈ l ∧ p ((l.filter p).headD 0) = true := by
  obtain ⟨x, hx, hp⟩ := h
  have m : x ∈ l.filter p := List.mem_filter.mpr ⟨hx, hp⟩
  cases q : l.filter p with
  | nil => rw [q] at m; cases m
  | cons y r =>
    have : y ∈ l.filter p := by rw [q]; simp
    exact List.mem_filter.mp this
open Classical in
theorem grd_fit : ∀ {C : List (List Int)} {as : List Int}, Rng C as.length → Hall as C → as.sum = C.length → Fits as C (grd as C)
  | [], as, _, h, hs => fun x hx => by
    have nn := hall_nn h
    have := nn x hx
    have := le_sum nn x hx
    simp at hs
    omega
  | own :: C, as, hr, h, hs => by
    have ro := hr own (by simp)
    obtain ⟨x, hx, hh⟩ := hall_step ro h
    obtain ⟨m1, m2⟩ := headF_mem (l := own) (p := fun x => decide (Hall (dcI x as) C)) ⟨x, hx, decide_eq_true hh⟩
    have m2 := of_decide_eq_true m2
    refine ⟨m1, grd_fit (by rw [dcI_len]; exact fun o ho => hr o (by simp [ho])) m2 ?_⟩
    rw [sum_dcI (ro _ m1), hs]
    simp
end Lm


/-! which buckets fit: by all sets of variants -/
namespace Lm
open PySem PySem.Spec PyProof.Rows L2
theorem cmb_sub : ∀ {l : List Nat} {k : Nat} {s : List Nat}, s ∈ cmbL l k → s.Sublist l
  | _, 0, s, h => by
    have : s = [] := by simpa [cmbL] using h
    rw [this]
    exact List.nil_sublist _
  | [], k + 1, s, h => by simp [cmbL] at h
  | a :: l, k + 1, s, h => by
    rcases List.mem_append.mp h with w | w
    · obtain ⟨t, ht, rfl⟩ := List.mem_map.mp w
      exact (cmb_sub ht).cons_cons a
    · exact (cmb_sub w).cons a
theorem cmb_filter (p : Nat → Bool) : ∀ l : List Nat, l.filter p ∈ cmbL l (l.filter p).length
  | [] => by simp [cmbL]
  | a :: l => by
    have ih := cmb_filter p l
    rw [List.filter_cons]
    by_cases h : p a = true
    · rw [if_pos h, List.length_cons]
      exact List.mem_append_left _ (List.mem_map_of_mem ih)
    · rw [if_neg h]
      cases q : (l.filter p).length with
      | zero => rw [List.eq_nil_of_length_eq_zero q]; simp [cmbL]
      | succ k => rw [q] at ih; exact List.mem_append_right _ ih
/-- all sets of variants, the smaller ones first -/
def vsN (v : Nat) : List (List Nat) := (List.range (v + 1)).flatMap fun k => cmbs v k
theorem vs_sub {v : Nat} {s : List Nat} (h : s ∈ vsN v) : s.Sublist (List.range v) := by
  obtain ⟨k, _, hs⟩ := List.mem_flatMap.mp h
  exact cmb_sub hs
theorem vs_filter (v : Nat) (p : Nat → Bool) : (List.range v).filter p ∈ vsN v := by
  refine List.mem_flatMap.mpr ⟨((List.range v).filter p).length, List.mem_range.mpr ?_, cmb_filter p _⟩
  have := List.length_filter_le p (List.range v)
  rw [List.length_range] at this
  omega
def inS (s : List Nat) : Pk := fun x => decide (x ∈ s)
/-- what a set of variants has, and how many buckets need it -/
def roomI (as : List Int) (s : List Nat) : Int := (s.map fun x => as.getD x 0).sum
theorem sum_sub {g : Nat → Int} : ∀ {l s : List Nat}, s.Sublist l → l.Nodup → (s.map g).sum = (l.map fun x => if decide (x ∈ s) then g x else 0).sum
  | _, _, .slnil, _ => rfl
  | a :: l, s, .cons _ h, nd => by
    have na : a ∉ s := fun m => (List.nodup_cons.mp nd).1 (h.subset m)
    rw [List.map_cons, List.sum_cons, sum_sub h (List.nodup_cons.mp nd).2, decide_eq_false na]
    simp
  | a :: l, _ :: s, .cons_cons _ h, nd => by
    have nd' := List.nodup_cons.mp nd
    rw [List.map_cons, List.sum_cons, List.map_cons, List.sum_cons, sum_sub h nd'.2]
    have e : (l.map fun x => if decide (x ∈ s) then g x else 0) = l.map fun x => if decide (x ∈ a :: s) then g x else 0 := List.map_congr_left fun x hx => by
      have : x ≠ a := fun e => nd'.1 (e ▸ hx)
      simp [this]
    rw [e]
    simp
theorem room_rm {as : List Int} {s : List Nat} (h : s ∈ vsN as.length) : roomI as s = rmP as (inS s) := sum_sub (vs_sub h) List.nodup_range
theorem fits_iff : ∀ {C : List (List Int)} {as f : List Int}, Rng C as.length → (Fits as C f ↔ f.length = C.length ∧ (∀ i < f.length, f.getD i 0 ∈ C.getD i []) ∧ ∀ x < as.length, (f.count (x : Int) : Int) = as.getD x 0)
  | [], as, [], _ => by
    constructor
    · intro h
      exact ⟨rfl, by simp, fun x hx => by
        have h' : ∀ x ∈ as, x = 0 := h
        rw [h' _ (gd_mem hx)]; rfl⟩
    · rintro ⟨_, _, h⟩ x hx
      obtain ⟨i, hi⟩ := List.getElem?_of_mem hx
      have := h i (List.getElem?_eq_some_iff.mp hi).1
      rw [List.getD_eq_getElem?_getD, hi] at this
      simpa using this.symm
  | own :: C, as, x :: f, hr => by
    have rC : Rng C (dcI x as).length := by rw [dcI_len]; exact fun o ho => hr o (by simp [ho])
    have ih := fits_iff (as := dcI x as) (f := f) rC
    have cnt : ∀ (x0 : 0 ≤ x ∧ x < as.length) (y : Nat), y < as.length → (((x :: f).count (y : Int) : Int) = as.getD y 0 ↔ (f.count (y : Int) : Int) = (dcI x as).getD y 0) := fun x0 y hy => by
      have e : (dcI x as).getD y 0 = if x.toNat = y then as.getD x.toNat 0 - 1 else as.getD y 0 := getD_setI (by omega)
      rw [e, List.count_cons]
      by_cases w : x.toNat = y
      · subst w
        have : x = ((x.toNat : Nat) : Int) := by omega
        rw [if_pos rfl, if_pos (by rw [beq_iff_eq]; exact this)]
        omega
      · have : ¬ x = (y : Int) := by omega
        rw [if_neg w, if_neg (by simpa using this)]
        omega
    show x ∈ own ∧ Fits (dcI x as) C f ↔ _
    rw [ih, dcI_len]
    constructor
    · rintro ⟨hx, h1, h2, h3⟩
      have x0 := hr own (by simp) x hx
      refine ⟨by simp [h1], fun i hi => ?_, fun y hy => (cnt x0 y hy).mpr (h3 y hy)⟩
      cases i with
      | zero => exact hx
      | succ i => exact h2 i (by simpa using hi)
    · rintro ⟨h1, h2, h3⟩
      have hx : x ∈ own := h2 0 (by simp)
      have x0 := hr own (by simp) x hx
      exact ⟨hx, by simpa using h1, fun i hi => h2 (i + 1) (by simpa using hi), fun y hy => (cnt x0 y hy).mp (h3 y hy)⟩
  | [], _, _ :: _, _ => by simp [Fits]
  | _ :: _, _, [], _ => by simp [Fits]
end Lm


/-! which buckets fit: the promises -/
namespace Lm
open PySem PySem.Spec PyProof.Rows L2
structure Mns (C : List (List Int)) (n : Nat) : Prop where
  rng : Rng C n
  len : C.length ≤ 20
  own : ∀ own ∈ C, own.length ≤ 5
section
variable {c : Ct} {Γ : List (Option Rs)} {tl : TE} {k : Kd} {C : List (List Int)} {d : PyData}
end
def setD (s : List Nat) : PyData := tupD (castL s)
end Lm


/-! shortages, and how rules go on -/
namespace Lm
open PySem PySem.Spec PyProof.Rows L2
/-- the first set of variants that is too small -/
def shS (as : List Int) (C : List (List Int)) : Option (List Nat) := (vsN as.length).find? fun s => decide (roomI as s < cfP C (inS s))
theorem sh_some {as : List Int} {C : List (List Int)} {s : List Nat} (h : shS as C = some s) : s ∈ vsN as.length ∧ roomI as s < cfP C (inS s) := by
  unfold shS at h
  have q := List.find?_some h
  exact ⟨List.mem_of_find?_eq_some h, by simpa using q⟩
section
variable {c : Ct} {Γ : List (Option Rs)} {tl tb : TE} {kb : Kd} {C : List (List Int)} {cd : PyData}
end
/-! rules -/
end Lm


/-! walks over sets of variants; is not True -/
namespace Lm
open PySem PySem.Spec PyProof.Rows L2
section
variable {c : Ct} {Γ : List (Option Rs)} {tl te : TE} {k : Kd} {L : List (List Nat)} {a t : Bool}
theorem i_sets (h : Ev c tl Γ k (.list (L.map setD))) (hk : k ≠ .b) : EvI c (iSeq c.K tl) Γ true (L.map fun s => Im.d (setD s)) := by
  have := i_seqL h hk
  rwa [List.map_map] at this
end
end Lm


/-! strings in comparisons; whys -/
namespace Lm
open PySem PySem.Spec PyProof.Rows L2
theorem str_ok (s : String) : PyData.strOk (Str.ofString s) = true := by
  rw [Str.ofString_eq_toList]
  unfold PyData.strOk
  simp only [List.all_toArray, List.all_map, List.all_eq_true, Function.comp, decide_eq_true_eq]
  intro c _
  rcases c.valid with h | h
  · exact Nat.lt_trans h (by decide)
  · exact h.2
theorem sh_str {n : Nat} {s : String} : Sh n (.str (Str.ofString s)) := ⟨str_ok s, by simp [PyData.depth]⟩
theorem shapedS {s : String} : SeqAt.shaped (.str (Str.ofString s)) = true := (sh_str (n := 0)).ok (by decide)
end Lm


/-! zip of a list and a tuple -/
namespace Lm
open PySem PySem.Spec PyProof.Rows L2
def ItM (t : Bool) (h : Heap) (i a : Addr) (k : Nat) : Prop := match t with
  | true => h.IsListIter i a k
  | false => h.IsTupleIter i a k
theorem ItM.at {t : Bool} {h h' : Heap} {i a : Addr} {k : Nat} (x : ItM t h i a k) (f : ∀ o, h.get? i = some o → h'.get? i = some o) : ItM t h' i a k := by
  cases t
  · exact Heap.IsTupleIter.at x f
  · exact Heap.IsListIter.at x f
end Lm


/-! walks over zip of a list and a tuple; pairs that are drawn; forbidden pairs, pins, menus, bounds by levels -/
namespace Lm
open PySem PySem.Spec PyProof.Rows L2
section
variable {X : Cx} {K : PySem.W.Frag} (hK : X.K = K)
include hK
end
section
variable {c : Ct} {H H' H0 H1 H2 H3 : Hp} {O : List Addr} {Γ Γ' Γ1 : List (Option Rs)}
variable {te ta tb tx ty : TE} {k ka kb kc : Kd} {d x y z : PyData} {ds es : List PyData}
end
/-! ### mathematics -/
/-- pairs of buckets and variants, ascending -/
structure Prd (F : List (List Int)) (v b : Nat) : Prop where
  row : ∀ r ∈ F, ∃ x y : Nat, r = [(x : Int), (y : Int)] ∧ x < b ∧ y < v
  asc : F.Pairwise fun a b => TS.code 1000 a < TS.code 1000 b
  len : F.length ≤ 36
theorem Prd.filter {F : List (List Int)} {v b : Nat} (h : Prd F v b) (p : List Int → Bool) : Prd (F.filter p) v b :=
  ⟨fun r hr => h.row r (List.mem_filter.mp hr).1, h.asc.filter _, Nat.le_trans (List.length_filter_le _ _) h.len⟩
/-- pins: of different buckets -/
structure Pin (P : List (List Int)) (v b : Nat) : Prop extends Prd P v b where
  fst : P.Pairwise fun p q => p.getD 0 0 < q.getD 0 0
def psL (as : List Int) (v : Int) (b : Nat) (C : List (List Int)) : List (List Int) := (allL v b).filter fun f => decide (countsI f v = as) && ((List.range b).map fun k => decide (f.getD k 0 ∈ C.getD k [])).all id
theorem mem_psL {as f : List Int} {v : Int} {b : Nat} {C : List (List Int)} (hv : 0 ≤ v) : f ∈ psL as v b C ↔ f.length = b ∧ (∀ x ∈ f, 0 ≤ x ∧ x < v) ∧ countsI f v = as ∧ ∀ k < b, f.getD k 0 ∈ C.getD k [] := by
  unfold psL
  rw [List.mem_filter, mem_allL hv, Bool.and_eq_true, List.all_map, List.all_eq_true]
  simp only [decide_eq_true_eq, List.mem_range, Function.comp, id]
  constructor
  · rintro ⟨⟨h1, h2⟩, h3, h4⟩; exact ⟨h1, h2, h3, h4⟩
  · rintro ⟨h1, h2, h3, h4⟩; exact ⟨⟨h1, h2⟩, h3, h4⟩
def wrtI (h : Int) (ls : List Int) (y : Int) : Int := (if y = h then 1 else 0) - ls.getD y.toNat 0
def gw (own : List Int) (h : Int) (ls : List Int) : Int := mxL (own.map (wrtI h ls))
def gwS (C : List (List Int)) (f ls : List Int) : Int := ((C.zip f).map fun p => gw p.1 p.2 ls).sum
def mulI (a b : Int) : Int := a * b
theorem gw_ge {own ls : List Int} {h y : Int} (hy : y ∈ own) : wrtI h ls y ≤ gw own h ls := mxL_le _ (List.mem_map_of_mem hy)
/-- no row keeps more than the bound, less the levels it takes -/
theorem kept_le {ls : List Int} : ∀ {C : List (List Int)} {f r : List Int}, C.length = f.length → r.length = f.length → (∀ k < r.length, r.getD k 0 ∈ C.getD k []) →
    (f.length : Int) - zs ne1 f r ≤ gwS C f ls + (r.map fun y => ls.getD y.toNat 0).sum
  | [], [], [], _, _, _ => by simp [gwS, zs]
  | own :: C, h :: f, y :: r, h1, h2, hm => by
    have ih := kept_le (ls := ls) (C := C) (f := f) (r := r) (by simpa using h1) (by simpa using h2) fun k hk => by have := hm (k + 1) (by simpa using hk); simpa using this
    have m0 : y ∈ own := by have := hm 0 (by simp); simpa using this
    have g := gw_ge (ls := ls) (h := h) m0
    have e : gwS (own :: C) (h :: f) ls = gw own h ls + gwS C f ls := by simp [gwS]
    have en : ne1 h y = if h = y then 0 else 1 := rfl
    rw [zs_cons, e, en, List.map_cons, List.sum_cons, List.length_cons]
    unfold wrtI at g
    by_cases q : h = y
    · rw [if_pos q.symm] at g
      rw [if_pos q]
      omega
    · rw [if_neg (fun z => q z.symm)] at g
      rw [if_neg q]
      omega
  | [], _ :: _, _, h, _, _ => by simp at h
  | _ :: _, [], _, h, _, _ => by simp at h
  | _, [], _ :: _, _, h, _ => by simp at h
  | _, _ :: _, [], _, h, _ => by simp at h
theorem nil_sum {α : Type} : ∀ l : List α, (l.map fun _ => (0 : Int)).sum = 0
  | [] => rfl
  | _ :: l => by rw [List.map_cons, List.sum_cons, nil_sum l]; rfl
theorem pick_sum {g : Nat → Int} {x : Nat} : ∀ n : Nat, x < n → ((List.range n).map fun k => if k = x then g k else 0).sum = g x
  | 0, h => by omega
  | n + 1, h => by
    rw [List.range_succ, List.map_append, List.sum_append, List.map_singleton, List.sum_singleton]
    by_cases e : x = n
    · subst e
      have : ((List.range x).map fun k => if k = x then g k else 0) = (List.range x).map fun _ => (0 : Int) := List.map_congr_left fun k hk => if_neg (by have := List.mem_range.mp hk; omega)
      rw [this, if_pos rfl, nil_sum]
      omega
    · rw [pick_sum n (by omega), if_neg (fun z => e z.symm)]
      omega
/-- what the levels give in all -/
theorem lev_sum {ls : List Int} {v : Nat} (hl : ls.length = v) : ∀ {r : List Int}, (∀ x ∈ r, 0 ≤ x ∧ x < (v : Int)) → (r.map fun y => ls.getD y.toNat 0).sum = zs mulI (countsI r v) ls
  | [], _ => by
    unfold zs
    rw [countsI_len, Int.toNat_natCast]
    have : ((List.range v).map fun j => mulI ((countsI [] v).getD j 0) (ls.getD j 0)) = (List.range v).map fun _ => (0 : Int) := List.map_congr_left fun j hj => by
      rw [countsI_get (by have := List.mem_range.mp hj; omega)]
      simp [mulI]
    rw [this, nil_sum]
    rfl
  | y :: r, h => by
    have ih := lev_sum hl (r := r) fun x hx => h x (by simp [hx])
    obtain ⟨y0, y1⟩ := h y (by simp)
    obtain ⟨Y, rfl⟩ := Int.eq_ofNat_of_zero_le y0
    rw [List.map_cons, List.sum_cons, ih, Int.toNat_natCast]
    unfold zs
    rw [countsI_len, countsI_len, Int.toNat_natCast]
    have e : ∀ j ∈ List.range v, mulI ((countsI ((Y : Int) :: r) v).getD j 0) (ls.getD j 0) = (if j = Y then ls.getD j 0 else 0) + mulI ((countsI r v).getD j 0) (ls.getD j 0) := fun j hj => by
      have hj' : (j : Int) < v := by have := List.mem_range.mp hj; omega
      rw [countsI_get hj', countsI_get hj', List.count_cons]
      unfold mulI
      by_cases q : j = Y
      · subst q
        simp [Int.add_mul]
        omega
      · have : ¬ ((Y : Int) = (j : Int)) := by omega
        simp [q, this]
    rw [List.map_congr_left e]
    have add : ∀ (f g : Nat → Int) (l : List Nat), (l.map fun i => f i + g i).sum = (l.map f).sum + (l.map g).sum := fun f g l => by
      induction l with
      | nil => rfl
      | cons a l ih => rw [List.map_cons, List.sum_cons, List.map_cons, List.sum_cons, List.map_cons, List.sum_cons, ih]; omega
    rw [add, pick_sum (g := fun j => ls.getD j 0) v (by omega)]
/-- no possible assignment keeps more than the bound -/
theorem weak {as f r ls : List Int} {v b : Nat} {C : List (List Int)} (hC : C.length = b) (hf : f.length = b) (hl : ls.length = v) (hr : r ∈ psL as v b C) : [] ∉ C ∧ (b : Int) - zs ne1 f r ≤ zs mulI as ls + gwS C f ls := by
  obtain ⟨h1, h2, h3, h4⟩ := (mem_psL (by omega)).mp hr
  refine ⟨fun z => ?_, ?_⟩
  · obtain ⟨k, hk, e⟩ := List.getElem_of_mem z
    have := h4 k (by omega)
    rw [List.getD_eq_getElem?_getD, List.getD_eq_getElem?_getD, List.getElem?_eq_getElem hk, e] at this
    simp at this
  · have := kept_le (ls := ls) (C := C) (f := f) (r := r) (by omega) (by omega) fun k hk => h4 k (by omega)
    rw [lev_sum hl h2, h3] at this
    omega
end Lm


/-! forbidden pairs and pins that are drawn; promises -/
namespace Lm
open PySem PySem.Spec PyProof.Rows L2
structure PrdN (F : List (List Int)) (v n m : Nat) : Prop where
  row : ∀ r ∈ F, ∃ x y : Nat, r = [(x : Int), (y : Int)] ∧ y < v ∧ x * 1000 + y < n * 1000 + m
  asc : F.Pairwise fun a b => TS.code 1000 a < TS.code 1000 b
  len : F.length ≤ n * v + m
theorem PrdN.nil {v : Nat} : PrdN [] v 0 0 := ⟨by simp, List.Pairwise.nil, by simp⟩
theorem PrdN.next {F : List (List Int)} {v n : Nat} (h : PrdN F v n v) (hv : v ≤ 5) : PrdN F v (n + 1) 0 :=
  ⟨fun r hr => let ⟨x, y, e, a, b⟩ := h.row r hr; ⟨x, y, e, a, by omega⟩, h.asc, by have := h.len; rw [Nat.add_mul]; omega⟩
structure PinN (P : List (List Int)) (v n : Nat) : Prop where
  row : ∀ r ∈ P, ∃ x y : Nat, r = [(x : Int), (y : Int)] ∧ x < n ∧ y < v
  fst : P.Pairwise fun p q => p.getD 0 0 < q.getD 0 0
  len : P.length ≤ n
theorem PinN.nil {v : Nat} : PinN [] v 0 := ⟨by simp, List.Pairwise.nil, by simp⟩
theorem Pin.nil {v b : Nat} : Pin [] v b := { row := by simp, fst := List.Pairwise.nil, len := by simp, asc := List.Pairwise.nil }
structure Exc (as f : List Int) (F P : List (List Int)) (v b : Nat) : Prop where
  v1 : 1 ≤ v
  v5 : v ≤ 5
  b6 : b ≤ 6
  asg : Asg f (v : Int)
  len : f.length = b
  alc : Alc as (v : Int) (b : Int)
  prd : Prd F v b
  pin : Pin P v b
end Lm


/-! lists that stay: displays of anything, put together, subscripts -/
namespace Lm
open PySem PySem.Spec PyProof.Rows L2
section
variable {X : Cx} {K : PySem.W.Frag} (hK : X.K = K)
include hK
end
section
variable {c : Ct} {Γ : List (Option Rs)} {te ta tb : TE} {tr : TA} {k ka kb : Kd} {d : PyData} {ds es : List PyData}
theorem Ev.frz (h : Ev c te Γ .o d) : Ev c te Γ .v d := fun H0 O H σ e Q q => h H0 O H σ e _ fun v H2 r s => q v H2 r (Res.frozen e r s ko_ne)
/-- a new list of things that stay -/
theorem newV {H0 H H2 : Hp} {O : List Addr} {σ : L2.St} {xs : List V} {p : Addr} (e : Env c H0 O H2 σ Γ) (al : BoAll c (mns H2 O) xs ds) (hp : H2 p = none) : Bo c (mns (upd H2 p (.lst xs)) O) (.ref p) (.list ds) := by
  have sm : Same H2 (upd H2 p (.lst xs)) := fun b o z => by rw [upd_ne (ne_of_none z hp)]; exact z
  have r4 : Rr c H2 (upd H2 p (.lst xs)) := Rr.same sm
  have no := new_notO e hp
  refine .lst (okA.fresh e.jH hp) (.inl ?_) (al.mono e.j (r4.mns e.j e.okO))
  left
  rw [mns_out no]
  exact upd_same
theorem e_lstV (h : EvA c tr Γ true ds) (hl : ds.length ≤ 1000000) : Ev c (tLst tr) Γ .v (.list ds) := fun H0 O H σ e Q q =>
  h H0 O H σ e _ fun vs H1 r s => by
    have s' := BoAll.vm s
    refine ⟨by rw [s'.len]; exact sizeOk hl, fun p hp => q _ _ (r.tr (Rr.same fun b u z => by rw [upd_ne (ne_of_none z hp)]; exact z)) (newV (H := H1) (e.on r) s' hp)⟩
theorem n_ixLV {P : PyData → Prop} {Q : Int → Prop} (ha : Ev c ta Γ .v (.list ds)) (hb : EvN c tb Γ kb (SomeI Q)) (hr : ∀ i, Q i → ∃ d, atI ds i = some d ∧ P d) : EvN c (tOp (rIx c.K) ta tb) Γ .v P := fun H0 O H σ e Q' q =>
  ha H0 O H σ e _ fun v H1 r1 s1 => hb H0 O H1 σ (e.on r1) _ fun u y H2 ⟨i, hi, qi⟩ r2 s2 => by
    obtain ⟨d, he, pd⟩ := hr i qi
    subst hi
    have bv : Bo c (mns H2 O) v (.list ds) := Res.on (k := .v) e r1 r2 s1
    obtain ⟨p, xs, rfl, _, s, al⟩ := bv.lst'
    obtain ⟨x, hx, bx⟩ := atI_bo al he
    exact .inl ⟨p, xs, i, x, rfl, (Res.bo (e.on r1) s2).int', mns_same.seq s, hx, q x d H2 pd (r1.tr r2) bx⟩
end
end Lm


/-! possible assignments: which come first, what is none -/
namespace Lm
open PySem PySem.Spec PyProof.Rows L2
theorem mem_ps {as f : List Int} {v b : Nat} {C : List (List Int)} (al : as.length = v) (hC : C.length = b) (hr : Rng C v) : f ∈ psL as v b C ↔ Fits as C f := by
  rw [mem_psL (by omega), fits_iff (by rw [al]; exact hr), hC]
  have cnt : (countsI f v = as ↔ ∀ x < as.length, (f.count (x : Int) : Int) = as.getD x 0) := by
    constructor
    · intro h x hx
      rw [← h, countsI_get (by omega)]
    · intro h
      apply List.ext_getElem
      · rw [countsI_len]; omega
      · intro i h1 h2
        have e1 : (countsI f v).getD i 0 = (f.count (i : Int) : Int) := countsI_get (by omega)
        rw [h i h2] at e1
        simpa [List.getD_eq_getElem?_getD, h1, h2] using e1
  constructor
  · rintro ⟨h1, h2, h3, h4⟩
    exact ⟨h1, fun i hi => h4 i (by omega), cnt.mp h3⟩
  · rintro ⟨h1, h2, h3⟩
    refine ⟨h1, fun x hx => ?_, cnt.mpr h3, fun k hk => h2 k (by omega)⟩
    obtain ⟨i, hi⟩ := List.getElem?_of_mem hx
    have il := (List.getElem?_eq_some_iff.mp hi).1
    have m := h2 i il
    have fx : f.getD i 0 = x := by rw [List.getD_eq_getElem?_getD, hi]; rfl
    rw [fx] at m
    exact hr _ (gL_mem (by omega)) x m
theorem rep_flat {d : PyData} : ∀ n : Nat, (List.replicate n [d]).flatten = List.replicate n d
  | 0 => rfl
  | n + 1 => by rw [List.replicate_succ, List.flatten_cons, rep_flat n]; rfl
end Lm


/-! entries of families -/
namespace Lm
open PySem PySem.Spec PyProof.Rows L2
def gsL (F : List (List Int)) (n : Nat) : List Int := (List.range n).map fun p => mxL (F.map fun r => r.getD p 0)
def entI (i : Nat) (n : Int) : List (List Int) := (List.range n.toNat).map fun (p : Nat) => [((i + 1 : Nat) : Int), (p : Int)]
def entL (ns : List Int) : List (List Int) := (List.range ns.length).flatMap fun i => entI i (ns.getD i 0)
/-- the row uses the entry -/
def usB (r e : List Int) : Bool := decide (e.getD 1 0 < r.getD (e.getD 0 0 - 1).toNat 0)
def togB (F : List (List Int)) (e f : List Int) : Bool := !decide (e = f) && (F.map fun r => usB r e && usB r f).any id
/-- the entries -/
theorem mem_ent {ns e : List Int} : e ∈ entL ns ↔ ∃ x y : Nat, e = [((x + 1 : Nat) : Int), (y : Int)] ∧ x < ns.length ∧ (y : Int) < ns.getD x 0 := by
  unfold entL entI
  simp only [List.mem_flatMap, List.mem_map, List.mem_range]
  constructor
  · rintro ⟨x, hx, y, hy, rfl⟩
    exact ⟨x, y, rfl, hx, by omega⟩
  · rintro ⟨x, y, rfl, hx, hy⟩
    exact ⟨x, hx, y, by omega, rfl⟩
end Lm


/-! sorted(xs), xs a list of rows -/
namespace L2
open PySem PySem.Spec PyProof.Rows
end L2
namespace Lm
open PySem PySem.Spec PyProof.Rows L2
section
variable {X : Cx} {K : PySem.W.Frag} (hK : X.K = K)
include hK
end
section
variable {c : Ct} {Γ : List (Option Rs)} {te : TE} {k : Kd}
end
end Lm


/-! tuple * -1 -/
namespace L2
open PySem PySem.Spec PyProof.Rows
end L2
namespace Lm
open PySem PySem.Spec PyProof.Rows L2
section
variable {X : Cx} {K : PySem.W.Frag} (hK : X.K = K)
include hK
end
section
variable {c : Ct} {Γ : List (Option Rs)} {ta tb : TE} {ka kb : Kd} {ds : List PyData} {i : Int}
end
end Lm


namespace Lm
open PySem PySem.Spec PyProof.Rows L2

/-! ### pairs of entries that are used together -/
abbrev E2 := List Int × List Int
structure UsP (A : List (List Int)) (s : List Int) (k : Nat) (Ps : List E2) : Prop where
  nd : Ps.Nodup
  mem : ∀ e f, (e, f) ∈ Ps ↔ (∃ r ∈ A, e ∈ entL r ∧ f ∈ entL r ∧ e ≠ f) ∨ (e ∈ (entL s).take k ∧ f ∈ entL s ∧ e ≠ f)
theorem UsP.nil : UsP [] [] 0 [] := ⟨List.nodup_nil, fun e f => by simp⟩
theorem UsP.done {A : List (List Int)} {s : List Int} {Ps : List E2} (h : UsP A s (entL s).length Ps) : UsP (A ++ [s]) [] 0 Ps := ⟨h.nd, fun e f => by
  rw [h.mem, List.take_length]
  constructor
  · rintro (⟨r, hr, h⟩ | h)
    · exact .inl ⟨r, List.mem_append_left _ hr, h⟩
    · exact .inl ⟨s, by simp, h⟩
  · rintro (⟨r, hr, h⟩ | h)
    · rcases List.mem_append.mp hr with q | q
      · exact .inl ⟨r, q, h⟩
      · rw [List.mem_singleton.mp q] at h; exact .inr h
    · simp at h⟩
def newP (s e : List Int) (Ps : List E2) : List E2 := ((entL s).filter fun g => !decide (e = g) && !decide ((e, g) ∈ Ps)).map fun g => (e, g)
theorem UsP.step {A : List (List Int)} {s e : List Int} {k : Nat} {Ps : List E2} (h : UsP A s k Ps) (nd : (entL s).Nodup) (hk : (entL s)[k]? = some e) : UsP A s (k + 1) (Ps ++ newP s e Ps) := by
  refine ⟨?_, fun a b => ?_⟩
  · rw [List.nodup_append]
    refine ⟨h.nd, ?_, fun x hx y hy z => ?_⟩
    · exact List.Pairwise.map _ (fun a b ne z => ne (Prod.mk.inj z).2) (nd.filter _)
    · obtain ⟨g, hg, rfl⟩ := List.mem_map.mp hy
      have := (List.mem_filter.mp hg).2
      rw [Bool.and_eq_true] at this
      subst z
      have w := this.2
      rw [decide_eq_true hx] at w
      cases w
  · rw [List.mem_append, h.mem, List.take_add_one, hk]
    constructor
    · rintro ((w | w) | w)
      · exact .inl w
      · exact .inr ⟨List.mem_append_left _ w.1, w.2⟩
      · obtain ⟨g, hg, z⟩ := List.mem_map.mp w
        obtain ⟨rfl, rfl⟩ := Prod.mk.inj z
        obtain ⟨m, q⟩ := List.mem_filter.mp hg
        rw [Bool.and_eq_true] at q
        refine .inr ⟨by simp, m, ?_⟩
        have := q.1
        simpa using this
    · rintro (w | ⟨w1, w2, w3⟩)
      · exact .inl (.inl w)
      · rcases List.mem_append.mp w1 with q | q
        · exact .inl (.inr ⟨q, w2, w3⟩)
        · have q : a = e := by simpa using q
          subst q
          by_cases m : (a, b) ∈ Ps
          · exact .inl ((h.mem a b).mp m)
          · refine .inr (List.mem_map.mpr ⟨b, List.mem_filter.mpr ⟨w2, ?_⟩, rfl⟩)
            simp [m, w3]
theorem UsP.len {A : List (List Int)} {s : List Int} {k : Nat} {Ps : List E2} (h : UsP A s k Ps) (hA : ∀ r ∈ s :: A, r.length ≤ 4 ∧ ∀ x ∈ r, x ≤ 10) : Ps.length ≤ 1600 := by
  have big : ∀ r ∈ s :: A, ∀ e ∈ entL r, e ∈ entL [10, 10, 10, 10] := fun r hr e he => by
    obtain ⟨x, y, rfl, hx, hy⟩ := mem_ent.mp he
    have hs' := hA r hr
    have := hs'.2 _ (gd_mem hx)
    refine mem_ent.mpr ⟨x, y, rfl, by show x < 4; omega, ?_⟩
    have x4 : x < 4 := by omega
    have : ([10, 10, 10, 10] : List Int).getD x 0 = 10 := by
      match x, x4 with
      | 0, _ => rfl
      | 1, _ => rfl
      | 2, _ => rfl
      | 3, _ => rfl
    omega
  have l40 : (entL [10, 10, 10, 10]).length = 40 := by decide
  refine Nat.le_trans (nodup_sub (m := (entL [10, 10, 10, 10]).flatMap fun e => (entL [10, 10, 10, 10]).map fun f => (e, f)) h.nd fun p hp => ?_) ?_
  · obtain ⟨e, f⟩ := p
    have m : ∃ r ∈ s :: A, e ∈ entL r ∧ f ∈ entL r := by
      rcases (h.mem e f).mp hp with ⟨r, hr, h1, h2, _⟩ | ⟨h1, h2, _⟩
      · exact ⟨r, List.mem_cons_of_mem _ hr, h1, h2⟩
      · exact ⟨s, List.mem_cons_self, List.mem_of_mem_take h1, h2⟩
    obtain ⟨r, hr, h1, h2⟩ := m
    exact List.mem_flatMap.mpr ⟨e, big r hr e h1, List.mem_map_of_mem (big r hr f h2)⟩
  · have : ∀ (l m : List (List Int)), (l.flatMap fun e => m.map fun f => (e, f)).length = l.length * m.length := by
      intro l m
      induction l with
      | nil => simp
      | cons a l ih => rw [List.flatMap_cons, List.length_append, ih, List.length_map, List.length_cons, Nat.succ_mul]; omega
    rw [this, l40]
    decide
end Lm


namespace Lm
open PySem PySem.Spec PyProof.Rows L2

/-! ### while -/
section
variable {c : Ct} {H0 H : Hp} {O : List Addr} {σ : L2.St} {Γ : List (Option Rs)} {P : Out → Prop} {tc : TT} {tb u : TS}
end

/-! ### levels: the mathematics -/
def bvI (own : List Int) (h : Int) (ls : List Int) : List Int := own.filter fun y => decide (wrtI h ls y = gw own h ls)
def bvL (C : List (List Int)) (f ls : List Int) : List (List Int) := (C.zip f).map fun p => bvI p.1 p.2 ls
def upS (c : Int) (p : Pk) (ls : List Int) : List Int := (List.range ls.length).map fun y => ls.getD y 0 + c * b1 (p y)
def bnd (as f : List Int) (C : List (List Int)) (ls : List Int) : Int := zs mulI as ls + gwS C f ls
theorem upS_len {c : Int} {p : Pk} {ls : List Int} : (upS c p ls).length = ls.length := by simp [upS]
theorem upS_get {c : Int} {p : Pk} {ls : List Int} {y : Nat} (h : y < ls.length) : (upS c p ls).getD y 0 = ls.getD y 0 + c * b1 (p y) := by
  unfold upS
  rw [List.getD_eq_getElem?_getD, List.getElem?_map, List.getElem?_range h]
  rfl
theorem sumM_add {α : Type} (g h : α → Int) : ∀ l : List α, (l.map fun x => g x + h x).sum = (l.map g).sum + (l.map h).sum
  | [] => rfl
  | a :: l => by simp only [List.map_cons, List.sum_cons, sumM_add g h l]; omega
theorem sumM_mul {α : Type} (c : Int) (h : α → Int) : ∀ l : List α, (l.map fun x => c * h x).sum = c * (l.map h).sum
  | [] => by simp
  | a :: l => by simp only [List.map_cons, List.sum_cons, sumM_mul c h l, Int.mul_add]
theorem zs_up {as ls : List Int} (c : Int) (p : Pk) (h : as.length = ls.length) : zs mulI as (upS c p ls) = zs mulI as ls + c * rmP as p := by
  unfold zs rmP
  rw [← sumM_mul, ← sumM_add]
  congr 1
  refine List.map_congr_left fun j hj => ?_
  have := List.mem_range.mp hj
  rw [upS_get (by omega)]
  unfold mulI b1
  rw [Int.mul_add]
  by_cases q : p j = true
  · rw [if_pos q, if_pos q, Int.mul_one, Int.mul_comm c]
  · rw [if_neg q, if_neg q]; simp
theorem wrt_up {h c : Int} {p : Pk} {ls : List Int} {y : Int} (y0 : 0 ≤ y) (yl : y < ls.length) : wrtI h (upS c p ls) y = wrtI h ls y - c * b1 (p y.toNat) := by
  unfold wrtI
  rw [upS_get (by omega)]
  omega
theorem gw_mem {own ls : List Int} {h : Int} (ne : own ≠ []) : ∃ y ∈ own, wrtI h ls y = gw own h ls := by
  obtain ⟨y, hy, e⟩ := List.mem_map.mp (mxL_mem (ns := own.map (wrtI h ls)) (by rw [List.length_map]; exact List.length_pos_iff.mpr ne))
  exact ⟨y, hy, e⟩
theorem gw_top {own ls : List Int} {h m : Int} (ne : own ≠ []) (hm : ∀ y ∈ own, wrtI h ls y ≤ m) : gw own h ls ≤ m := by
  obtain ⟨y, hy, e⟩ := gw_mem (h := h) (ls := ls) ne
  rw [← e]; exact hm y hy
theorem mem_bvI {own ls : List Int} {h y : Int} : y ∈ bvI own h ls ↔ y ∈ own ∧ wrtI h ls y = gw own h ls := by
  unfold bvI
  rw [List.mem_filter, decide_eq_true_iff]
theorem ins_iff {p : Pk} {own : List Int} : insP p own = true ↔ ∀ y ∈ own, p y.toNat = true := by
  unfold insP
  rw [List.all_eq_true]
theorem b1_nn (b : Bool) : 0 ≤ b1 b ∧ b1 b ≤ 1 := by cases b <;> simp [b1]
theorem gw_step {own ls : List Int} {h : Int} {p : Pk} (ne : own ≠ []) (hr : ∀ y ∈ own, 0 ≤ y ∧ y < ls.length) : gw own h (upS 1 p ls) = gw own h ls - b1 (insP p (bvI own h ls)) := by
  have wr : ∀ y ∈ own, wrtI h (upS 1 p ls) y = wrtI h ls y - b1 (p y.toNat) := fun y hy => by
    rw [wrt_up (hr y hy).1 (hr y hy).2]; omega
  obtain ⟨y1, m1, e1⟩ := gw_mem (h := h) (ls := upS 1 p ls) ne
  by_cases hc : insP p (bvI own h ls) = true
  · rw [hc]
    have hp := ins_iff.mp hc
    obtain ⟨y0, m0, e0⟩ := gw_mem (h := h) (ls := ls) ne
    have g0 := gw_ge (ls := upS 1 p ls) (h := h) m0
    rw [wr y0 m0, hp y0 (mem_bvI.mpr ⟨m0, e0⟩), e0] at g0
    have g1 := gw_ge (ls := ls) (h := h) m1
    rw [wr y1 m1] at e1
    show gw own h (upS 1 p ls) = gw own h ls - 1
    have b11 : b1 true = 1 := rfl
    by_cases q : wrtI h ls y1 = gw own h ls
    · rw [hp y1 (mem_bvI.mpr ⟨m1, q⟩)] at e1
      omega
    · have := b1_nn (p y1.toNat)
      omega
  · have hc' : insP p (bvI own h ls) = false := by simpa using hc
    rw [hc']
    have : ∃ y ∈ bvI own h ls, p y.toNat = false := by
      unfold insP at hc'
      rw [List.all_eq_false] at hc'
      obtain ⟨y, hy, q⟩ := hc'
      exact ⟨y, hy, by simpa using q⟩
    obtain ⟨y0, hy0, q0⟩ := this
    obtain ⟨m0, e0⟩ := mem_bvI.mp hy0
    have g0 := gw_ge (ls := upS 1 p ls) (h := h) m0
    rw [wr y0 m0, q0, e0] at g0
    have g1 := gw_ge (ls := ls) (h := h) m1
    rw [wr y1 m1] at e1
    have := b1_nn (p y1.toNat)
    have b10 : b1 false = 0 := rfl
    omega
/-- lowered by 1 where they are above a gap -/
theorem gw_down {own ls : List Int} {h t : Int} {p : Pk} (ne : own ≠ []) (hr : ∀ y ∈ own, 0 ≤ y ∧ y < ls.length) (hp : ∀ y < ls.length, p y = decide (t < ls.getD y 0)) (gap : ∀ y < ls.length, ls.getD y 0 ≠ t) :
    gw own h (upS (-1) p ls) ≤ gw own h ls + b1 (insP p own) := by
  have wr : ∀ y ∈ own, wrtI h (upS (-1) p ls) y = wrtI h ls y + b1 (p y.toNat) := fun y hy => by
    rw [wrt_up (hr y hy).1 (hr y hy).2]; omega
  refine gw_top ne fun y hy => ?_
  rw [wr y hy]
  have g := gw_ge (ls := ls) (h := h) hy
  by_cases hc : insP p own = true
  · rw [hc]
    have := b1_nn (p y.toNat)
    have b11 : b1 true = 1 := rfl
    omega
  · have hc' : insP p own = false := by simpa using hc
    rw [hc']
    have b10 : b1 false = 0 := rfl
    have b11 : b1 true = 1 := rfl
    have : ∃ z ∈ own, p z.toNat = false := by
      unfold insP at hc'
      rw [List.all_eq_false] at hc'
      obtain ⟨y, hy, q⟩ := hc'
      exact ⟨y, hy, by simpa using q⟩
    obtain ⟨z, hz, q⟩ := this
    have zr := hr z hz
    have yr := hr y hy
    rw [hp _ (by omega)] at q
    have q' := of_decide_eq_false q
    have gz := gap z.toNat (by omega)
    have g2 := gw_ge (ls := ls) (h := h) hz
    cases py : p y.toNat with
    | false => omega
    | true =>
      rw [hp _ (by omega)] at py
      have py' := of_decide_eq_true py
      unfold wrtI at g2 ⊢
      have a1 : (0 : Int) ≤ if z = h then 1 else 0 := by split <;> decide
      have a2 : (if y = h then (1 : Int) else 0) ≤ 1 := by split <;> decide
      omega
theorem bv_cons {own : List Int} {C : List (List Int)} {h : Int} {f ls : List Int} : bvL (own :: C) (h :: f) ls = bvI own h ls :: bvL C f ls := rfl
theorem gwS_cons {own : List Int} {C : List (List Int)} {h : Int} {f ls : List Int} : gwS (own :: C) (h :: f) ls = gw own h ls + gwS C f ls := by simp [gwS]
theorem gwS_step {p : Pk} {ls : List Int} : ∀ {C : List (List Int)} {f : List Int}, C.length = f.length → [] ∉ C → Rng C ls.length → gwS C f (upS 1 p ls) = gwS C f ls - cfP (bvL C f ls) p
  | [], [], _, _, _ => by simp [gwS, bvL, cfP]
  | own :: C, h :: f, hl, ne, hr => by
    have ih := gwS_step (p := p) (ls := ls) (C := C) (f := f) (by simpa using hl) (fun z => ne (List.mem_cons_of_mem _ z)) fun o ho => hr o (List.mem_cons_of_mem _ ho)
    rw [gwS_cons, gwS_cons, bv_cons, cf_cons, ih, gw_step (fun z => ne (by rw [z]; exact List.mem_cons_self)) (hr own List.mem_cons_self)]
    omega
  | [], _ :: _, h, _, _ => by simp at h
  | _ :: _, [], h, _, _ => by simp at h
theorem gwS_down {t : Int} {p : Pk} {ls : List Int} (hp : ∀ y < ls.length, p y = decide (t < ls.getD y 0)) (gap : ∀ y < ls.length, ls.getD y 0 ≠ t) : ∀ {C : List (List Int)} {f : List Int}, C.length = f.length → [] ∉ C → Rng C ls.length → gwS C f (upS (-1) p ls) ≤ gwS C f ls + cfP C p
  | [], [], _, _, _ => by simp [gwS, cfP]
  | own :: C, h :: f, hl, ne, hr => by
    have ih := gwS_down hp gap (C := C) (f := f) (by simpa using hl) (fun z => ne (List.mem_cons_of_mem _ z)) fun o ho => hr o (List.mem_cons_of_mem _ ho)
    have := gw_down (h := h) (fun z => ne (by rw [z]; exact List.mem_cons_self)) (hr own List.mem_cons_self) hp gap
    rw [gwS_cons, gwS_cons, cf_cons]
    omega
  | [], _ :: _, h, _, _ => by simp at h
  | _ :: _, [], h, _, _ => by simp at h
theorem bnd_step {as f ls : List Int} {C : List (List Int)} {p : Pk} (hl : C.length = f.length) (ne : [] ∉ C) (hr : Rng C ls.length) (ha : as.length = ls.length) : bnd as f C (upS 1 p ls) = bnd as f C ls + rmP as p - cfP (bvL C f ls) p := by
  unfold bnd
  rw [zs_up 1 p ha, gwS_step hl ne hr]
  omega
theorem bv_rng {C : List (List Int)} {f ls : List Int} {n : Nat} (h : Rng C n) : Rng (bvL C f ls) n := fun own ho y hy => by
  obtain ⟨p, hp, rfl⟩ := List.mem_map.mp ho
  exact h p.1 (List.of_mem_zip hp).1 y (mem_bvI.mp hy).1
theorem bv_len {C : List (List Int)} {f ls : List Int} (h : C.length = f.length) : (bvL C f ls).length = C.length := by simp [bvL, h]
theorem bv_mns {C : List (List Int)} {f ls : List Int} {n : Nat} (hl : C.length = f.length) (h : Mns C n) : Mns (bvL C f ls) n := ⟨bv_rng h.rng, by rw [bv_len hl]; exact h.len, fun own ho => by
  obtain ⟨p, hp, rfl⟩ := List.mem_map.mp ho
  exact Nat.le_trans (List.length_filter_le ..) (h.own p.1 (List.of_mem_zip hp).1)⟩
theorem bv_pw {C : List (List Int)} {f ls : List Int} (h : ∀ own ∈ C, own.Pairwise (· < ·)) : ∀ own ∈ bvL C f ls, own.Pairwise (· < ·) := fun own ho => by
  obtain ⟨p, hp, rfl⟩ := List.mem_map.mp ho
  exact (h p.1 (List.of_mem_zip hp).1).filter _
/-- what is added up: the worth beyond what is kept, 0 exactly if each bucket has what is worth most to it -/
theorem slack {ls : List Int} : ∀ {C : List (List Int)} {f r : List Int}, C.length = f.length → r.length = f.length → (∀ k < r.length, r.getD k 0 ∈ C.getD k []) →
    (((f.length : Int) - zs ne1 f r = gwS C f ls + (r.map fun y => ls.getD y.toNat 0).sum) ↔ ∀ k < r.length, r.getD k 0 ∈ (bvL C f ls).getD k [])
  | [], [], [], _, _, _ => by simp [gwS, zs]
  | own :: C, h :: f, y :: r, h1, h2, hm => by
    have mt : ∀ k < r.length, r.getD k 0 ∈ C.getD k [] := fun k hk => by have := hm (k + 1) (by simpa using hk); simpa using this
    have ih := slack (ls := ls) (C := C) (f := f) (r := r) (by simpa using h1) (by simpa using h2) mt
    have kl := kept_le (ls := ls) (C := C) (f := f) (r := r) (by simpa using h1) (by simpa using h2) mt
    have m0 : y ∈ own := by have := hm 0 (by simp); simpa using this
    have g := gw_ge (ls := ls) (h := h) m0
    have en : ne1 h y = if h = y then 0 else 1 := rfl
    have hd : (∀ k < (y :: r).length, (y :: r).getD k 0 ∈ (bvL (own :: C) (h :: f) ls).getD k []) ↔ y ∈ bvI own h ls ∧ ∀ k < r.length, r.getD k 0 ∈ (bvL C f ls).getD k [] := by
      rw [bv_cons]
      constructor
      · intro w
        refine ⟨by have := w 0 (by simp); simpa using this, fun k hk => by have := w (k + 1) (by simpa using hk); simpa using this⟩
      · rintro ⟨w0, w⟩ k hk
        cases k with
        | zero => simpa using w0
        | succ k => simpa using w k (by simpa using hk)
    rw [hd, ← ih, mem_bvI, zs_cons, gwS_cons, en, List.map_cons, List.sum_cons, List.length_cons]
    unfold wrtI at g ⊢
    by_cases q : h = y
    · rw [if_pos q.symm] at g ⊢
      rw [if_pos q]
      constructor
      · intro w; exact ⟨⟨m0, by omega⟩, by omega⟩
      · rintro ⟨⟨_, w⟩, w2⟩; omega
    · rw [if_neg (show ¬ (y = h) from fun z => q z.symm)] at g ⊢
      rw [if_neg q]
      constructor
      · intro w; exact ⟨⟨m0, by omega⟩, by omega⟩
      · rintro ⟨⟨_, w⟩, w2⟩; omega
  | [], _ :: _, _, h, _, _ => by simp at h
  | _ :: _, [], _, h, _, _ => by simp at h
  | _, [], _ :: _, _, h, _ => by simp at h
  | _, _ :: _, [], _, h, _ => by simp at h
/-- a possible assignment keeps as many as the bound tells exactly if each bucket has what is worth most to it -/
theorem tight {as f r ls : List Int} {v b : Nat} {C : List (List Int)} (hC : C.length = b) (hf : f.length = b) (hl : ls.length = v) (hr : r ∈ psL as v b C) : ((b : Int) - zs ne1 f r = bnd as f C ls) ↔ r ∈ psL as v b (bvL C f ls) := by
  obtain ⟨h1, h2, h3, h4⟩ := (mem_psL (by omega)).mp hr
  have s := slack (ls := ls) (C := C) (f := f) (r := r) (by omega) (by omega) fun k hk => h4 k (by omega)
  rw [lev_sum hl h2, h3, hf] at s
  unfold bnd
  rw [Int.add_comm, s, mem_psL (by omega)]
  constructor
  · intro w; exact ⟨h1, h2, h3, fun k hk => w k (by omega)⟩
  · rintro ⟨_, _, _, w⟩ k hk; exact w k (by omega)
theorem ps_sub {as r ls f : List Int} {v b : Nat} {C : List (List Int)} (hC : C.length = b) (hf : f.length = b) (h : r ∈ psL as v b (bvL C f ls)) : r ∈ psL as v b C := by
  obtain ⟨h1, h2, h3, h4⟩ := (mem_psL (by omega)).mp h
  refine (mem_psL (by omega)).mpr ⟨h1, h2, h3, fun k hk => ?_⟩
  have := h4 k hk
  unfold bvL at this
  rw [List.getD_eq_getElem?_getD, List.getElem?_map, List.getElem?_eq_getElem (by rw [List.length_zip]; omega)] at this
  have w := (mem_bvI.mp this).1
  rw [List.getElem_zip] at w
  rw [List.getD_eq_getElem?_getD, List.getElem?_eq_getElem (by omega)]
  exact w
end Lm


namespace Lm
open PySem PySem.Spec PyProof.Rows L2

/-! ### the first levels -/
theorem vs_sizes : ∀ v < 6, (vsN v).Pairwise fun a b => a.length ≤ b.length := by decide +kernel
theorem sh_first {as : List Int} {C : List (List Int)} {s t : List Nat} (h5 : as.length ≤ 5) (h : shS as C = some s) (ht : t ∈ vsN as.length) (hl : t.length < s.length) : cfP C (inS t) ≤ roomI as t := by
  obtain ⟨_, as1, bs, e, hn⟩ := List.find?_eq_some_iff_append.mp h
  have pw := vs_sizes as.length (by omega)
  rw [e] at pw ht
  obtain ⟨_, p2, _⟩ := List.pairwise_append.mp pw
  have q := (List.pairwise_cons.mp p2).1
  rcases List.mem_append.mp ht with w | w
  · have := hn t w
    simp only [Bool.not_eq_true', decide_eq_false_iff_not] at this
    omega
  · rcases List.mem_cons.mp w with w | w
    · rw [w] at hl; omega
    · have := q t w; omega
theorem bv_point {own ls ms : List Int} {h : Int} {p q t : Pk} (le : ∀ y ∈ own, ls.getD y.toNat 0 ≤ ms.getD y.toNat 0) (hq : ∀ y ∈ own, p y.toNat = true → q y.toNat = false → ls.getD y.toNat 0 = ms.getD y.toNat 0)
    (ht : ∀ y ∈ own, p y.toNat = true → ls.getD y.toNat 0 = ms.getD y.toNat 0 → t y.toNat = true)
    (h1 : insP p (bvI own h ls) = true) (h2 : insP q (bvI own h ls) = false) : insP t (bvI own h ms) = true := by
  unfold insP at h2
  rw [List.all_eq_false] at h2
  obtain ⟨y, hy, qy⟩ := h2
  have qy : q y.toNat = false := by simpa using qy
  have hp := ins_iff.mp h1
  obtain ⟨my, ey⟩ := mem_bvI.mp hy
  have e := hq y my (hp y hy) qy
  have wle : ∀ z ∈ own, wrtI h ms z ≤ wrtI h ls z := fun z hz => by
    unfold wrtI
    have := le z hz
    omega
  have wy : wrtI h ms y = wrtI h ls y := by unfold wrtI; rw [e]
  have g1 : gw own h ms ≤ gw own h ls := gw_top (fun z => by rw [z] at my; cases my) fun z hz => by
    have a := wle z hz
    have b := gw_ge (ls := ls) (h := h) hz
    omega
  have g2 := gw_ge (ls := ms) (h := h) my
  refine ins_iff.mpr fun z hz => ?_
  obtain ⟨mz, ez⟩ := mem_bvI.mp hz
  have a := wle z mz
  have b := gw_ge (ls := ls) (h := h) mz
  have best : z ∈ bvI own h ls := mem_bvI.mpr ⟨mz, by omega⟩
  refine ht z mz (hp z best) ?_
  have : wrtI h ms z = wrtI h ls z := by omega
  unfold wrtI at this
  omega
theorem bv_count {ls ms : List Int} {p q t : Pk} : ∀ {C : List (List Int)} {f : List Int}, C.length = f.length → (∀ own ∈ C, ∀ y ∈ own, ls.getD y.toNat 0 ≤ ms.getD y.toNat 0) → (∀ own ∈ C, ∀ y ∈ own, p y.toNat = true → q y.toNat = false → ls.getD y.toNat 0 = ms.getD y.toNat 0) →
    (∀ own ∈ C, ∀ y ∈ own, p y.toNat = true → ls.getD y.toNat 0 = ms.getD y.toNat 0 → t y.toNat = true) → cfP (bvL C f ls) p ≤ cfP (bvL C f ls) q + cfP (bvL C f ms) t
  | [], [], _, _, _, _ => by simp [bvL, cfP]
  | own :: C, h :: f, hl, le, hq, ht => by
    have ih := bv_count (p := p) (q := q) (t := t) (C := C) (f := f) (by simpa using hl) (fun o ho => le o (List.mem_cons_of_mem _ ho)) (fun o ho => hq o (List.mem_cons_of_mem _ ho)) fun o ho => ht o (List.mem_cons_of_mem _ ho)
    rw [bv_cons, bv_cons, cf_cons, cf_cons, cf_cons]
    have n1 := b1_nn (insP q (bvI own h ls))
    have n2 := b1_nn (insP t (bvI own h ms))
    have n3 := b1_nn (insP p (bvI own h ls))
    have b11 : b1 true = 1 := rfl
    have b10 : b1 false = 0 := rfl
    cases e1 : insP p (bvI own h ls) with
    | false => omega
    | true =>
      cases e2 : insP q (bvI own h ls) with
      | true => omega
      | false =>
        have := bv_point (h := h) (le own List.mem_cons_self) (hq own List.mem_cons_self) (ht own List.mem_cons_self) e1 e2
        rw [this]
        omega
  | [], _ :: _, h, _, _, _ => by simp at h
  | _ :: _, [], h, _, _, _ => by simp at h
theorem nodup_lt {s t : List Nat} {y : Nat} (nd : t.Nodup) (sub : ∀ x ∈ t, x ∈ s) (hy : y ∈ s) (hn : y ∉ t) : t.length < s.length := by
  have := nodup_sub (l := y :: t) (m := s) (List.nodup_cons.mpr ⟨hn, nd⟩) fun x hx => by
    rcases List.mem_cons.mp hx with q | q
    · rw [q]; exact hy
    · exact sub x q
  rw [List.length_cons] at this
  omega
/-- a smallest set that is too small is raised below all levels that reach the bound -/
theorem below {as f ls ms : List Int} {C : List (List Int)} {s : List Nat} (h5 : as.length ≤ 5) (hl : C.length = f.length) (hr : Rng C as.length) (l1 : ls.length = as.length) (h : shS as (bvL C f ls) = some s) (hall : Hall as (bvL C f ms))
    (le : ∀ y < as.length, ls.getD y 0 ≤ ms.getD y 0) : ∀ y < as.length, (upS 1 (inS s) ls).getD y 0 ≤ ms.getD y 0 := by
  intro y hy
  rw [upS_get (by omega)]
  have a := le y hy
  by_cases ys : inS s y = true
  · by_cases eq : ls.getD y 0 = ms.getD y 0
    · exfalso
      obtain ⟨hs, short⟩ := sh_some h
      obtain ⟨t, et⟩ : ∃ t : List Nat, t = (List.range as.length).filter fun x => inS s x && !decide (ls.getD x 0 = ms.getD x 0) := ⟨_, rfl⟩
      have tv : t ∈ vsN as.length := by rw [et]; exact vs_filter ..
      have mt : ∀ x, x ∈ t ↔ x < as.length ∧ (x ∈ s ∧ ls.getD x 0 ≠ ms.getD x 0) := fun x => by
        rw [et, List.mem_filter, List.mem_range, Bool.and_eq_true]
        unfold inS
        rw [decide_eq_true_iff, Bool.not_eq_true', decide_eq_false_iff_not]
      have lt : t.length < s.length := nodup_lt (by rw [et]; exact List.nodup_range.filter _) (fun x hx => ((mt x).mp hx).2.1) (show y ∈ s from of_decide_eq_true ys) fun w => ((mt y).mp w).2.2 eq
      have few := sh_first h5 h tv lt
      rw [room_rm tv] at few
      rw [room_rm hs] at short
      have up := bv_count (ls := ls) (ms := ms) (p := inS s) (q := inS t) (t := fun x => inS s x && decide (ls.getD x 0 = ms.getD x 0)) (C := C) (f := f) hl (fun own ho z hz => by
          have := hr own ho z hz
          exact le _ (by omega)) (fun own ho z hz p1 q1 => by
          have zr := hr own ho z hz
          apply Decidable.byContradiction
          intro ne
          have : inS t z.toNat = true := decide_eq_true ((mt _).mpr ⟨by omega, of_decide_eq_true p1, ne⟩)
          rw [this] at q1; cases q1) (fun own ho z hz p1 e1 => by
          show (inS s z.toNat && decide _) = true
          rw [p1, decide_eq_true e1]; rfl)
      have ha := hall fun x => inS s x && decide (ls.getD x 0 = ms.getD x 0)
      have parts : rmP as (inS s) = rmP as (inS t) + rmP as fun x => inS s x && decide (ls.getD x 0 = ms.getD x 0) := by
        unfold rmP
        rw [← sumM_add]
        congr 1
        refine List.map_congr_left fun x hx => ?_
        have hx := List.mem_range.mp hx
        by_cases m : x ∈ s
        · have e1 : inS s x = true := decide_eq_true m
          by_cases e : ls.getD x 0 = ms.getD x 0
          · have e2 : inS t x = false := decide_eq_false fun w => ((mt x).mp w).2.2 e
            simp only [e1, e2, decide_eq_true e]; simp
          · have e2 : inS t x = true := decide_eq_true ((mt x).mpr ⟨hx, m, e⟩)
            simp only [e1, e2, decide_eq_false e]; simp
        · have e1 : inS s x = false := decide_eq_false m
          have e2 : inS t x = false := decide_eq_false fun w => m ((mt x).mp w).2.1
          simp only [e1, e2]; simp
      omega
    · have := b1_nn (inS s y)
      omega
  · have e : inS s y = false := by simpa using ys
    rw [e]
    show ls.getD y 0 + 1 * 0 ≤ _
    omega
/-- what the levels of a setting speak of -/
structure LvOk (as f : List Int) (C : List (List Int)) (v b : Nat) : Prop where
  asl : as.length = v
  fl : f.length = b
  cl : C.length = b
  mns : Mns C v
  pw : ∀ own ∈ C, own.Pairwise (· < ·)
  v5 : v ≤ 5
  b20 : b ≤ 20
  alc : Alc as (v : Int) (b : Int)
variable {as f : List Int} {C : List (List Int)} {v b : Nat}
theorem LvOk.hall_ps (h : LvOk as f C v b) : Hall as C ↔ ∃ r, r ∈ psL as v b C := by
  have hr : Rng C as.length := by rw [h.asl]; exact h.mns.rng
  have sum : as.sum = C.length := by rw [h.alc.sum, h.cl]
  constructor
  · intro ha
    exact ⟨_, (mem_ps h.asl h.cl h.mns.rng).mpr (grd_fit hr ha sum)⟩
  · rintro ⟨r, hm⟩
    exact fit_hall hr ((mem_ps h.asl h.cl h.mns.rng).mp hm)
theorem LvOk.bv (h : LvOk as f C v b) (ls : List Int) : LvOk as f (bvL C f ls) v b := ⟨h.asl, h.fl, by rw [bv_len (by rw [h.cl, h.fl]), h.cl], bv_mns (by rw [h.cl, h.fl]) h.mns, bv_pw h.pw, h.v5, h.b20, h.alc⟩
theorem zs_b : ∀ {f r : List Int}, f.length = r.length → 0 ≤ zs ne1 f r ∧ zs ne1 f r ≤ f.length
  | [], [], _ => by simp [zs]
  | x :: f, y :: r, h => by
    have := zs_b (f := f) (r := r) (by simpa using h)
    have e : ne1 x y = if x = y then 0 else 1 := rfl
    rw [zs_cons, e, List.length_cons]
    split <;> omega
  | [], _ :: _, h => by simp at h
  | _ :: _, [], h => by simp at h
theorem LvOk.no_nil (h : LvOk as f C v b) (ha : Hall as C) : [] ∉ C := by
  obtain ⟨r, hr⟩ := h.hall_ps.mp ha
  exact (weak (ls := List.replicate v 0) h.cl h.fl (by simp) hr).1
theorem LvOk.nn (h : LvOk as f C v b) (ha : Hall as C) {ls : List Int} (hl : ls.length = v) : 0 ≤ bnd as f C ls := by
  obtain ⟨r, hr⟩ := h.hall_ps.mp ha
  have w := (weak (ls := ls) h.cl h.fl hl hr).2
  have rl := ((mem_psL (by omega)).mp hr).1
  have z := zs_b (f := f) (r := r) (by rw [h.fl, rl])
  have := h.fl
  unfold bnd
  omega
theorem LvOk.step (h : LvOk as f C v b) (ha : Hall as C) {ls : List Int} {s : List Nat} (hl : ls.length = v) (hs : shS as (bvL C f ls) = some s) : bnd as f C (upS 1 (inS s) ls) < bnd as f C ls := by
  rw [bnd_step (by rw [h.cl, h.fl]) (h.no_nil ha) (by rw [hl]; exact h.mns.rng) (by rw [h.asl, hl])]
  obtain ⟨h1, h2⟩ := sh_some hs
  rw [room_rm h1] at h2
  omega
/-- the first levels: as few as can be, and by them each bucket can have what is worth most to it -/
structure Lev (as f : List Int) (C : List (List Int)) (v : Nat) (ls : List Int) : Prop where
  len : ls.length = v
  rng : ∀ y < v, 0 ≤ ls.getD y 0 ∧ ls.getD y 0 ≤ 100
  hall : Hall as (bvL C f ls)
  least : ∀ ms : List Int, ms.length = v → (∀ y < v, 0 ≤ ms.getD y 0) → Hall as (bvL C f ms) → ∀ y < v, ls.getD y 0 ≤ ms.getD y 0
theorem Lev.best (h : LvOk as f C v b) {ls : List Int} (l : Lev as f C v ls) : ∃ r, r ∈ psL as v b (bvL C f ls) ∧ r ∈ psL as v b C ∧ (b : Int) - zs ne1 f r = bnd as f C ls := by
  obtain ⟨r, hr⟩ := (h.bv ls).hall_ps.mp l.hall
  have hr2 := ps_sub h.cl h.fl hr
  exact ⟨r, hr, hr2, (tight h.cl h.fl l.len hr2).mpr hr⟩
/-- levels by which the bound is reached are levels by which each bucket can have what is worth most to it -/
theorem reach_hall (h : LvOk as f C v b) {ms r : List Int} (ml : ms.length = v) (hr : r ∈ psL as v b C) (e : (b : Int) - zs ne1 f r = bnd as f C ms) : Hall as (bvL C f ms) :=
  (h.bv ms).hall_ps.mpr ⟨r, (tight h.cl h.fl ml hr).mp e⟩
/-- there is no gap in the first levels -/
theorem Lev.gap (h : LvOk as f C v b) {ls : List Int} (l : Lev as f C v ls) {t : Int} (t0 : 0 ≤ t) {y : Nat} (hy : y < v) (hb : t < ls.getD y 0) : ∃ z < v, ls.getD z 0 = t := by
  apply Decidable.byContradiction
  intro no
  have gap : ∀ z < ls.length, ls.getD z 0 ≠ t := fun z hz e => no ⟨z, by rw [← l.len]; exact hz, e⟩
  obtain ⟨r, hr1, hr, e⟩ := l.best h
  have ha : Hall as C := h.hall_ps.mpr ⟨r, hr⟩
  obtain ⟨p, ep⟩ : ∃ p : Pk, p = fun y => decide (t < ls.getD y 0) := ⟨_, rfl⟩
  have ul : (upS (-1) p ls).length = v := by rw [upS_len]; exact l.len
  have down := gwS_down (t := t) (p := p) (ls := ls) (fun y _ => by rw [ep]) gap (C := C) (f := f) (by rw [h.cl, h.fl]) (h.no_nil ha) (by rw [l.len]; exact h.mns.rng)
  have w := (weak (ls := upS (-1) p ls) h.cl h.fl ul hr).2
  have z := zs_up (as := as) (ls := ls) (-1) p (by rw [h.asl, l.len])
  have hp := ha p
  have e2 : (b : Int) - zs ne1 f r = bnd as f C (upS (-1) p ls) := by
    unfold bnd at e ⊢
    omega
  have le := l.least _ ul (fun x hx => by
    rw [upS_get (by rw [l.len]; exact hx)]
    have r0 := (l.rng x hx).1
    have : p x = decide (t < ls.getD x 0) := by rw [ep]
    rw [this]
    by_cases q : t < ls.getD x 0
    · rw [decide_eq_true q]; show 0 ≤ ls.getD x 0 + -1 * 1; omega
    · rw [decide_eq_false q]; show 0 ≤ ls.getD x 0 + -1 * 0; omega) (reach_hall h ul hr e2) y hy
  rw [upS_get (by rw [l.len]; exact hy)] at le
  have : p y = decide (t < ls.getD y 0) := by rw [ep]
  rw [this, decide_eq_true hb] at le
  have : ls.getD y 0 ≤ ls.getD y 0 + -1 * 1 := le
  omega
theorem Lev.lt (h : LvOk as f C v b) {ls : List Int} (l : Lev as f C v ls) : ∀ x ∈ ls, 0 ≤ x ∧ x < (v : Int) := by
  intro x hx
  obtain ⟨y, hy⟩ := List.getElem?_of_mem hx
  have yl := (List.getElem?_eq_some_iff.mp hy).1
  have e : ls.getD y 0 = x := by rw [List.getD_eq_getElem?_getD, hy]; rfl
  have yv : y < v := by rw [← l.len]; exact yl
  have r0 := l.rng y yv
  refine ⟨by omega, ?_⟩
  have := nodup_sub (l := (List.range (x.toNat + 1)).map fun (i : Nat) => (i : Int)) (m := ls) (List.Pairwise.map _ (fun a b ne z => ne (by omega)) List.nodup_range) fun t ht => by
    obtain ⟨i, hi, rfl⟩ := List.mem_map.mp ht
    have hi := List.mem_range.mp hi
    by_cases q : (i : Int) = x
    · rw [q]; exact hx
    · obtain ⟨z, hz, ez⟩ := l.gap h (t := (i : Int)) (by omega) yv (by omega)
      rw [← ez]
      exact gd_mem (by rw [l.len]; exact hz)
  rw [List.length_map, List.length_range, l.len] at this
  omega
end Lm


namespace Lm
open PySem PySem.Spec PyProof.Rows L2

/-! ### promises of keeping.py, for up to 20 buckets -/
structure ExcW (as f : List Int) (F P : List (List Int)) (v b : Nat) : Prop where
  v1 : 1 ≤ v
  v5 : v ≤ 5
  b6 : b ≤ 20
  asg : Asg f (v : Int)
  len : f.length = b
  alc : Alc as (v : Int) (b : Int)
  prd : Prd F v b
  pin : Pin P v b
theorem Exc.w {as f : List Int} {F P : List (List Int)} {v b : Nat} (h : Exc as f F P v b) : ExcW as f F P v b := ⟨h.v1, h.v5, by have := h.b6; omega, h.asg, h.len, h.alc, h.prd, h.pin⟩
variable {as f : List Int} {C : List (List Int)} {v b : Nat}
end Lm


namespace Lm
open PySem PySem.Spec PyProof.Rows L2
variable {as f : List Int} {C : List (List Int)} {v b : Nat}
theorem Prd.sub {F F' : List (List Int)} (h : Prd F v b) (s : F'.Sublist F) : Prd F' v b :=
  ⟨fun r hr => h.row r (s.subset hr), h.asc.sublist s, Nat.le_trans s.length_le h.len⟩
theorem Pin.sub {F F' : List (List Int)} (h : Pin F v b) (s : F'.Sublist F) : Pin F' v b :=
  ⟨h.toPrd.sub s, h.fst.sublist s⟩
theorem mn_is {l : List Int} {m : Int} (hm : m ∈ l) (le : ∀ x ∈ l, m ≤ x) : mnL l = m := by
  have a := mnL_le (ns := l) m hm
  have b := le _ (mnL_mem (ns := l) (List.length_pos_of_mem hm))
  omega
end Lm


namespace Lm
open PySem PySem.Spec PyProof.Rows L2
section
variable {c : Ct} {H H' H0 H1 H2 H3 : Hp} {O : List Addr} {σ : L2.St} {Γ Γ' : List (Option Rs)} {te ta tx : TE} {k : Kd} {u : TS} {P : Out → Prop} {n : Nat} {x : PyData}
/-! ### where no list of one's own is alive, what a call answers may be kept, lists in it too -/
def bareB : List (Option Rs) → Bool
  | [] => true
  | some (.o _) :: _ => false
  | none :: Γ => bareB Γ
  | some (.v _) :: Γ => bareB Γ
  | some (.r _) :: Γ => bareB Γ
  | some (.d _) :: _ => false
  | some (.w _) :: _ => false
theorem Reps.bare {fp : List Addr} (h : Reps c O H σ Γ fp) : bareB Γ = true → Reps c [] H σ Γ [] := by
  induction h with
  | nil => intro _; exact .nil
  | @cons x s f fs σ Γ a b ih =>
    intro hb
    cases s with
    | none => exact .cons (f := []) (fs := []) rfl (ih hb)
    | some s =>
      cases s with
      | o d => cases hb
      | d u => cases hb
      | w ds => cases hb
      | v d =>
        obtain ⟨_, v, hv, bo⟩ := a
        exact .cons (f := []) (fs := []) ⟨rfl, v, hv, by rw [mns_nil]; exact Bo.same mns_same bo⟩ (ih hb)
      | r y => exact .cons (f := []) (fs := []) ⟨rfl, a.2⟩ (ih hb)
theorem Env.bare (e : Env c H0 O H σ Γ) (hb : bareB Γ = true) : Env c H0 [] H σ Γ := by
  obtain ⟨fp, hr, _, _⟩ := e.rep
  exact ⟨by rw [mns_nil]; exact e.rH, by rw [mns_nil]; exact e.jH, (fun a h => nomatch h), (fun a h => nomatch h), [], hr.bare hb, List.nodup_nil, fun a h => nomatch h⟩
end

/-! ### any evidence (k80) -/
end Lm


namespace Lm
open PySem PySem.Spec PyProof.Rows L2

/-! ### buckets and variants renamed in a setting -/
structure RnS (as as' : List Int) (C C' : List (List Int)) (v b : Nat) (os io nm im : List Int) : Prop where
  o : IsOrd os (b : Int)
  oi : IsOrd io (b : Int)
  q : IsOrd nm (v : Int)
  qi : IsOrd im (v : Int)
  o1 : ∀ k < b, gI io (gI os ((k : Nat) : Int)) = (k : Int)
  o2 : ∀ k < b, gI os (gI io ((k : Nat) : Int)) = (k : Int)
  q1 : ∀ k < v, gI im (gI nm ((k : Nat) : Int)) = (k : Int)
  q2 : ∀ k < v, gI nm (gI im ((k : Nat) : Int)) = (k : Int)
  al : as.length = v
  al' : as'.length = v
  cl : C.length = b
  cl' : C'.length = b
  rg : Rng C v
  rg' : Rng C' v
  sh : ∀ y < v, gI as' (gI nm ((y : Nat) : Int)) = gI as (y : Int)
  mn : ∀ k < b, ∀ y < v, (gI nm ((y : Nat) : Int) ∈ C'.getD (gI os ((k : Nat) : Int)).toNat [] ↔ (y : Int) ∈ C.getD k [])
section
variable {as as' f f' os io nm im : List Int} {C C' : List (List Int)} {v b : Nat}
theorem ord_nat {os : List Int} {m : Nat} (o : IsOrd os (m : Int)) {k : Nat} (hk : k < m) : ∃ j : Nat, gI os (k : Int) = (j : Int) ∧ j < m := by
  have r := o.rng _ (gd_mem (l := os) (j := k) (by have := o.len; omega))
  exact ⟨(os.getD k 0).toNat, by show os.getD k 0 = _; omega, by omega⟩
theorem RnS.symm (h : RnS as as' C C' v b os io nm im) : RnS as' as C' C v b io os im nm := by
  refine ⟨h.oi, h.o, h.qi, h.q, h.o2, h.o1, h.q2, h.q1, h.al', h.al, h.cl', h.cl, h.rg', h.rg, fun y hy => ?_, fun k hk y hy => ?_⟩
  · obtain ⟨z, ez, hz⟩ := ord_nat h.qi hy
    have := h.sh z hz
    rw [← ez, h.q2 y hy] at this
    exact this.symm
  · obtain ⟨z, ez, hz⟩ := ord_nat h.qi hy
    obtain ⟨j, ej, hj⟩ := ord_nat h.oi hk
    have := h.mn j hj z hz
    rw [← ez, ← ej, h.q2 y hy, h.o2 k hk, Int.toNat_natCast, ez] at this
    rw [ez, ej, Int.toNat_natCast]
    exact this.symm
end
end Lm


namespace Lm
open PySem PySem.Spec PyProof.Rows L2
/-! ### a def that answers or raises -/
theorem fn_or {P : Program} {w : World} {K : PySem.W.Frag} {mg : Str → Option Value} {base : Heap} {CX : CXT} {k : Nat} {f : Addr} {fd : FuncData} {ps : List Str} {sp sp' : Sp} (F : FnOk P w K mg base CX k f fd ps sp) (G : FnOk P w K mg base CX k f fd ps sp') :
    FnOk P w K mg base CX k f fd ps (fun vs H Q E => sp vs H Q E ∨ sp' vs H Q E) :=
  ⟨fun vs H Q E h => h.elim (F.len vs H Q E) (G.len vs H Q E), fun A outer s H args us vs Q E hr he hb hv hs => hs.elim (F.run A outer s H args us vs Q E hr he hb hv) (G.run A outer s H args us vs Q E hr he hb hv)⟩
end Lm


/-! itertools.permutations(range(n), k), walked -/
namespace PrmK
open PySem PySem.Spec PyProof.Rows L2
theorem mro_c : mroOf (.type "itertools.permutations") = pure [.type "itertools.permutations", .type "object"] := by rw [mroOf_type]; kernel_rfl
theorem new_c : typeLookup (.type "itertools.permutations") "__new__" = pure (some (.builtin "itertools.permutations.__new__")) := by rw [typeLookup_type, builtinLookup_eq_fast]; kernel_rfl
theorem init_c : Slot "itertools.permutations" "__init__" "object.__init__" :=
  .of (owner := "object") (n := "__init__") (by rw [typeLookup_type, builtinLookup_eq_fast]; kernel_rfl) (by decide +kernel) (by decide +kernel) (by decide +kernel) (by first | exact .inl (by decide +kernel) | exact .inr (by decide +kernel)) (by rw [isSubtype_type]; kernel_rfl)
theorem sub_c : isSubtype (.type "itertools.permutations") (.type "itertools.permutations") = pure true := by rw [isSubtype_type]; kernel_rfl
theorem called_c : TypeCalled "itertools.permutations" "itertools.permutations.__new__" "object.__init__" :=
  ⟨by decide +kernel, by decide +kernel, ⟨_, _, mro_c⟩, madeBy_type mro_c new_c (by decide +kernel), by decide +kernel, sub_c, init_c⟩
theorem tcall_1 (a : Value) : checkTypeCall "itertools.permutations" ⟨[a], []⟩ = pure () := by kernel_rfl
theorem ncall_1 (a : Value) : checkBuiltinCall "itertools.permutations.__new__" ⟨[.type "itertools.permutations", a], []⟩ = pure () := by kernel_rfl
theorem entryN_c : entryFor table "itertools.permutations.__new__" = some Builtin.«itertools.permutations.__new__» := entryFor_of_tree (by kernel_rfl)
theorem iter_c : Slot "itertools.permutations" "__iter__" "itertools.permutations.__iter__" :=
  .of (owner := "itertools.permutations") (n := "__iter__") (by rw [typeLookup_type, builtinLookup_eq_fast]; kernel_rfl) (by decide +kernel) (by decide +kernel) (by decide +kernel) (by first | exact .inl (by decide +kernel) | exact .inr (by decide +kernel)) sub_c
theorem next_c : Slot "itertools.permutations" "__next__" "itertools.permutations.__next__" :=
  .of (owner := "itertools.permutations") (n := "__next__") (by rw [typeLookup_type, builtinLookup_eq_fast]; kernel_rfl) (by decide +kernel) (by decide +kernel) (by decide +kernel) (by first | exact .inl (by decide +kernel) | exact .inr (by decide +kernel)) sub_c
theorem entryI_c : entryFor table "itertools.permutations.__iter__" = some Builtin.«dict_keyiterator.__iter__» :=
  entryFor_alias (id' := "dict_keyiterator.__iter__") (by kernel_rfl) (by first | rfl | decide +kernel | (unfold String.splitOn; simp +decide [String.splitOnAux])) (by decide +kernel) (by kernel_rfl)
theorem entryX_c : entryFor table "itertools.permutations.__next__" = some Builtin.«itertools.permutations.__next__» := entryFor_of_tree (by kernel_rfl)
theorem owner_c : Manifest.owners.lookup (String.ofList "itertools.permutations".toList.reverse.reverse) = some Manifest.sig_itertools_permutations := by kernel_rfl
theorem argsI_c (a : Value) : argsOk "itertools.permutations.__iter__" ⟨[a], []⟩ := by
  unfold argsOk; rw [signature?_of (id := "itertools.permutations.__iter__") (n := "__iter__".toList.reverse) (o := "itertools.permutations".toList.reverse) (by kernel_rfl) owner_c]; kernel_rfl
theorem argsX_c (a : Value) : argsOk "itertools.permutations.__next__" ⟨[a], []⟩ := by
  unfold argsOk; rw [signature?_of (id := "itertools.permutations.__next__") (n := "__next__".toList.reverse) (o := "itertools.permutations".toList.reverse) (by kernel_rfl) owner_c]; kernel_rfl
theorem noDict_c : typeHasDict (.type "itertools.permutations") = false := by decide +kernel
/-- the iterator: its items' tuple, 0 before the first item, 1 behind it, 2 at the end; how many it picks; what it handed out; the places and how often each goes round -/
def cells (T : Addr) (st : Int) (r : Nat) (bf : Value) (ns : List Nat) : Array Value := ([.ref T, .int st 0, .int r 0, bf] ++ ns.map fun (i : Nat) => Value.int i 0).toArray
abbrev IsPrm (h : Heap) (it T : Addr) (st : Int) (r : Nat) (bf : Value) (ns : List Nat) : Prop := h.get? it = some { cls := .type "itertools.permutations", dict := none, data := .fields (cells T st r bf ns), slots := #[] }
/-- the places and turns that follow -/
def nxP (n : Nat) : Nat → List Nat → List Nat → Option (List Nat × List Nat)
  | 0, _, _ => none
  | p + 1, ix, cy => if cy.getD p 0 - 1 == 0 then nxP n p (ix.take p ++ ix.drop (p + 1) ++ [ix.getD p 0]) (cy.set p (n - p)) else
      some ((ix.set p (ix.getD (n - (cy.getD p 0 - 1)) 0)).set (n - (cy.getD p 0 - 1)) (ix.getD p 0), cy.set p (cy.getD p 0 - 1))
theorem nxP_uniq {f : Nat → Nat → List Nat → List Nat → Option (List Nat × List Nat)} (h0 : ∀ n ix cy, f n 0 ix cy = none)
    (h1 : ∀ n p ix cy, f n (p + 1) ix cy = if cy.getD p 0 - 1 == 0 then f n p (ix.take p ++ ix.drop (p + 1) ++ [ix.getD p 0]) (cy.set p (n - p)) else
      some ((ix.set p (ix.getD (n - (cy.getD p 0 - 1)) 0)).set (n - (cy.getD p 0 - 1)) (ix.getD p 0), cy.set p (cy.getD p 0 - 1))) (n : Nat) : ∀ (p : Nat) (ix cy : List Nat), f n p ix cy = nxP n p ix cy
  | 0, ix, cy => by rw [h0]; rfl
  | p + 1, ix, cy => by
    rw [h1]
    unfold nxP
    split
    · exact nxP_uniq h0 h1 n p _ _
    · rfl
end PrmK


/-! itertools.permutations(range(n), k): made, its turns -/
namespace PrmK
open PySem PySem.Spec PyProof.Rows L2
theorem cells_new (a : Addr) {n k : Nat} (hkn : k ≤ n) : ([Value.ref a, rawInt (if k > n then 2 else 0), rawInt k, .none] ++ (List.range n).map (fun (i : Nat) => rawInt i) ++ (List.range k).map fun (i : Nat) => rawInt ((n : Int) - i)).toArray = cells a (if n < k then 2 else 0) k .none (List.range n ++ (List.range k).map fun i => n - i) := by
  have e3 : ((List.range k).map fun (i : Nat) => rawInt ((n : Int) - i)) = ((List.range k).map fun i => n - i).map fun (i : Nat) => Value.int i 0 := by
    rw [List.map_map]
    refine List.map_congr_left fun i hi => ?_
    have := List.mem_range.mp hi
    have e : ((n - i : Nat) : Int) = (n : Int) - i := by omega
    show rawInt ((n : Int) - i) = Value.int ((n - i : Nat) : Int) 0
    rw [e]
    rfl
  have e4 : ((List.range n).map fun (i : Nat) => rawInt i) = (List.range n).map fun (i : Nat) => Value.int i 0 := rfl
  unfold cells
  rw [e3, e4, List.append_assoc, List.map_append]
  rfl
end PrmK


/-! itertools.permutations: its turns -/
namespace PrmK
open PySem PySem.Spec PyProof.Rows L2
theorem cells_st (T : Addr) (st st' : Int) (r : Nat) (bf : Value) (ns : List Nat) : (cells T st r bf ns).setIfInBounds 1 (.int st' 0) = cells T st' r bf ns := by
  unfold cells
  simp
theorem cells_bf (T : Addr) (st : Int) (r : Nat) (bf bf' : Value) (ns : List Nat) : (cells T st r bf ns).setIfInBounds 3 bf' = cells T st r bf' ns := by
  unfold cells
  simp
theorem cells_set (T : Addr) (st : Int) (r : Nat) (bf : Value) (ns ls : List Nat) : (cells T st r bf ns).extract 0 4 ++ (ls.map fun (n : Nat) => rawInt n).toArray = cells T st r bf ls := by
  unfold cells
  simp [rawInt]
/-- the items at these places -/
def picks (xs : Array Value) (ks : List Nat) : List Value := ks.map fun i => xs.getD i .none
section
variable {prog : Program} {w : World} {A : Around} {E : Value → Shared → Prop} {s : Shared} {it T : Addr} {bf : Value} {ns : List Nat} {r : Nat} {xs : Array Value}
theorem nums_from {st : Int} {Q : List Nat → Shared → Prop} (hz : IsPrm s.heap it T st r bf ns) (h : Q ns s) : wpAny (model prog w) A (Builtin.Itertools.itNumbersFrom (.ref it) 4) Q E s := by
  have key : ∀ l, l = ns → Q l s := fun l e => e ▸ h
  unfold Builtin.Itertools.itNumbersFrom
  refine wpAny_bind (wpAny_load hz (wpAny_pure (key _ ?_)))
  show List.map _ (ns.map fun (i : Nat) => Value.int i 0) = ns
  rw [List.map_map]
  conv => rhs; rw [← List.map_id ns]
  apply List.map_congr_left
  intro i _
  simp
/-- the items at the places, handed out -/
theorem hand_out {st : Int} {ls : List Nat} {Q : Value → Shared → Prop} (hz : IsPrm s.heap it T st r bf ns) (hT : s.heap.IsTuple T xs) (hl : ls.length ≤ 1000)
    (hQ : ∀ h', IsPrm h' it T st r (.ref s.heap.objs.size) ns → h'.get? s.heap.objs.size = some { cls := .type "tuple", data := .seq (picks xs ls).toArray } → h'.objs.size = s.heap.objs.size + 1 →
      (∀ c o, c ≠ it → s.heap.get? c = some o → h'.get? c = some o) → Q (.ref s.heap.objs.size) { s with heap := h' }) :
    wpAny (model prog w) A (newTuple (ls.map fun i => xs.getD i .none)) (fun result s1 => wpAny (model prog w) A (field (.ref it) 3 >>= fun before => setField (.ref it) 3 result >>= fun _ => letGo [before] [result] >>= fun _ => ret result) (fun fin s' => ∃ v, fin = .done (.ret v) ∧ Q v s') E s1) E s := by
  refine wpAny_newTuple ?_ (by rw [List.length_map, sizeLine_eq]; omega)
  have lt : it < s.heap.objs.size := Heap.lt_size hz
  have hz1 : IsPrm (s.heap.push { cls := .type "tuple", data := .seq (picks xs ls).toArray }) it T st r bf ns := Heap.get?_push_of_some _ hz
  refine wpAny_bind (wpAny_field hz1 rfl (x := bf) rfl ?_)
  refine wpAny_bind (wpAny_setField_rec hz1 (by simp [cells]) fun h2 hz2 hs2 => ?_)
  rw [cells_bf] at hz2
  refine wpAny_bind (wpAny_letGo (wpAny_pure ⟨_, rfl, ?_⟩))
  replace hs2 : Heap.SameBut it (s.heap.push { cls := .type "tuple", data := .seq (picks xs ls).toArray }) h2 := hs2
  refine hQ h2 hz2 (hs2.extBut _ _ (Nat.ne_of_gt lt) (Heap.get?_push_size _ rfl)) (by rw [hs2.1, Heap.size_push]) fun c o ce q => hs2.extBut _ _ ce (Heap.get?_push_of_some _ q)
theorem notT {st : Int} {h : Heap} (hz : IsPrm h it T st r bf ns) (hT : h.IsTuple T xs) : T ≠ it := fun e => by
  obtain ⟨o, ho, hc, _⟩ := id hT
  rw [e, hz] at ho
  cases ho
  simp at hc
theorem opt_some {α : Type} {o : Option (List Nat × List Nat)} {a b : List Nat} {F : List Nat → List Nat → Sem α} {G : Sem α} {Q : α → Shared → Prop} (h : o = some (a, b)) (k : wpAny (model prog w) A (F a b) Q E s) : wpAny (model prog w) A (match o with | some (x, y) => F x y | none => G) Q E s := by
  subst h; exact k
theorem opt_none {α : Type} {o : Option (List Nat × List Nat)} {F : List Nat → List Nat → Sem α} {G : Sem α} {Q : α → Shared → Prop} (h : o = none) (k : wpAny (model prog w) A G Q E s) : wpAny (model prog w) A (match o with | some (x, y) => F x y | none => G) Q E s := by
  subst h; exact k
/-- the first item -/
theorem turn_first {Q : Value → Shared → Prop} (hl : ns.length ≤ 2000) (hr : r ≤ 1000) (hz : IsPrm s.heap it T 0 r bf ns) (hT : s.heap.IsTuple T xs)
    (hQ : ∀ h', IsPrm h' it T 1 r (.ref s.heap.objs.size) ns → h'.get? s.heap.objs.size = some { cls := .type "tuple", data := .seq (picks xs (ns.take r)).toArray } → h'.objs.size = s.heap.objs.size + 1 →
      (∀ c o, c ≠ it → s.heap.get? c = some o → h'.get? c = some o) → Q (.ref s.heap.objs.size) { s with heap := h' }) :
    wpAny (model prog w) A (Builtin.«itertools.permutations.__next__» ⟨[.ref it], []⟩) (fun fin s' => ∃ v, fin = .done (.ret v) ∧ Q v s') E s := by
  have er : (Int.toNat ((r : Nat) : Int)) = r := Int.toNat_natCast r
  show wpAny _ _ (field (.ref it) 0 >>= _) _ _ s
  refine wpAny_bind (wpAny_field hz rfl (x := .ref T) rfl ?_)
  obtain ⟨o, ho, _, n, hd⟩ := id hT
  show wpAny _ _ (Builtin.Itertools.itPoolItems (.ref T) >>= _) _ _ s
  refine wpAny_bind (wpAny_bind (wpAny_seqItems ho hd (wpAny_pure ?_)))
  show wpAny _ _ (Builtin.Itertools.itIntField (.ref it) 2 >>= _) _ _ s
  refine wpAny_bind (wpAny_bind (wpAny_field hz rfl (x := .int r 0) rfl (wpAny_pure ?_)))
  show wpAny _ _ (Builtin.Itertools.itNumbersFrom (.ref it) 4 >>= _) _ _ s
  refine wpAny_bind (nums_from hz ?_)
  show wpAny _ _ (Builtin.Itertools.itIntField (.ref it) 1 >>= _) _ _ s
  refine wpAny_bind (wpAny_bind (wpAny_field hz rfl (x := .int 0 0) rfl (wpAny_pure ?_)))
  show wpAny _ _ (setField (.ref it) 1 (rawInt 1) >>= _) _ _ s
  refine wpAny_bind (wpAny_setField_rec hz (by simp [cells]) fun h1 hz1 hs1 => ?_)
  rw [show rawInt 1 = Value.int 1 0 from rfl, cells_st] at hz1
  replace hs1 : Heap.SameBut it s.heap h1 := hs1
  have hT1 : h1.IsTuple T xs := let ⟨o, ho, r⟩ := hT; ⟨o, hs1.extBut _ _ (notT hz hT) ho, r⟩
  show wpAny _ _ (newTuple ((ns.take (Int.toNat (r : Int))).map fun i => xs.getD i .none) >>= _) _ _ _
  rw [er]
  refine wpAny_bind ?_
  exact hand_out (s := { s with heap := h1 }) hz1 hT1 (by rw [List.length_take]; omega) fun h2 z2 t2 n2 k2 => by
    have n1 : h1.objs.size = s.heap.objs.size := hs1.1
    replace z2 : IsPrm h2 it T 1 r (.ref h1.objs.size) ns := z2
    replace t2 : h2.get? h1.objs.size = some { cls := .type "tuple", data := .seq (picks xs (ns.take r)).toArray } := t2
    replace n2 : h2.objs.size = h1.objs.size + 1 := n2
    show Q (.ref h1.objs.size) { s with heap := h2 }
    rw [n1] at z2 t2 n2 ⊢
    exact hQ h2 z2 t2 n2 fun c o ce q => k2 c o ce (hs1.extBut _ _ ce q)
/-- an item behind the first one -/
theorem turn_next {Q : Value → Shared → Prop} {ix cy : List Nat} (hl : ix.length ≤ 1000) (hc : cy.length ≤ 1000) (hr : r ≤ 1000) (hz : IsPrm s.heap it T 1 r bf ns) (hT : s.heap.IsTuple T xs) (hn : nxP xs.size r (ns.take xs.size) (ns.drop xs.size) = some (ix, cy))
    (hQ : ∀ h', IsPrm h' it T 1 r (.ref s.heap.objs.size) (ix ++ cy) → h'.get? s.heap.objs.size = some { cls := .type "tuple", data := .seq (picks xs (ix.take r)).toArray } → h'.objs.size = s.heap.objs.size + 1 →
      (∀ c o, c ≠ it → s.heap.get? c = some o → h'.get? c = some o) → Q (.ref s.heap.objs.size) { s with heap := h' }) :
    wpAny (model prog w) A (Builtin.«itertools.permutations.__next__» ⟨[.ref it], []⟩) (fun fin s' => ∃ v, fin = .done (.ret v) ∧ Q v s') E s := by
  have er : (Int.toNat ((r : Nat) : Int)) = r := Int.toNat_natCast r
  show wpAny _ _ (field (.ref it) 0 >>= _) _ _ s
  refine wpAny_bind (wpAny_field hz rfl (x := .ref T) rfl ?_)
  obtain ⟨o, ho, _, n, hd⟩ := id hT
  show wpAny _ _ (Builtin.Itertools.itPoolItems (.ref T) >>= _) _ _ s
  refine wpAny_bind (wpAny_bind (wpAny_seqItems ho hd (wpAny_pure ?_)))
  show wpAny _ _ (Builtin.Itertools.itIntField (.ref it) 2 >>= _) _ _ s
  refine wpAny_bind (wpAny_bind (wpAny_field hz rfl (x := .int r 0) rfl (wpAny_pure ?_)))
  show wpAny _ _ (Builtin.Itertools.itNumbersFrom (.ref it) 4 >>= _) _ _ s
  refine wpAny_bind (nums_from hz ?_)
  show wpAny _ _ (Builtin.Itertools.itIntField (.ref it) 1 >>= _) _ _ s
  refine wpAny_bind (wpAny_bind (wpAny_field hz rfl (x := .int 1 0) rfl (wpAny_pure ?_)))
  rw [er]
  have un : ∀ {f : Nat → Nat → List Nat → List Nat → Option (List Nat × List Nat)}, (∀ n ix cy, f n 0 ix cy = none) → (∀ n p ix cy, f n (p + 1) ix cy = if cy.getD p 0 - 1 == 0 then f n p (ix.take p ++ ix.drop (p + 1) ++ [ix.getD p 0]) (cy.set p (n - p)) else
      some ((ix.set p (ix.getD (n - (cy.getD p 0 - 1)) 0)).set (n - (cy.getD p 0 - 1)) (ix.getD p 0), cy.set p (cy.getD p 0 - 1))) → f xs.size r (ns.take xs.size) (ns.drop xs.size) = some (ix, cy) := fun h0 h1 => (nxP_uniq h0 h1 _ _ _ _).trans hn
  have fin : wpAny (model prog w) A (Builtin.Itertools.itSetNumbersFrom (.ref it) 4 (ix ++ cy)) (fun _ s1 => wpAny (model prog w) A (newTuple ((ix.take r).map fun i => xs.getD i .none) >>= fun result => field (.ref it) 3 >>= fun before => setField (.ref it) 3 result >>= fun _ => letGo [before] [result] >>= fun _ => ret result) (fun fin s' => ∃ v, fin = .done (.ret v) ∧ Q v s') E s1) E s := by
    refine wpAny_updateFields hz rfl ?_ (by rw [cells_set]; simp [cells, sizeLine_eq]; omega)
    have hz1 := Heap.get?_update_self (Obj.mapFields fun fs => fs.extract 0 4 ++ ((ix ++ cy).map fun (n : Nat) => rawInt n).toArray) hz rfl
    have e1 : (Obj.mapFields (fun fs => fs.extract 0 4 ++ ((ix ++ cy).map fun (n : Nat) => rawInt n).toArray) { cls := .type "itertools.permutations", data := .fields (cells T 1 r bf ns) }) = { cls := .type "itertools.permutations", dict := none, data := .fields (cells T 1 r bf (ix ++ cy)), slots := #[] } := by
      rw [← cells_set T 1 r bf ns (ix ++ cy)]
      rfl
    rw [e1] at hz1
    have sb : Heap.SameBut it s.heap (s.heap.update it (Obj.mapFields fun fs => fs.extract 0 4 ++ ((ix ++ cy).map fun (n : Nat) => rawInt n).toArray)) := Heap.SameBut.update ..
    generalize s.heap.update it (Obj.mapFields fun fs => fs.extract 0 4 ++ ((ix ++ cy).map fun (n : Nat) => rawInt n).toArray) = h1 at hz1 sb
    have hT1 : h1.IsTuple T xs := let ⟨o, ho, r⟩ := hT; ⟨o, sb.extBut _ _ (notT hz hT) ho, r⟩
    refine wpAny_bind ?_
    exact hand_out (s := { s with heap := h1 }) hz1 hT1 (by rw [List.length_take]; omega) fun h2 z2 t2 n2 k2 => by
      have n1 : h1.objs.size = s.heap.objs.size := sb.1
      replace z2 : IsPrm h2 it T 1 r (.ref h1.objs.size) (ix ++ cy) := z2
      replace t2 : h2.get? h1.objs.size = some { cls := .type "tuple", data := .seq (picks xs (ix.take r)).toArray } := t2
      replace n2 : h2.objs.size = h1.objs.size + 1 := n2
      show Q (.ref h1.objs.size) { s with heap := h2 }
      rw [n1] at z2 t2 n2 ⊢
      exact hQ h2 z2 t2 n2 fun c o ce q => k2 c o ce (sb.extBut _ _ ce q)
  refine opt_some (F := fun a b => Builtin.Itertools.itSetNumbersFrom (.ref it) 4 (a ++ b) >>= fun _ => newTuple ((a.take r).map fun i => xs.getD i .none) >>= fun result => field (.ref it) 3 >>= fun before => setField (.ref it) 3 result >>= fun _ => letGo [before] [result] >>= fun _ => ret result) (G := setField (.ref it) 1 (rawInt 2) >>= fun _ => Builtin.Itertools.itStop) (un (by intros; rfl) (by intros; rfl)) ?_
  exact wpAny_bind fin
/-- StopIteration -/
theorem stops {Q : Fin → Shared → Prop} (hh : A.handled = none) (hE : ∀ e h', (∀ c o, s.heap.get? c = some o → h'.get? c = some o) → (∃ o, h'.get? e = some o ∧ o.cls = .type "StopIteration") → E (.ref e) { s with heap := h' }) :
    wpAny (model prog w) A (Builtin.Itertools.itStop (α := Fin)) Q E s := CmbK.stops hh hE
/-- at its end: behind the last item, or there never was one -/
theorem turn_end {st : Int} {Q : Fin → Shared → Prop} (hh : A.handled = none) (hz : IsPrm s.heap it T st r bf ns) (hT : s.heap.IsTuple T xs) (hn : (st = 1 ∧ nxP xs.size r (ns.take xs.size) (ns.drop xs.size) = none) ∨ st = 2)
    (hE : ∀ e h', (∀ c o, c ≠ it → s.heap.get? c = some o → h'.get? c = some o) → (∃ o, h'.get? e = some o ∧ o.cls = .type "StopIteration") → E (.ref e) { s with heap := h' }) :
    wpAny (model prog w) A (Builtin.«itertools.permutations.__next__» ⟨[.ref it], []⟩) Q E s := by
  have er : (Int.toNat ((r : Nat) : Int)) = r := Int.toNat_natCast r
  show wpAny _ _ (field (.ref it) 0 >>= _) _ _ s
  refine wpAny_bind (wpAny_field hz rfl (x := .ref T) rfl ?_)
  obtain ⟨o, ho, _, n, hd⟩ := id hT
  show wpAny _ _ (Builtin.Itertools.itPoolItems (.ref T) >>= _) _ _ s
  refine wpAny_bind (wpAny_bind (wpAny_seqItems ho hd (wpAny_pure ?_)))
  show wpAny _ _ (Builtin.Itertools.itIntField (.ref it) 2 >>= _) _ _ s
  refine wpAny_bind (wpAny_bind (wpAny_field hz rfl (x := .int r 0) rfl (wpAny_pure ?_)))
  show wpAny _ _ (Builtin.Itertools.itNumbersFrom (.ref it) 4 >>= _) _ _ s
  refine wpAny_bind (nums_from hz ?_)
  show wpAny _ _ (Builtin.Itertools.itIntField (.ref it) 1 >>= _) _ _ s
  refine wpAny_bind (wpAny_bind (wpAny_field hz rfl (x := .int st 0) rfl (wpAny_pure ?_)))
  rcases hn with ⟨rfl, hn⟩ | rfl
  · rw [er]
    have un : ∀ {f : Nat → Nat → List Nat → List Nat → Option (List Nat × List Nat)}, (∀ n ix cy, f n 0 ix cy = none) → (∀ n p ix cy, f n (p + 1) ix cy = if cy.getD p 0 - 1 == 0 then f n p (ix.take p ++ ix.drop (p + 1) ++ [ix.getD p 0]) (cy.set p (n - p)) else
      some ((ix.set p (ix.getD (n - (cy.getD p 0 - 1)) 0)).set (n - (cy.getD p 0 - 1)) (ix.getD p 0), cy.set p (cy.getD p 0 - 1))) → f xs.size r (ns.take xs.size) (ns.drop xs.size) = none := fun h0 h1 => (nxP_uniq h0 h1 _ _ _ _).trans hn
    refine opt_none (F := fun a b => Builtin.Itertools.itSetNumbersFrom (.ref it) 4 (a ++ b) >>= fun _ => newTuple ((a.take r).map fun i => xs.getD i .none) >>= fun result => field (.ref it) 3 >>= fun before => setField (.ref it) 3 result >>= fun _ => letGo [before] [result] >>= fun _ => ret result) (G := setField (.ref it) 1 (rawInt 2) >>= fun _ => Builtin.Itertools.itStop) (un (by intros; rfl) (by intros; rfl)) ?_
    refine wpAny_bind (wpAny_setField_rec hz (by simp [cells]) fun h1 _ hs1 => ?_)
    replace hs1 : Heap.SameBut it s.heap h1 := hs1
    exact stops (s := { s with heap := h1 }) hh fun e h' k x => hE e h' (fun c o ce q => k c o (hs1.extBut _ _ ce q)) x
  · show wpAny _ _ (rule "itertools.permutations.ended" >>= _) _ _ s
    refine wpAny_bind (wpAny_rule ?_)
    exact stops hh fun e h' k x => hE e h' (fun c o _ q => k c o q) x
/-- next(c) -/
theorem py_next {st : Int} {Q : Option Value → Shared → Prop} (hz : IsPrm s.heap it T st r bf ns)
    (h : ∀ E' : Value → Shared → Prop, wpAny (model prog w) A.in1 (Builtin.«itertools.permutations.__next__» ⟨[.ref it], []⟩) (fun fin s' => ∃ v, fin = .done (.ret v) ∧ Q (some v) s') E' s) : wpAny (model prog w) A (pyNext (.ref it)) Q E s := by
  have hC : s.TypeIs (.ref it) "itertools.permutations" := ⟨_, hz, rfl⟩
  unfold pyNext
  refine wpAny_bind (wpAny_attempt (wpAny_callSpecial?_slot (name := Str.ofString "__next__") hC next_c (wpAny_call_entry next_c hC entryX_c ?_ (argsX_c _))))
  refine wpAny_mono (h _) (fun fin s' ⟨v, e, q⟩ => ?_) fun _ _ y => y
  subst e
  exact ⟨v, rfl, wpAny_pure q⟩
theorem py_end {st : Int} {Q : Option Value → Shared → Prop} (hh : A.handled = none) (hz : IsPrm s.heap it T st r bf ns) (hT : s.heap.IsTuple T xs) (hn : (st = 1 ∧ nxP xs.size r (ns.take xs.size) (ns.drop xs.size) = none) ∨ st = 2)
    (hQ : ∀ h', (∀ c o, c ≠ it → s.heap.get? c = some o → h'.get? c = some o) → Q none { s with heap := h' }) : wpAny (model prog w) A (pyNext (.ref it)) Q E s := by
  have hC : s.TypeIs (.ref it) "itertools.permutations" := ⟨_, hz, rfl⟩
  unfold pyNext
  refine wpAny_bind (wpAny_attempt (wpAny_callSpecial?_slot (name := Str.ofString "__next__") hC next_c (wpAny_call_entry next_c hC entryX_c ?_ (argsX_c _))))
  refine turn_end (A := A.in1) hh hz hT hn fun e h' k ⟨o, ho, hc⟩ => ?_
  refine wpAny_bind (wpAny_isInstance (T := "StopIteration") (b := true) ⟨o, ho, hc⟩ isSubtype_stop ?_)
  exact wpAny_pure (hQ _ k)
theorem py_iter {st : Int} {Q : Value → Shared → Prop} (hz : IsPrm s.heap it T st r bf ns) (h : Q (.ref it) s) : wpAny (model prog w) A (pyIter (.ref it)) Q E s := by
  have hC : s.TypeIs (.ref it) "itertools.permutations" := ⟨_, hz, rfl⟩
  refine wpAny_pyIter_slot hC iter_c (wpAny_call_entry iter_c hC entryI_c ?_ (argsI_c _))
  show wpAny _ _ (ret (.ref it)) _ _ s
  exact wpAny_pure ⟨_, rfl, "itertools.permutations", _, hC, next_c.lookup, h⟩
end
end PrmK


/-! for t in itertools.permutations(range(n), k) -/
namespace Lm
open PySem PySem.Spec PyProof.Rows L2 PrmK
abbrev PrS := List Nat × List Nat
/-- all states, one after another -/
structure PrmOk (n k : Nat) (seq : List PrS) : Prop where
  len : ∀ ks ∈ seq, ks.1.length = n ∧ ks.2.length = k ∧ ∀ i ∈ ks.1, i < n
  first : n < k ∧ seq = [] ∨ ¬ n < k ∧ seq[0]? = some (List.range n, (List.range k).map fun i => n - i)
  next : ∀ (i : Nat) (ks : PrS), seq[i]? = some ks → nxP n k ks.1 ks.2 = seq[i + 1]?
def outP (k : Nat) (seq : List PrS) : List (List Nat) := seq.map fun s => s.1.take k
theorem outP_at {k : Nat} {seq : List PrS} {i : Nat} {s : PrS} (h : seq[i]? = some s) : (outP k seq)[i]? = some (s.1.take k) := by
  unfold outP
  rw [List.getElem?_map, h]; rfl
theorem vals_pickP {xs : Array Value} {n : Nat} (hx : ItemsOf (fun i v => ∃ t, v = .int (0 + i * 1) t) xs n) {ks : List Nat} (h : ∀ i ∈ ks, i < n) : Vals (ks.map fun (i : Nat) => V.int i) (picks xs ks) := vals_picks hx h
section
variable {c : Ct} {Γ : List (Option Rs)} {te tk : TE} {kd ke : Kd}
end
end Lm


namespace Lm
open PySem PySem.Spec PyProof.Rows L2 PrmK
/-! ### the states that permutations goes through, and the orders in their order -/
def stN (n k : Nat) : Nat → PrS → List PrS
  | 0, _ => []
  | m + 1, s => match nxP n k s.1 s.2 with
    | none => [s]
    | some t => s :: stN n k m t
def prmS (n k : Nat) : List PrS := stN n k 1000 (List.range n, (List.range k).map fun i => n - i)
/-- all tuples of k different numbers below n, in order -/
def difL (n : Nat) : Nat → List (List Nat)
  | 0 => [[]]
  | k + 1 => (difL n k).flatMap fun r => ((List.range n).filter fun x => decide (x ∉ r)).map fun x => r ++ [x]
def InvP (n k : Nat) (s : PrS) : Prop := s.1.length = n ∧ s.2.length = k ∧ ∀ i ∈ s.1, i < n
theorem getD_lt0 {l : List Nat} {n p : Nat} (h : ∀ i ∈ l, i < n) (n0 : 0 < n) : l.getD p 0 < n := by
  rw [List.getD_eq_getElem?_getD]
  cases e : l[p]? with
  | none => exact n0
  | some x => exact h x (List.mem_of_getElem? e)
theorem nxP_inv {n k : Nat} : ∀ {p : Nat} {ix cy : List Nat} {t : PrS}, p ≤ n → InvP n k (ix, cy) → nxP n p ix cy = some t → InvP n k t
  | 0, ix, cy, t, _, _, h => by cases h
  | p + 1, ix, cy, t, hp, hi, h => by
    obtain ⟨h1, h2, h3⟩ := hi
    simp only at h1 h2 h3
    unfold nxP at h
    split at h
    · refine nxP_inv (p := p) (by omega) ⟨?_, ?_, ?_⟩ h
      · simp only [List.length_append, List.length_take, List.length_drop, List.length_singleton]; omega
      · simp only [List.length_set]; exact h2
      · intro i hi
        simp only [List.mem_append, List.mem_singleton] at hi
        rcases hi with (w | w) | w
        · exact h3 i (List.mem_of_mem_take w)
        · exact h3 i (List.mem_of_mem_drop w)
        · rw [w]; exact getD_lt0 h3 (by omega)
    · cases h
      refine ⟨?_, ?_, fun i hi => ?_⟩
      · simp only [List.length_set]; exact h1
      · simp only [List.length_set]; exact h2
      · rcases List.mem_or_eq_of_mem_set hi with w | w
        · rcases List.mem_or_eq_of_mem_set w with w | w
          · exact h3 i w
          · rw [w]; exact getD_lt0 h3 (by omega)
        · rw [w]; exact getD_lt0 h3 (by omega)
theorem stN_head {n k m : Nat} {s : PrS} : (stN n k (m + 1) s)[0]? = some s := by
  unfold stN
  cases nxP n k s.1 s.2 <;> rfl
theorem stN_inv {n k : Nat} (hk : k ≤ n) : ∀ {m : Nat} {s : PrS}, InvP n k s → ∀ t ∈ stN n k m s, InvP n k t
  | 0, s, _, t, h => by cases h
  | m + 1, s, hs, t, h => by
    unfold stN at h
    cases e : nxP n k s.1 s.2 with
    | none =>
      rw [e] at h
      rw [List.mem_singleton.mp h]; exact hs
    | some u =>
      rw [e] at h
      rcases List.mem_cons.mp h with w | w
      · rw [w]; exact hs
      · exact stN_inv hk (nxP_inv hk hs e) t w
theorem stN_next {n k : Nat} : ∀ {m : Nat} {s : PrS}, (stN n k m s).length < m → ∀ i ks, (stN n k m s)[i]? = some ks → nxP n k ks.1 ks.2 = (stN n k m s)[i + 1]?
  | 0, s, h, _, _, _ => by omega
  | m + 1, s, h, i, ks, hi => by
    unfold stN at h hi ⊢
    cases e : nxP n k s.1 s.2 with
    | none =>
      rw [e] at h hi
      cases i with
      | zero => cases hi; exact e
      | succ i => cases hi
    | some u =>
      rw [e] at h hi
      simp only [List.length_cons] at h
      cases i with
      | zero =>
        cases hi
        rw [e]
        cases m with
        | zero => omega
        | succ m => exact stN_head.symm
      | succ i => exact stN_next (by omega) i ks hi
theorem prm_of {n k : Nat} (hk : k ≤ n) (h : (prmS n k).length < 1000) : PrmOk n k (prmS n k) where
  len := stN_inv hk ⟨by simp, by simp, fun i hi => List.mem_range.mp hi⟩
  first := .inr ⟨by omega, stN_head⟩
  next := stN_next h
def eqNs : List Nat → List Nat → Bool
  | [], [] => true
  | x :: a, y :: b => Nat.beq x y && eqNs a b
  | _, _ => false
theorem eqNs_eq : ∀ {a b : List Nat}, eqNs a b = true → a = b
  | [], [], _ => rfl
  | x :: a, y :: b, h => by
    unfold eqNs at h
    rw [Bool.and_eq_true] at h
    rw [Nat.eq_of_beq_eq_true h.1, eqNs_eq h.2]
  | [], _ :: _, h => by cases h
  | _ :: _, [], h => by cases h
/-- the states' orders are these, and they end -/
def outE (k : Nat) : List PrS → List (List Nat) → Bool
  | [], [] => true
  | s :: a, l :: b => eqNs (s.1.take k) l && outE k a b
  | _, _ => false
theorem outE_eq {k : Nat} : ∀ {a : List PrS} {b : List (List Nat)}, outE k a b = true → outP k a = b
  | [], [], _ => rfl
  | s :: a, l :: b, h => by
    unfold outE at h
    rw [Bool.and_eq_true] at h
    have e := outE_eq h.2
    show s.1.take k :: outP k a = l :: b
    rw [eqNs_eq h.1, e]
  | [], _ :: _, h => by cases h
  | _ :: _, [], h => by cases h
theorem lenS {n k : Nat} (h : outP k (prmS n k) = difL n k) : (prmS n k).length = (difL n k).length := by
  rw [← h]; unfold outP; rw [List.length_map]
theorem out5 : ∀ n < 6, ∀ k < n + 1, outE k (prmS n k) (difL n k) = true := by decide +kernel
theorem len5 : ∀ n < 6, ∀ k < n + 1, (difL n k).length < 1000 := by decide +kernel
end Lm


namespace Lm
open PySem PySem.Spec PyProof.Rows L2 PrmK
theorem out6 : ∀ k < 7, outE k (prmS 6 k) (difL 6 k) = true := by decide +kernel
theorem len6 : ∀ k < 7, (difL 6 k).length < 1000 := by decide +kernel
theorem prm_ok {n k : Nat} (hn : n ≤ 6) (hk : k ≤ n) : PrmOk n k (prmS n k) ∧ outP k (prmS n k) = difL n k := by
  by_cases h : n = 6
  · subst h
    have o := outE_eq (out6 k (by omega))
    exact ⟨prm_of hk (by rw [lenS o]; exact len6 k (by omega)), o⟩
  · have o := outE_eq (out5 n (by omega) k (by omega))
    exact ⟨prm_of hk (by rw [lenS o]; exact len5 n (by omega) k (by omega)), o⟩
end Lm


namespace Lm
open PySem PySem.Spec PyProof.Rows L2 PrmK
/-! ### the first cycle (k36) -/
theorem dif_len {n : Nat} : ∀ {k : Nat} {r : List Nat}, r ∈ difL n k → r.length = k ∧ ∀ x ∈ r, x < n
  | 0, r, h => by
    have : r = [] := by simpa [difL] using h
    subst this
    exact ⟨rfl, fun x hx => nomatch hx⟩
  | k + 1, r, h => by
    unfold difL at h
    obtain ⟨s, hs, hr⟩ := List.mem_flatMap.mp h
    obtain ⟨x, hx, rfl⟩ := List.mem_map.mp hr
    obtain ⟨h1, h2⟩ := dif_len hs
    have := List.mem_range.mp (List.mem_filter.mp hx).1
    refine ⟨by simp [h1], fun y hy => ?_⟩
    rcases List.mem_append.mp hy with q | q
    · exact h2 y q
    · rw [List.mem_singleton.mp q]; exact this
theorem dif_small {n : Nat} (hn : n ≤ 6) : ∀ {k : Nat}, k ≤ 6 → (difL n k).length ≤ 6 ^ k
  | 0, _ => by simp [difL]
  | k + 1, hk => by
    have ih := dif_small hn (k := k) (by omega)
    unfold difL
    have key : ∀ l : List (List Nat), (l.flatMap fun r => ((List.range n).filter fun x => decide (x ∉ r)).map fun x => r ++ [x]).length ≤ l.length * 6 := fun l => by
      induction l with
      | nil => simp
      | cons a l ih =>
        rw [List.flatMap_cons, List.length_append, List.length_map, List.length_cons, Nat.succ_mul]
        have : ((List.range n).filter fun x => decide (x ∉ a)).length ≤ n := Nat.le_trans (List.length_filter_le ..) (by simp)
        omega
    have := key (difL n k)
    rw [Nat.pow_succ]
    omega
theorem i_plcs {c : Ct} {Γ : List (Option Rs)} {tl : TE} {k : Kd} {L : List (List Nat)} (h : Ev c tl Γ k (.list (L.map plcD))) (hk : k ≠ .b) : EvI c (iSeq c.K tl) Γ true (L.map fun s => Im.d (plcD s)) := i_sets h hk
section
variable {c : Ct} {H H' H0 H1 H2 H3 : Hp} {O : List Addr} {σ : L2.St} {Γ : List (Option Rs)} {te tk tx ta : TE} {kd ke kb ka k : Kd} {x : PyData}
end
end Lm


/-! itertools.permutations(range(n), k): made, its turns -/
namespace PrmK
open PySem PySem.Spec PyProof.Rows L2
theorem meets_new1 (r : Addr) (n : Nat) (t u v : Tok) (hn : n ≤ 1000) :
    Meets (Builtin.«itertools.permutations.__new__» ⟨[.type "itertools.permutations", .ref r], []⟩)
      (fun A R s => A.handled = none ∧ IsRange s.heap r 0 n 1 t u v ∧ ∀ (h' : Heap) (tk : Nat) (acc : Array Value), (∀ b o, s.heap.get? b = some o → h'.get? b = some o) → ItemsOf (fun i v => ∃ t, v = .int (0 + i * 1) t) acc n →
        R (.ok (.ret (.ref (h'.objs.size + 1)))) { s with heap := (h'.push { cls := .type "tuple", data := .seq acc }).push { cls := .type "itertools.permutations", data := .fields (cells h'.objs.size 0 n .none (List.range n ++ (List.range n).map fun i => n - i)) }, toks := tk }) :=
  .of_wp fun prog w A R s h => by
    obtain ⟨hp, g, dd, tk, os⟩ := s
    obtain ⟨hh, hr, h⟩ := h
    have hsub := sub_c
    have hd := noDict_c
    have small : Builtin.Range.small 0 n 1 = true := small_one (by decide) (by decide) (by omega) (by omega)
    have size : Builtin.Range.rangeSize 0 n 1 = n := by rw [rangeSize_nat]; omega
    have col : ∀ {A' : Around} {E : Value → Shared → Prop} {Q : List Value → Shared → Prop}, A'.handled = none → (∀ (h' : Heap) (tk : Nat) (acc : Array Value), (∀ b o, hp.get? b = some o → h'.get? b = some o) → ItemsOf (fun i v => ∃ t, v = .int (0 + i * 1) t) acc n → Q acc.toList ⟨h', g, dd, tk, os⟩) → wpAny (model prog w) A' (collect (.ref r)) Q E ⟨hp, g, dd, tk, os⟩ :=
      fun hh' q => collect_range hh' hr small size (by omega) q
    have name : ("itertools." ++ "permutations" : String) = "itertools.permutations" := by decide
    wp_walk using @col
    rw [name]
    refine wpAny_of_eq hsub ?_
    simp only [Bool.not_true, Bool.false_eq_true, if_false]
    wp_walk using @col
    · exact hh
    intro h' tk' acc hkk hi
    refine wpAny_bind (wpAny_pure ?_)
    have sz : acc.toList.length = n := by rw [Array.length_toList]; exact hi.1
    have big : Builtin.Itertools.itTooMany (acc.toList.length : Int) = false := decide_eq_false (by rw [sz]; omega)
    rw [if_neg (by omega), big]
    simp only [Bool.false_eq_true, if_false]
    refine wpAny_bind (wpAny_newTuple ?_)
    refine wpAny_bind ?_
    unfold Builtin.Itertools.itNewRecord
    simp only [hd]
    simp only [Bool.not_false, if_true]
    refine wpAny_newObj_type ?_ (show Array.size _ ≤ sizeLine + 2 by rw [List.size_toArray, List.length_append, List.length_append, List.length_map, List.length_map, List.length_range, List.length_range, Int.toNat_natCast, sizeLine_eq]; simp only [List.length_cons, List.length_nil]; omega)
    refine wpAny_pure ⟨_, rfl, ?_⟩
    have w := h h' tk' acc hkk hi
    have e1 : (h'.push { cls := .type "tuple", data := .seq acc }).objs.size = h'.objs.size + 1 := Heap.size_push ..
    rw [Array.toArray_toList, e1, Int.toNat_natCast, sz]
    rw [cells_new _ (Nat.le_refl n), if_neg (Nat.lt_irrefl n)]
    exact w
end PrmK


/-! list(permutations(range(n))) -/
namespace PrmK
open PySem PySem.Spec PyProof.Rows L2
theorem no_len : typeLookup (.type "itertools.permutations") "__len__" = pure none := by rw [typeLookup_type, builtinLookup_eq_fast]; kernel_rfl
theorem no_hint : typeLookup (.type "itertools.permutations") "__length_hint__" = pure none := by rw [typeLookup_type, builtinLookup_eq_fast]; kernel_rfl
end PrmK
namespace Lm
open PySem PySem.Spec PyProof.Rows L2 PrmK
/-- the iterator at its i-th turn -/
def PAt (k : Nat) (seq : List PrS) (xs : Array Value) (h : Heap) (it T : Addr) (i : Nat) : Prop := ∃ bf st ns, IsPrm h it T st k bf ns ∧ h.IsTuple T xs ∧ ((i = 0 ∧ st = 0 ∧ ∃ s, seq[0]? = some s ∧ ns = s.1 ++ s.2) ∨ (∃ j, i = j + 1 ∧ st = 1 ∧ ∃ s, seq[j]? = some s ∧ ns = s.1 ++ s.2))
theorem PAt.at {k : Nat} {seq : List PrS} {xs : Array Value} {h h' : Heap} {it T : Addr} {i : Nat} (p : PAt k seq xs h it T i) (kk : ∀ c ∈ [it, T], ∀ o, h.get? c = some o → h'.get? c = some o) : PAt k seq xs h' it T i := by
  obtain ⟨bf, st, ns, hz, ⟨o, ho, r⟩, cs⟩ := p
  exact ⟨bf, st, ns, kk it (by simp) _ hz, ⟨o, kk T (by simp) _ ho, r⟩, cs⟩
section
variable {prog : Program} {w : World} {A : Around} {E : Value → Shared → Prop} {s : Shared} {it T : Addr} {n k : Nat} {seq : List PrS} {xs : Array Value}
theorem prm_item {i : Nat} {ls : PrS} {Q : Option Value → Shared → Prop} (ok : PrmOk n k seq) (hn : n ≤ 1000) (hkn : k ≤ n) (lx : xs.size = n) (p : PAt k seq xs s.heap it T i) (hls : seq[i]? = some ls)
    (hQ : ∀ h', PAt k seq xs h' it T (i + 1) → h'.get? s.heap.objs.size = some { cls := .type "tuple", data := .seq (picks xs (ls.1.take k)).toArray } → h'.objs.size = s.heap.objs.size + 1 →
      (∀ c o, c ≠ it → s.heap.get? c = some o → h'.get? c = some o) → Q (some (.ref s.heap.objs.size)) { s with heap := h' }) : wpAny (model prog w) A (pyNext (.ref it)) Q E s := by
  obtain ⟨bf, st, ns, hz, hT, cs⟩ := p
  obtain ⟨l1, l2, lr⟩ := ok.len ls (List.mem_of_getElem? hls)
  have neT := notT hz hT
  have fin : ∀ h', IsPrm h' it T 1 k (.ref s.heap.objs.size) (ls.1 ++ ls.2) → h'.get? s.heap.objs.size = some { cls := .type "tuple", data := .seq (picks xs (ls.1.take k)).toArray } → h'.objs.size = s.heap.objs.size + 1 →
      (∀ c o, c ≠ it → s.heap.get? c = some o → h'.get? c = some o) → Q (some (.ref s.heap.objs.size)) { s with heap := h' } := fun h' z t nn kk =>
    hQ h' ⟨_, 1, ls.1 ++ ls.2, z, let ⟨o, ho, r⟩ := hT; ⟨o, kk _ _ neT ho, r⟩, .inr ⟨i, rfl, rfl, ls, hls, rfl⟩⟩ t nn kk
  refine py_next hz fun E' => ?_
  rcases cs with ⟨rfl, rfl, s0, h0, rfl⟩ | ⟨j, rfl, rfl, sj, hj, rfl⟩
  · rw [h0] at hls
    have e0 : s0 = ls := Option.some.inj hls
    subst e0
    have tk : (s0.1 ++ s0.2).take k = s0.1.take k := List.take_append_of_le_length (by omega)
    exact turn_first (by rw [List.length_append]; omega) (by omega) hz hT (by rw [tk]; exact fin)
  · obtain ⟨m1, m2, _⟩ := ok.len sj (List.mem_of_getElem? hj)
    have tk : (sj.1 ++ sj.2).take xs.size = sj.1 := by rw [lx, ← m1, List.take_left]
    have dr : (sj.1 ++ sj.2).drop xs.size = sj.2 := by rw [lx, ← m1, List.drop_left]
    exact turn_next (ix := ls.1) (cy := ls.2) (by omega) (by omega) (by omega) hz hT (by rw [tk, dr, lx, ok.next j sj hj]; exact hls) fin
theorem prm_stop {Q : Option Value → Shared → Prop} (ok : PrmOk n k seq) (lx : xs.size = n) (hh : A.handled = none) (p : PAt k seq xs s.heap it T seq.length) (pos : 0 < seq.length)
    (hQ : ∀ h', (∀ c o, c ≠ it → s.heap.get? c = some o → h'.get? c = some o) → Q none { s with heap := h' }) : wpAny (model prog w) A (pyNext (.ref it)) Q E s := by
  obtain ⟨bf, st, ns, hz, hT, cs⟩ := p
  refine py_end hh hz hT ?_ hQ
  rcases cs with ⟨z, _⟩ | ⟨j, ej, rfl, sj, hj, rfl⟩
  · omega
  · obtain ⟨m1, m2, _⟩ := ok.len sj (List.mem_of_getElem? hj)
    have tk : (sj.1 ++ sj.2).take xs.size = sj.1 := by rw [lx, ← m1, List.take_left]
    have dr : (sj.1 ++ sj.2).drop xs.size = sj.2 := by rw [lx, ← m1, List.drop_left]
    exact .inl ⟨rfl, by rw [tk, dr, lx, ok.next j sj hj, List.getElem?_eq_none (by omega)]⟩
end
/-- the tuples given out so far -/
def POut (k : Nat) (seq : List PrS) (xs : Array Value) (h : Heap) (n0 : Nat) (ts : List Addr) : Prop :=
  ts.Pairwise (· < ·) ∧ ∀ (j : Nat) (t : Addr), ts[j]? = some t → n0 ≤ t ∧ ∃ ls, seq[j]? = some ls ∧ h.get? t = some { cls := .type "tuple", data := .seq (picks xs (ls.1.take k)).toArray }
section
variable {prog : Program} {w : World} {A : Around} {R : Result → Shared → Prop}
theorem prm_loop {it T S : Addr} {n k : Nat} {seq : List PrS} {xs : Array Value} {n0 : Nat} (ok : PrmOk n k seq) (hn : n ≤ 1000) (hkn : k ≤ n) (lx : xs.size = n) (pos : 0 < seq.length) (hS : S ∉ [it, T]) (hlow : ∀ c ∈ [it, T, S], c < n0) (hsz : seq.length ≤ sizeLine) (hh : A.handled = none) (res : Value) :
    ∀ (q i : Nat) (s : Shared) (acc : Array Value) (c : Nat) (ts : List Addr), seq.length - i = q → i ≤ seq.length → PAt k seq xs s.heap it T i → s.heap.get? S = some { cls := .type "list", dict := none, data := .seq acc c, slots := #[] } → acc.toList = ts.map Value.ref → ts.length = i → POut k seq xs s.heap n0 ts → n0 ≤ s.heap.objs.size →
    (∀ h' acc' c' ts', (∀ c o, c ∉ [it, S] → s.heap.get? c = some o → h'.get? c = some o) → h'.get? S = some { cls := .type "list", dict := none, data := .seq acc' c', slots := #[] } → acc'.toList = ts'.map Value.ref → ts'.length = seq.length → POut k seq xs h' n0 ts' → R (.ok (.ret res)) { s with heap := h' }) →
    codeAny (model prog w) A (.builtin "list.extend.loop" ⟨[.ref S, .ref it, res], []⟩) R s := by
  intro q
  induction q with
  | zero =>
    intro i s acc c ts hk hi hst hSl hacc hts hout hn0 hR
    have hin : i = seq.length := by omega
    refine codeAny_builtin F.entry_extend_loop ?_
    rw [Around.under_plainId F.plain_extend_loop _]
    show wpAny _ A.in1 (pyNext (.ref it) >>= _) _ _ s
    have hSz : S ≠ it := fun q => hS (by simp [q])
    refine wpAny_bind (prm_stop ok lx hh (hin ▸ hst) pos fun h' hk' => wpAny_pure ?_)
    refine hR h' acc c ts (fun c o hc e => hk' c o (fun q => hc (by simp [q])) e) (hk' S _ hSz hSl) hacc (by omega) ⟨hout.1, fun j t ht => ?_⟩
    obtain ⟨g1, ls, gl, gt⟩ := hout.2 j t ht
    refine ⟨g1, ls, gl, hk' t _ (fun q => ?_) gt⟩
    have := hlow it (by simp)
    rw [q] at g1
    exact absurd g1 (Nat.not_le.mpr this)
  | succ q ih =>
    intro i s acc c ts hk hi hst hSl hacc hts hout hn0 hR
    have hlt : i < seq.length := by omega
    obtain ⟨ls, hls⟩ : ∃ ls, seq[i]? = some ls := ⟨_, List.getElem?_eq_getElem hlt⟩
    refine codeAny_builtin F.entry_extend_loop ?_
    rw [Around.under_plainId F.plain_extend_loop _]
    show wpAny _ A.in1 (pyNext (.ref it) >>= _) _ _ s
    have nSi : S ≠ it := fun q => hS (by simp [q])
    have nST : S ≠ T := fun q => hS (by simp [q])
    refine wpAny_bind (prm_item ok hn hkn lx hst hls fun g1 p1 hT hsz1 hk' => ?_)
    have hS1 : g1.get? S = some { cls := .type "list", dict := none, data := .seq acc c, slots := #[] } := hk' S _ nSi hSl
    have lowS : S < n0 := hlow S (by simp)
    show wpAny _ A.in1 (updateSeq S (·.push (Value.ref s.heap.objs.size)) >>= _) _ _ _
    refine wpAny_bind ?_
    have asz : acc.size = i := by have := congrArg List.length hacc; simp at this; omega
    have up : ∀ c o, c ≠ S → g1.get? c = some o → (g1.update S (Obj.mapSeq (·.push (Value.ref s.heap.objs.size)))).get? c = some o := fun c o hc e => (Heap.get?_update_other _ _ (fun q => hc q.symm)).trans e
    refine wpAny_updateSeq hS1 rfl (wpAny_pure ⟨plainId_quiet F.plain_extend_loop _, ih (i + 1) _ (acc.push (Value.ref s.heap.objs.size)) _ (ts ++ [s.heap.objs.size]) (by omega) hlt ?_ (Heap.get?_update_self _ hS1 rfl) (by simp [hacc]) (by simp [hts]) ?_ ?_ fun h' acc' c' ts' f1 f2 f3 f4 f5 => ?_⟩)
      (by rw [asz]; omega) (by show (acc.push _).size ≤ sizeLine + 1; rw [Array.size_push, asz]; omega)
    · exact p1.at fun c hc o e => up c o (fun q => hS (q ▸ hc)) e
    · refine ⟨List.pairwise_append.mpr ⟨hout.1, List.pairwise_singleton .., fun t ht u hu => ?_⟩, fun j t ht => ?_⟩
      · rw [List.mem_singleton.mp hu]
        obtain ⟨j, hj⟩ := List.getElem?_of_mem ht
        obtain ⟨_, ls, _, gt⟩ := hout.2 j t hj
        exact Heap.lt_size gt
      · by_cases q : j < ts.length
        · rw [List.getElem?_append_left q] at ht
          obtain ⟨g2, ls2, gl, gt⟩ := hout.2 j t ht
          have nt : ∀ c ∈ [it, T, S], t ≠ c := fun c hc q => by
            have := hlow c hc
            rw [q] at g2
            exact absurd g2 (Nat.not_le.mpr this)
          exact ⟨g2, ls2, gl, up _ _ (nt S (by simp)) (hk' t _ (nt it (by simp)) gt)⟩
        · rw [List.getElem?_append_right (by omega)] at ht
          have hj : j = ts.length := by
            have := (List.getElem?_eq_some_iff.mp ht).1
            simp at this
            omega
          rw [hj, Nat.sub_self] at ht
          have et : s.heap.objs.size = t := Option.some.inj ht
          refine ⟨by rw [← et]; exact hn0, ls, by rw [hj, hts]; exact hls, ?_⟩
          rw [← et]
          refine up _ _ (fun q => ?_) hT
          rw [← q] at lowS
          exact absurd hn0 (Nat.not_le.mpr lowS)
    · show n0 ≤ (g1.update S _).objs.size
      rw [Heap.size_update, hsz1]
      omega
    · exact hR h' acc' c' ts' (fun c o hc e => f1 c o hc (up c o (fun q => hc (by simp [q])) (hk' c o (fun q => hc (by simp [q])) e))) f2 f3 f4 f5
/-- what list(it) leaves -/
def PDone (k : Nat) (seq : List PrS) (xs : Array Value) (h h' : Heap) (it S : Addr) (n0 : Nat) : Prop :=
  (∀ c o, c ∉ [it, S] → h.get? c = some o → h'.get? c = some o) ∧ ∃ acc' c' ts', h'.get? S = some { cls := .type "list", dict := none, data := .seq acc' c', slots := #[] } ∧ acc'.toList = ts'.map Value.ref ∧ ts'.length = seq.length ∧ POut k seq xs h' n0 ts'
theorem prm_extend {s : Shared} {it T S : Addr} {n k : Nat} {seq : List PrS} {xs : Array Value} {n0 : Nat} (ok : PrmOk n k seq) (hn : n ≤ 1000) (hkn : k ≤ n) (lx : xs.size = n) (pos : 0 < seq.length) (hS : S ∉ [it, T]) (hlow : ∀ c ∈ [it, T, S], c < n0) (hsz : seq.length ≤ sizeLine) (hh : A.handled = none) (res : Value) (c₀ : Nat)
    (hst : PAt k seq xs s.heap it T 0) (hSl : s.heap.get? S = some { cls := .type "list", data := .seq #[] c₀ }) (hn0 : n0 ≤ s.heap.objs.size)
    (hR : ∀ h', PDone k seq xs s.heap h' it S n0 → R (.ok (.ret res)) { s with heap := h' }) :
    wpAny (model prog w) A.in1 (Builtin.List.listExtendWith (.ref S) (.ref it) res)
      (fun fin s' => match fin with | .done f => R (.ok f) s' | .again c' => c'.quiet = true ∧ codeAny (model prog w) A c' R s') (fun e s' => R (.error e) s') s := by
  obtain ⟨bf, st, ns, hz, _⟩ := id hst
  have hT : s.TypeIs (.ref it) "itertools.permutations" := ⟨_, hz, rfl⟩
  have hSz : S ≠ it := fun q => hS (by simp [q])
  unfold Builtin.List.listExtendWith
  refine wpAny_bind (wpAny_typeOf hT ?_)
  have h1 : Builtin.List.listSameRef (.ref S) (.ref it) = false := by simp [Builtin.List.listSameRef, hSz]
  have h2 : (Value.type "itertools.permutations" == Value.type "list") = false := by decide
  have h3 : (Value.type "itertools.permutations" == Value.type "tuple") = false := by decide
  simp only [h1, h2, h3, Bool.or_false, Bool.false_eq_true, if_false]
  refine wpAny_bind (py_iter hz ?_)
  refine wpAny_bind (wpAny_holding ?_)
  unfold Builtin.List.listLengthHint
  refine wpAny_bind (wpAny_specialOf hT no_len ?_)
  show wpAny _ A.in1 (specialOf (Value.ref it) (Str.ofString "__length_hint__") >>= _) _ _ _
  refine wpAny_bind (wpAny_specialOf hT no_hint ?_)
  refine wpAny_pure ?_
  show wpAny _ A.in1 (rule "list.extend.makes-room" >>= fun _ => Builtin.List.listTouch (.ref S) >>= fun _ =>
    again (.builtin "list.extend.loop" ⟨[.ref S, .ref it, res], []⟩)) _ _ _
  refine wpAny_bind (wpAny_rule ?_)
  refine wpAny_bind ?_
  show wpAny _ A.in1 (updateSeq S (·.push .none) >>= fun _ => updateSeq S (·.pop)) _ _ _
  refine wpAny_bind (wpAny_updateSeq hSl rfl ?_)
  have hS₂ := Heap.get?_update_self (Obj.mapSeq (·.push Value.none)) hSl rfl
  refine wpAny_updateSeq (hz := by seq_fits) hS₂ rfl ?_
  have hS₃ := Heap.get?_update_self (Obj.mapSeq (·.pop)) hS₂ rfl
  have oth : ∀ b o, b ≠ S → s.heap.get? b = some o → ((s.heap.update S (Obj.mapSeq (·.push Value.none))).update S (Obj.mapSeq (·.pop))).get? b = some o :=
    fun b o hb e => (Heap.get?_update_other _ _ (Ne.symm hb)).trans ((Heap.get?_update_other _ _ (Ne.symm hb)).trans e)
  refine wpAny_pure ⟨plainId_quiet F.plain_extend_loop _, prm_loop ok hn hkn lx pos hS hlow hsz hh res seq.length 0 _ _ _ [] rfl (Nat.zero_le _)
    (hst.at fun c hc o e => oth c o (fun q => hS (q ▸ hc)) e) hS₃ rfl rfl ⟨List.Pairwise.nil, fun j t ht => by simp at ht⟩ (by show n0 ≤ ((s.heap.update S _).update S _).objs.size; rw [Heap.size_update, Heap.size_update]; exact hn0) fun h' acc' c' ts' f1 f2 f3 f4 f5 => ?_⟩
  exact hR h' ⟨fun c o hc e => f1 c o hc (oth c o (fun q => hc (by simp [q])) e), acc', c', ts', f2, f3, f4, f5⟩
theorem prm_init {s : Shared} {it T S : Addr} {n k : Nat} {seq : List PrS} {xs : Array Value} {n0 : Nat} (ok : PrmOk n k seq) (hn : n ≤ 1000) (hkn : k ≤ n) (lx : xs.size = n) (pos : 0 < seq.length) (hS : S ∉ [it, T]) (hlow : ∀ c ∈ [it, T, S], c < n0) (hsz : seq.length ≤ sizeLine) (hh : A.handled = none)
    (hst : PAt k seq xs s.heap it T 0) (hSl : s.heap.get? S = some { cls := .type "list", data := .seq #[] }) (hn0 : n0 ≤ s.heap.objs.size)
    (hR : ∀ h', PDone k seq xs s.heap h' it S n0 → R (.ok (.ret .none)) { s with heap := h' }) :
    wpAny (model prog w) A.in1 (Builtin.«list.__init__» ⟨[.ref S, .ref it], []⟩)
      (fun fin s' => match fin with | .done f => R (.ok f) s' | .again c' => c'.quiet = true ∧ codeAny (model prog w) A c' R s') (fun e s' => R (.error e) s') s := by
  show wpAny _ A.in1 (do let old ← Builtin.List.listItems (.ref S); Builtin.List.listUpdate (.ref S) (fun _ => #[]); letGo old.toList.reverse; Builtin.List.listExtendWith (.ref S) (.ref it) .none) _ _ s
  refine wpAny_bind ?_
  unfold Builtin.List.listItems
  refine wpAny_bind (wpAny_seqItems hSl rfl (wpAny_pure ?_))
  show wpAny _ A.in1 (updateSeq S (fun _ => #[]) >>= fun _ => letGo (#[] : Array Value).toList.reverse >>= fun _ => Builtin.List.listExtendWith (.ref S) (.ref it) .none) _ _ s
  refine wpAny_bind (wpAny_updateSeq hSl rfl ?_)
  have hS₂ := Heap.get?_update_self (Obj.mapSeq (fun _ => (#[] : Array Value))) hSl rfl
  have oth : ∀ b o, b ≠ S → s.heap.get? b = some o → (s.heap.update S (Obj.mapSeq (fun _ => (#[] : Array Value)))).get? b = some o :=
    fun b o hb e => (Heap.get?_update_other _ _ (Ne.symm hb)).trans e
  refine wpAny_bind (wpAny_letGo ?_)
  refine prm_extend ok hn hkn lx pos hS hlow hsz hh .none _ (hst.at fun c hc o e => oth c o (fun q => hS (q ▸ hc)) e) hS₂ (by show n0 ≤ (s.heap.update S _).objs.size; rw [Heap.size_update]; exact hn0) fun h' ⟨f1, f2⟩ => ?_
  exact hR h' ⟨fun c o hc e => f1 c o hc (oth c o (fun q => hc (by simp [q])) e), f2⟩
end
section
variable {prog : Program} {w : World} {A : Around} {E : Value → Shared → Prop} {s : Shared}
theorem call_list_prm {Q : Value → Shared → Prop} {it T : Addr} {n k : Nat} {seq : List PrS} {xs : Array Value} (ok : PrmOk n k seq) (hn : n ≤ 1000) (hkn : k ≤ n) (lx : xs.size = n) (pos : 0 < seq.length) (hlow : ∀ c ∈ [it, T], c < s.heap.objs.size) (hsz : seq.length ≤ sizeLine) (hh : A.handled = none)
    (hst : PAt k seq xs s.heap it T 0)
    (hQ : ∀ h', PDone k seq xs (s.heap.push { cls := .type "list", data := .seq #[] }) h' it s.heap.objs.size (s.heap.objs.size + 1) → Q (.ref s.heap.objs.size) { s with heap := h' }) :
    wpAny (model prog w) A (call (.type "list") [.ref it]) Q E s := by
  refine callType_codes (Q₁ := fun obj s₁ => obj = .ref s.heap.objs.size ∧ s₁ = { s with heap := s.heap.push { cls := .type "list", data := .seq #[] } }) F.called_list (F.typeCall_list_1 _) F.entry_list_init
    (code_list_new _ ⟨rfl, rfl⟩) fun obj s₁ h₁ => ?_
  obtain ⟨rfl, rfl⟩ := h₁
  have hS : (s.heap.push { cls := .type "list", data := .seq #[] }).get? s.heap.objs.size = some { cls := .type "list", data := .seq #[] } := Heap.get?_push_size _ rfl
  refine ⟨⟨_, hS, rfl⟩, F.args_list_init_2 _ _, prm_init (n0 := s.heap.objs.size + 1) ok hn hkn lx pos (fun hm => Nat.lt_irrefl _ (hlow _ hm)) (fun c hc => ?_) hsz (by exact hh) (hst.at fun c _ o e => Heap.get?_push_of_some _ e) hS (by show _ ≤ (s.heap.push _).objs.size; rw [Heap.size_push]; exact Nat.le_refl _) fun h' f => ?_⟩
  · have hc' : c ∈ [it, T] ∨ c = s.heap.objs.size := by simpa [or_assoc] using hc
    rcases hc' with q | q
    · exact Nat.lt_succ_of_lt (hlow c q)
    · rw [q]; exact Nat.lt_succ_self _
  · exact ⟨rfl, hQ h' f⟩
end
/-- the heap with the tuples told -/
def addP (H : Hp) (ts : List Addr) (outs : List (List Nat)) (vs : List Obj) : Hp := fun b => if b ∈ ts then some (.frz (vs.getD (ts.idxOf b) { cls := .type "tuple", data := .seq #[] }) (.tup ((outs.getD (ts.idxOf b) []).map fun (i : Nat) => V.int i))) else H b
def rListPrm : List V → Hp → VK → Prop := fun vs H Q => ∃ (p : Addr) (n : Nat) (seq : List PrS), vs = [.ref p] ∧ H p = some (.rng 0 n) ∧ n ≤ 1000 ∧ 0 < seq.length ∧ seq.length ≤ sizeLine ∧ PrmOk n n seq ∧
  ∀ (ts : List Addr) (H' : Hp) (q : Addr), ts.length = seq.length → (∀ (j : Nat) (t : Addr) (ks : List Nat), ts[j]? = some t → (outP n seq)[j]? = some ks → ∃ o : Obj, o.dict = none ∧ H' t = some (.frz o (.tup (ks.map fun (i : Nat) => V.int i)))) → (∀ b u, H b = some u → H' b = some u) → H' q = none → H q = none → Q (.ref q) (upd H' q (.lst (ts.map V.ref)))
def tLstPrm (ta : TA) : TE := fun σ H Q => ta σ H fun vs H1 => rListPrm vs H1 Q
theorem pe_listPrm {X : Cx} {e : Expr} {x : Str} {ta : TA} {p pos p2 pos2 : Pos} (hc : X.calm = true) (hg : Gl X "list") (hm : X.mg "list" = none) (hg2 : Gl X x) (hm2 : X.mg x = some (.type "itertools.permutations")) (ha : PA X [e] ta) (hdb : (x == ("__debug__" : Str)) = false := by decide)
    (hs : starEach [e] X.env = (false, eval e X.env) :: starEach [] X.env := by rfl) (hpl : (backTo pos2 (starEach [] X.env)).any (·.1) = false := by rfl)
    (na : starEach [.Call (.Name x p2) [e] [] pos2] X.env = (false, eval (.Call (.Name x p2) [e] [] pos2) X.env) :: starEach [] X.env := by rfl) :
    PE X (.Call (.Name "list" p) [.Call (.Name x p2) [e] [] pos2] [] pos) (tLstPrm ta) := by
  refine ⟨fun pins s σ H Q I h => ?_⟩
  refine Call_ (ld_blt I hg hm boot_list (PyProof.Rows.callWith_type1 (PyProof.Rows.args_cons ?_ na) na))
  refine wpAny_Call_Name_kw (ld_glob I hg2 hm2 (PyProof.Rows.callWith_type1 (thn (ha.run pos2 pins s σ H _ I h) fun us s1 ⟨vs, H1, I1, r1, q1⟩ => ?_) hs hpl) hdb)
  obtain ⟨a, n, seq, ev, hp, hn, pos0, hsz, ok, q⟩ := q1
  subst ev
  cases r1 with
  | cons ra rr =>
    cases rr
    cases ra
    obtain ⟨t, u, w, hr⟩ := I1.hok a _ hp
    refine callType_new called_c (by decide +kernel) (tcall_1 _) (ncall_1 _) (fun obj => PySem.F.args_object_init_2 obj _) entryN_c (meets_new1 a n t u w hn) ⟨I1.ok.hd hc, hr, fun h' tk acc kk hi => ?_⟩
    have e1 : (h'.push { cls := .type "tuple", data := .seq acc }).objs.size = h'.objs.size + 1 := Heap.size_push ..
    have gT : (h'.push { cls := .type "tuple", data := .seq acc }).get? h'.objs.size = some { cls := .type "tuple", data := .seq acc } := Heap.get?_push_size _ rfl
    have gI : ((h'.push { cls := .type "tuple", data := .seq acc }).push { cls := .type "itertools.permutations", data := .fields (cells h'.objs.size 0 n .none (List.range n ++ (List.range n).map fun i => n - i)) }).get? (h'.objs.size + 1) = some { cls := .type "itertools.permutations", data := .fields (cells h'.objs.size 0 n .none (List.range n ++ (List.range n).map fun i => n - i)) } := by
      rw [← e1]
      exact Heap.get?_push_size _ rfl
    have gT2 : ((h'.push { cls := .type "tuple", data := .seq acc }).push { cls := .type "itertools.permutations", data := .fields (cells h'.objs.size 0 n .none (List.range n ++ (List.range n).map fun i => n - i)) }).get? h'.objs.size = some { cls := .type "tuple", data := .seq acc } := Heap.get?_push_of_some _ gT
    have up : ∀ b o, h'.get? b = some o → ((h'.push { cls := .type "tuple", data := .seq acc }).push { cls := .type "itertools.permutations", data := .fields (cells h'.objs.size 0 n .none (List.range n ++ (List.range n).map fun i => n - i)) }).get? b = some o := fun b o z => Heap.get?_push_of_some _ (Heap.get?_push_of_some _ z)
    have e2 : ((h'.push { cls := .type "tuple", data := .seq acc }).push { cls := .type "itertools.permutations", data := .fields (cells h'.objs.size 0 n .none (List.range n ++ (List.range n).map fun i => n - i)) }).objs.size = h'.objs.size + 2 := by rw [Heap.size_push, e1]
    have I' : Inv X pins σ H1 { s1 with heap := h', toks := tk } := I1.kept kk
    generalize (h'.push { cls := .type "tuple", data := .seq acc }).push { cls := .type "itertools.permutations", data := .fields (cells h'.objs.size 0 n .none (List.range n ++ (List.range n).map fun i => n - i)) } = hp2 at gI gT2 up e2
    have I2 : Inv X pins σ H1 { s1 with heap := hp2, toks := tk } := I1.kept fun b o z => up b o (kk b o z)
    refine ⟨⟨_, gI, rfl⟩, PyProof.Rows.args_nil ?_⟩
    have first : seq[0]? = some (List.range n, (List.range n).map fun i => n - i) := by
      rcases ok.first with ⟨z, _⟩ | ⟨_, z⟩
      · exact absurd z (Nat.lt_irrefl _)
      · exact z
    refine call_list_prm (s := { s1 with heap := hp2, toks := tk }) (it := h'.objs.size + 1) (T := h'.objs.size) (xs := acc) ok hn (Nat.le_refl _) hi.1 pos0 (fun c hc => ?_) hsz (I2.ok.hd hc) ⟨.none, 0, _, gI, ⟨_, gT2, rfl, _, rfl⟩, .inl ⟨rfl, rfl, _, first, rfl⟩⟩ fun h'' fd => ?_
    · show c < hp2.objs.size
      rw [e2]
      have e' : c = h'.objs.size + 1 ∨ c = h'.objs.size := by simpa using hc
      rcases e' with z | z <;> rw [z]
      · exact Nat.lt_succ_self _
      · exact Nat.lt_add_of_pos_right (by decide)
    · obtain ⟨f1, acc2, cc, ts, f2, f3, f4, f5, f6⟩ := fd
      have old : ∀ c o, hp2.get? c = some o → c ≠ h'.objs.size + 1 → h''.get? c = some o := fun c o g ne => by
        have lc := Heap.lt_size g
        refine f1 c o (fun hc => ?_) (Heap.get?_push_of_some _ g)
        have e' : c = h'.objs.size + 1 ∨ c = hp2.objs.size := by simpa using hc
        rcases e' with z | z
        · exact ne z
        · rw [z] at lc; exact Nat.lt_irrefl _ lc
      have lt0 : ∀ c o, h'.get? c = some o → c < h'.objs.size := fun c o g => Heap.lt_size g
      have old0 : ∀ c o, h'.get? c = some o → h''.get? c = some o := fun c o g => old c o (up c o g) fun z => by
        have := lt0 c o g
        rw [z] at this
        exact absurd this (Nat.not_lt.mpr (Nat.le_succ _))
      have tsz : ∀ t ∈ ts, hp2.objs.size + 1 ≤ t := fun t ht => by
        obtain ⟨j, hj⟩ := List.getElem?_of_mem ht
        exact (f6 j t hj).1
      have tn : ∀ c o, h'.get? c = some o → c ∉ ts := fun c o g hc => by
        have h1 := Heap.lt_size (up c o g)
        have h2 := tsz c hc
        exact absurd (Nat.lt_of_lt_of_le (Nat.lt_succ_of_lt h1) h2) (Nat.lt_irrefl _)
      have Hn : ∀ c u, H1 c = some u → c ∉ ts := fun c u g hc => by
        have h1 := (I2.hok c u g).lt
        have h2 := tsz c hc
        exact absurd (Nat.lt_of_lt_of_le (Nat.lt_succ_of_lt h1) h2) (Nat.lt_irrefl _)
      obtain ⟨vs, evs⟩ : ∃ vs : List Obj, vs = seq.map fun ls => { cls := .type "tuple", data := .seq (picks acc (ls.1.take n)).toArray } := ⟨_, rfl⟩
      have keepH : ∀ c u, H1 c = some u → addP H1 ts (outP n seq) vs c = some u := fun c u g => by
        unfold addP
        rw [if_neg (Hn c u g)]
        exact g
      have atT : ∀ (j : Nat) (t : Addr), ts[j]? = some t → ∃ ls, seq[j]? = some ls ∧ h''.get? t = some { cls := .type "tuple", data := .seq (picks acc (ls.1.take n)).toArray } ∧ addP H1 ts (outP n seq) vs t = some (.frz { cls := .type "tuple", data := .seq (picks acc (ls.1.take n)).toArray } (.tup ((ls.1.take n).map fun (i : Nat) => V.int i))) := fun j t ht => by
        obtain ⟨_, ls, gl, gt⟩ := f6 j t ht
        refine ⟨ls, gl, gt, ?_⟩
        unfold addP
        rw [if_pos (List.mem_of_getElem? ht), idx_at f5 ht]
        have a1 : vs.getD j { cls := .type "tuple", data := .seq #[] } = { cls := .type "tuple", data := .seq (picks acc (ls.1.take n)).toArray } := by
          rw [evs, List.getD_eq_getElem?_getD, List.getElem?_map, gl]; rfl
        have a2 : (outP n seq).getD j [] = ls.1.take n := by
          rw [List.getD_eq_getElem?_getD, outP_at gl]; rfl
        rw [a1, a2]
      have Sn : addP H1 ts (outP n seq) vs hp2.objs.size = none := by
        unfold addP
        rw [if_neg (fun hc => absurd (tsz _ hc) (Nat.not_succ_le_self _))]
        exact I2.hok.fresh (Nat.le_refl _)
      have S1 : H1 hp2.objs.size = none := I2.hok.fresh (Nat.le_refl _)
      have lsz : h'.objs.size ≤ hp2.objs.size := by rw [e2]; exact Nat.le_add_right _ _
      refine ⟨.ref hp2.objs.size, _, Inv.drained (ex := []) (out := ts.map V.ref) (acc := acc2) (c := cc) I' (H' := addP H1 ts (outP n seq) vs) (s' := { s1 with heap := h'', toks := tk }) lsz (by rw [List.length_map, f4]; exact hsz) f2 ?_ ExOk.nil rfl I'.bare ⟨fun c o g _ _ _ => old0 c o g, fun c o g _ _ _ => ⟨o.slots, old0 c o g⟩, fun c o g hn _ => ?_, fun c o g _ => ⟨o, old0 c o g⟩, fun c zs g => keepH c _ g, fun c o u g => keepH c _ g, fun c ps g => ⟨#[], by rw [keepH c _ g]; simp⟩⟩ (fun c u g => ?_) Sn, rfl, q ts _ _ f4 (fun j t ks ht hx => ?_) keepH Sn S1⟩
      · rw [f3]
        clear f3 f4 f5 f6 tsz tn Hn keepH atT Sn
        induction ts with
        | nil => exact .nil
        | cons t ts ih => exact .cons rfl ih
      · unfold addP
        rw [if_neg (tn c o g)]
        exact hn
      · by_cases w : c ∈ ts
        · obtain ⟨j, hj⟩ := List.getElem?_of_mem w
          obtain ⟨ls, g1, g5, g6⟩ := atT j c hj
          obtain ⟨m1, m2, m3⟩ := ok.len ls (List.mem_of_getElem? g1)
          rw [g6] at g
          cases g
          exact ⟨g5, by rw [List.length_map, List.length_take, sizeLine_eq]; omega, picks acc (ls.1.take n), vals_pickP hi fun j hj => m3 j (List.mem_of_mem_take hj), ⟨_, g5, rfl, _, rfl⟩⟩
        · have g' : H1 c = some u := by
            unfold addP at g
            rw [if_neg w] at g
            exact g
          exact (I'.hok c u g').stay (fun d v _ z => old0 d v z) (fun d z => keepH d _ z) fun d zs z => keepH d _ z
      · obtain ⟨ls, g1, _, g6⟩ := atT j t ht
        rw [outP_at g1] at hx
        cases hx
        exact ⟨_, rfl, g6⟩
section
variable {c : Ct} {H H' : Hp} {Γ : List (Option Rs)} {te : TE} {kd : Kd}
theorem plcs_flat (L : List (List Nat)) : flatAll (L.map plcD) = true := by
  have := fl_rows (L.map castL)
  rw [List.map_map] at this
  exact this
theorem e_listPrm {n : Nat} (h : Ev c te Γ kd (.int (n : Int))) (hn : n ≤ 6) : Ev c (tLstPrm (tCons (tCB rRng1 (tCons te tNil)) tNil)) Γ .o (.list ((difL n n).map plcD)) := fun H0 O H σ e Q q =>
  h H0 O H σ e _ fun v H1 r s => by
    have ev := (Res.bo e s).int'
    subst ev
    obtain ⟨ok, out⟩ := prm_ok hn (Nat.le_refl n)
    have ol : (prmS n n).length = (difL n n).length := by rw [← out]; simp [outP]
    have sm := dif_small hn (k := n) hn
    have s6 : 6 ^ n ≤ 46656 := Nat.le_trans (Nat.pow_le_pow_right (by decide) hn) (by decide)
    have pos : 0 < (prmS n n).length := by
      rcases ok.first with ⟨z, _⟩ | ⟨_, z⟩
      · exact absurd z (Nat.lt_irrefl _)
      · exact (List.getElem?_eq_some_iff.mp z).1
    refine ⟨(n : Int), rfl, fun p hp => ⟨p, n, prmS n n, rfl, upd_same, by omega, pos, by rw [sizeLine_eq]; omega, ok, fun ts H' p2 h1 h2 h3 h4 h5 => ?_⟩⟩
    have sm0 : Same H1 (upd H1 p (.rng 0 (n : Int))) := fun b o z => by rw [upd_ne (ne_of_none z hp)]; exact z
    have sm1 : Same (upd H1 p (.rng 0 (n : Int))) H' := fun b u z => h3 b u z
    have sm2 : Same H' (upd H' p2 (.lst (ts.map V.ref))) := fun b u z => by rw [upd_ne (ne_of_none z h4)]; exact z
    refine q _ _ (r.tr (((Rr.same sm0).tr (Rr.same sm1)).tr (Rr.same sm2))) ⟨[p2], .lst upd_same (FoAll.leaves (plcs_flat _) (bo_of (by simp [h1, ol]) fun j v d hv hd' => ?_)), by simp, fun a ha => ?_⟩
    · rw [List.getElem?_map] at hv
      obtain ⟨t, ht, rfl⟩ := Option.map_eq_some_iff.mp hv
      have hj := (List.getElem?_eq_some_iff.mp ht).1
      rw [List.getElem?_map] at hd'
      obtain ⟨ks, hks, rfl⟩ := Option.map_eq_some_iff.mp hd'
      obtain ⟨o, ho, ht'⟩ := h2 j t ks ht (by rw [out]; exact hks)
      refine .tup (.inl ⟨o, ho, sm2 _ _ ht'⟩) ?_
      have e1 : (ks.map fun (i : Nat) => V.int (i : Int)) = (ks.map fun (i : Nat) => (i : Int)).map V.int := by rw [List.map_map]; rfl
      rw [e1]
      exact BoAll.ofInts _
    · rw [List.mem_singleton.mp ha]
      cases z : H p2 with
      | none => rfl
      | some o =>
        have okp : okA c p2 := by
          intro st l q2 z2
          have j1 := e.jH
          obtain ⟨ns, x, k, g1, g2, g3, g4⟩ := (r.2 j1) st l q2
          have := sm0 _ _ g1
          rw [← z2] at this
          rw [this] at h5
          cases h5
        have := sm0 _ _ (r.1 p2 o okp z)
        rw [this] at h5
        cases h5
end
end Lm


namespace Lm
open PySem PySem.Spec PyProof.Rows L2
/-! ### the first order with the least total (k73) -/
def fmn (g : List Nat → Int) (L : List (List Nat)) : Option (List Nat) := L.foldl (fun o x => match o with
  | none => some x
  | some y => if g x < g y then some x else some y) none
theorem fmn_snoc {g : List Nat → Int} {L : List (List Nat)} {x : List Nat} : fmn g (L ++ [x]) = match fmn g L with
  | none => some x
  | some y => if g x < g y then some x else some y := by
  unfold fmn
  rw [List.foldl_append]
  rfl
theorem fmn_spec (g : List Nat → Int) (L : List (List Nat)) : (fmn g L = none ∧ L = []) ∨ ∃ (j : Nat) (y : List Nat), fmn g L = some y ∧ L[j]? = some y ∧ (∀ i : Nat, i < j → ∀ x, L[i]? = some x → g y < g x) ∧ ∀ x ∈ L, g y ≤ g x := by
  have key : ∀ M : List (List Nat), let L := M.reverse; (fmn g L = none ∧ L = []) ∨ ∃ (j : Nat) (y : List Nat), fmn g L = some y ∧ L[j]? = some y ∧ (∀ i : Nat, i < j → ∀ x, L[i]? = some x → g y < g x) ∧ ∀ x ∈ L, g y ≤ g x := by
    intro M
    induction M with
    | nil => exact .inl ⟨rfl, rfl⟩
    | cons a M ih =>
      refine .inr ?_
      simp only [List.reverse_cons]
      simp only at ih
      obtain ⟨L, eL⟩ : ∃ L, L = M.reverse := ⟨_, rfl⟩
      rw [← eL] at ih ⊢
      rw [fmn_snoc]
      rcases ih with ⟨e, rfl⟩ | ⟨j, y, e, hj, h1, h2⟩
      · rw [e]
        exact ⟨0, a, rfl, rfl, fun i hi => by omega, fun x hx => by rw [List.mem_singleton.mp hx]; exact Int.le_refl _⟩
      · rw [e]
        have jl := (List.getElem?_eq_some_iff.mp hj).1
        by_cases q : g a < g y
        · refine ⟨L.length, a, if_pos q, by simp, fun i hi x hx => ?_, fun x hx => ?_⟩
          · rw [List.getElem?_append_left hi] at hx
            have := h2 x (List.mem_of_getElem? hx)
            omega
          · rcases List.mem_append.mp hx with w | w
            · have := h2 x w; omega
            · rw [List.mem_singleton.mp w]; exact Int.le_refl _
        · refine ⟨j, y, if_neg q, by rw [List.getElem?_append_left jl]; exact hj, fun i hi x hx => ?_, fun x hx => ?_⟩
          · rw [List.getElem?_append_left (by omega)] at hx
            exact h1 i hi x hx
          · rcases List.mem_append.mp hx with w | w
            · exact h2 x w
            · rw [List.mem_singleton.mp w]; omega
  have := key L.reverse
  simpa using this
def totO (A : List (List Int)) (ks : List Nat) : Int := ((prs A).map fun p => zs ne1 (runL p.1 (castL ks)) (runL p.2 (castL ks))).sum
theorem dif_nodup {n : Nat} : ∀ {k : Nat} {r : List Nat}, r ∈ difL n k → r.Nodup
  | 0, r, h => by
    have : r = [] := by simpa [difL] using h
    subst this
    exact List.nodup_nil
  | k + 1, r, h => by
    unfold difL at h
    obtain ⟨s, hs, hr⟩ := List.mem_flatMap.mp h
    obtain ⟨x, hx, rfl⟩ := List.mem_map.mp hr
    have nd := dif_nodup hs
    have nx := of_decide_eq_true (List.mem_filter.mp hx).2
    rw [List.nodup_append]
    exact ⟨nd, by simp, fun a ha b hb e => nx (by rw [List.mem_singleton.mp hb] at e; rw [← e]; exact ha)⟩
theorem mem_dif {n : Nat} : ∀ {k : Nat} {r : List Nat}, r.length = k → r.Nodup → (∀ x ∈ r, x < n) → r ∈ difL n k
  | 0, r, h, _, _ => by
    rw [List.length_eq_zero_iff.mp h]
    simp [difL]
  | k + 1, r, h, nd, hx => by
    have e : r = r.dropLast ++ [r.getLast (by intro z; rw [z] at h; cases h)] := (List.dropLast_concat_getLast _).symm
    obtain ⟨s, es⟩ : ∃ s, s = r.dropLast := ⟨_, rfl⟩
    obtain ⟨x, ex⟩ : ∃ x, x = r.getLast (by intro z; rw [z] at h; cases h) := ⟨_, rfl⟩
    rw [← es, ← ex] at e
    rw [e] at nd hx h
    rw [List.nodup_append] at nd
    unfold difL
    rw [e]
    refine List.mem_flatMap.mpr ⟨s, mem_dif (by simpa using h) nd.1 fun y hy => hx y (by simp [hy]), List.mem_map.mpr ⟨x, List.mem_filter.mpr ⟨List.mem_range.mpr (hx x (by simp)), ?_⟩, rfl⟩⟩
    exact decide_eq_true fun hm => nd.2.2 x hm x (by simp) rfl
theorem dif_ord {n : Nat} {ks : List Nat} (h : ks ∈ difL n n) : IsOrd (castL ks) (n : Int) := by
  obtain ⟨h1, h2⟩ := dif_len h
  refine ⟨by unfold castL; rw [List.length_map, h1], ?_, fun x hx => ?_⟩
  · unfold castL
    exact List.pairwise_map.mpr ((dif_nodup h).imp fun ne e => ne (by omega))
  · unfold castL at hx
    obtain ⟨y, hy, rfl⟩ := List.mem_map.mp hx
    have := h2 y hy
    omega
section
variable {A : List (List Int)} {v b : Int}
end
def bstD (A : List (List Int)) (n : Nat) : PyData := match fmn (totO A) (difL n n) with
  | none => .none
  | some ks => .tuple [plcD ks, .int (totO A ks), .int (totA A)]
def sp_best_order (K : PySem.W.Frag) : Sp := spD K fun ds k d => ∃ A v b, ds = [.tuple (A.map tupD)] ∧ Ser A v b ∧ A.length ≤ 6 ∧ v ≤ 5 ∧ k = .v ∧ d = bstD A v.toNat
end Lm


/-! sorted(xs), xs a list of data that can be compared -/
namespace L2
open PySem PySem.Spec PyProof.Rows
end L2
namespace Lm
open PySem PySem.Spec PyProof.Rows L2
section
variable {X : Cx} {K : PySem.W.Frag} (hK : X.K = K)
include hK
end
section
variable {c : Ct} {Γ : List (Option Rs)} {te : TE} {k : Kd}
end
end Lm


/-! a comprehension whose items stay, lists in them too; a for loop over such things -/
namespace Lm
open PySem PySem.Spec PyProof.Rows L2
section
variable {c : Ct} {H H' H0 H1 H2 H3 H4 : Hp} {O : List Addr} {σ : L2.St} {Γ Γ' : List (Option Rs)} {te ta tb tx : TE} {tr : TA} {k ka kb : Kd} {u : TS} {P : Out → Prop} {n : Nat} {x d : PyData} {ds : List PyData} {fz : Bool}
end
end Lm
namespace Lm
open PySem PySem.Spec PyProof.Rows L2
/-! ### any value: what shows that a set is too small -/
def SmF (x : PyData) : Prop := ∀ es, x = .tuple es → es.length < 64
theorem SmF.t {x : PyData} (h : SmF x) : SmallT x := fun es e => by have := h es e; omega
end Lm
namespace Lm
open PySem PySem.Spec PyProof.Rows L2
end Lm
namespace Lm
open PySem PySem.Spec PyProof.Rows L2
end Lm


namespace Lm
open PySem PySem.Spec PyProof.Rows L2
section
variable {c : Ct} {H H' H0 H1 H2 H3 H4 : Hp} {O : List Addr} {σ : L2.St} {Γ Γ' : List (Option Rs)} {te ta tb tx : TE} {tt : TT} {tr : TA} {k ka kb : Kd} {u : TS} {n : Nat} {x d : PyData} {ds : List PyData} {fz : Bool}
end
theorem smf_len {es : List PyData} (h : es.length < 64) : SmF (.tuple es) := fun es' e => by cases e; exact h
theorem smf_tup {ns : List Int} (h : ns.length < 64) : SmF (tupD ns) := smf_len (by simpa using h)
theorem smf_no {x : PyData} (h : ∀ es, x ≠ .tuple es) : SmF x := fun es e => absurd e (h es)
end Lm


/-! displays of which some items are drawn -/
namespace Lm
open PySem PySem.Spec PyProof.Rows L2
def EvAN (c : Ct) (ta : TA) (Γ : List (Option Rs)) (Pd : List PyData → Prop) : Prop :=
  ∀ H0 O H σ, Env c H0 O H σ Γ → ∀ Q : List V → Hp → Prop, (∀ vs ds H2, Pd ds → Rr c H H2 → BoAll c (mns H2 O) vs ds → Q vs H2) → ta σ H Q
section
variable {c : Ct} {H H' H0 H1 H2 H3 H4 : Hp} {O : List Addr} {σ : L2.St} {Γ Γ' : List (Option Rs)} {te ta tb tx : TE} {tr : TA} {k ka kb : Kd} {u : TS} {n : Nat} {x d : PyData} {ds : List PyData} {P P' : PyData → Prop} {Pd : List PyData → Prop}
theorem EvAN.imp {P2 : List PyData → Prop} (h : EvAN c tr Γ Pd) (i : ∀ ds, Pd ds → P2 ds) : EvAN c tr Γ P2 := fun H0 O H σ e Q q => h H0 O H σ e Q fun vs ds H2 p => q vs ds H2 (i ds p)
end
theorem smf_i {i : Int} : SmF (.int i) := smf_no fun es e => by cases e
end Lm


/-! sorted(xs, key=len), xs a list of lists -/
namespace L2
open PySem PySem.Spec PyProof.Rows
end L2
namespace L2
open PySem PySem.Spec PyProof.Rows
end L2
namespace Lm
open PySem PySem.Spec PyProof.Rows L2
def lenI (a b : List Int) : Bool := decide ((a.length : Int) ≤ (b.length : Int))
section
variable {c : Ct} {Γ : List (Option Rs)} {te : TE} {k : Kd}
end
end Lm
namespace Lm
open PySem PySem.Spec PyProof.Rows L2
end Lm
namespace Lm
open PySem PySem.Spec PyProof.Rows L2
end Lm
namespace Lm
open PySem PySem.Spec PyProof.Rows L2
end Lm
namespace Lm
open PySem PySem.Spec PyProof.Rows L2
def SmL (x : PyData) : Prop := ∀ es, x = .tuple es → es.length ≤ 1000 ∧ ∀ r ∈ es, SmF r
end Lm


/-! lists by whomever (k56) -/
namespace Lm
open PySem PySem.Spec PyProof.Rows L2
/-! ### rules: a slice whose end is drawn, tuples of which one is drawn -/
section
variable {c : Ct} {H H' H0 H1 H2 H3 : Hp} {O : List Addr} {Γ Γ' Γ1 : List (Option Rs)}
variable {te ta tb tx : TE} {tl th : TO} {k ka kb : Kd} {d x y z : PyData} {i j : Int} {a b : Bool} {ds es : List PyData}
end
/-! ### the mathematics -/
inductive RwX : PyData → Prop
  | row {ns : List Int} : ns.length ≤ 60 → RwX (tupD ns)
  | bad {ns : List Int} : ns.length ≤ 60 → RwX (.tuple (ns.map .int ++ [.bool true]))
  | int (i : Int) : RwX (.int i)
def LsX (x : PyData) : Prop := x = .none ∨ (∃ xs, x = .list xs) ∨ ∃ es, x = .tuple es ∧ es.length ≤ 10 ∧ ∀ e ∈ es, RwX e
theorem RwX.sm {e : PyData} (h : RwX e) : SmF e := by
  cases h with
  | row h => exact smf_tup (by omega)
  | bad h => exact smf_len (by simp; omega)
  | int i => exact smf_i
theorem LsX.sm {x : PyData} (h : LsX x) : SmL x := fun es e => by
  subst e
  rcases h with h | ⟨xs, h⟩ | ⟨es', h, hl, hr⟩
  · cases h
  · cases h
  · cases h
    exact ⟨by omega, fun r hr' => (hr r hr').sm⟩
/-! ### the promises -/
end Lm


/-! a dict of one's own whose values are scalars -/
namespace Lm
open PySem PySem.Spec PyProof.Rows L2
section
variable {c : Ct} {H H' H0 H1 H2 H3 : Hp} {O : List Addr} {σ : L2.St} {Γ Γ' : List (Option Rs)} {te ta tb tx : TE} {k ka kb : Kd} {u : TS} {P : Out → Prop} {n : Nat} {x d : PyData} {i : Int}
theorem Env.slotD (e : Env c H0 O H σ Γ) {i : Nat} {u : HO} (h : Γ[i]? = some (some (.d u))) : ∃ a, σ[i]? = some (some (.ref a)) ∧ H a = some u ∧ OwnU u ∧ a ∈ O := by
  obtain ⟨fp, hr, nd, sub⟩ := e.rep
  obtain ⟨x, f, pre, post, h1, h2, h3, h4⟩ := hr.nth h
  obtain ⟨a, rfl, rfl, ha, hu⟩ := h2
  subst h3
  exact ⟨a, h1, ha, hu, sub a (by simp)⟩
/-- a slot is given a new dict -/
theorem Env.setD (e : Env c H0 O H σ Γ) {i : Nat} {p : Addr} {u : HO} (hp : H p = none) (hu : OwnU u) : Env c H0 (p :: O) (upd H p u) (σ.set i (some (.ref p))) (Γ.set i (some (.d u))) := by
  have sm : Same H (upd H p u) := fun b o z => by rw [upd_ne (ne_of_none z hp)]; exact z
  have r : Rr c H (upd H p u) := Rr.same sm
  have e' := e.on r
  have hO : p ∉ O := new_notO e hp
  have hn : mns H O p = none := by rw [mns_out hO]; exact hp
  have em : mns (upd H p u) (p :: O) = mns H O := by
    funext a
    by_cases q : a = p
    · subst q
      rw [mns_in (by simp), hn]
    · by_cases w : a ∈ O
      · rw [mns_in w, mns_in (by simp [w])]
      · rw [mns_out w, mns_out (by simp [w, q]), upd_ne q]
  refine ⟨by rw [em]; exact e.r0, by rw [em]; exact e.j, fun a ha => ?_, fun a ha => ?_, ?_⟩
  · rcases List.mem_cons.mp ha with q | q
    · rw [q]; exact e.back0 hn
    · exact e.fr a q
  · rcases List.mem_cons.mp ha with q | q
    · rw [q]; exact ⟨u, upd_same, hu⟩
    · exact e'.dm a q
  · obtain ⟨fp, hr, nd, sub⟩ := e.rep
    have keep : ∀ y t g, (∀ a ∈ g, a ∈ O) → RepO c O H y t g → RepO c (p :: O) (upd H p u) y t g := fun y t g hg z => by
      cases t with
      | none => exact z
      | some t =>
        cases t with
        | v d => exact ⟨z.1, z.2.elim fun v hv => ⟨v, hv.1, by rw [em]; exact hv.2⟩⟩
        | o d => exact z.elim fun v hv => ⟨v, hv.1, hv.2.up (fun _ _ s => r.tup e.jH s) fun a ha o ho => r.1 a o (e.okO a (hg a ha)) ho⟩
        | r y => exact z
        | d u => exact z.elim fun a ⟨w1, w2, w3, w4⟩ => ⟨a, w1, w2, r.1 a _ (e.okO a (hg a (by rw [w1]; simp))) w3, w4⟩
        | w ds => exact z.elim fun a ⟨xs, w1, w2, w3, w4⟩ => ⟨a, xs, w1, w2, r.1 a _ (e.okO a (hg a (by rw [w1]; simp))) w3, by rw [em]; exact w4⟩
    by_cases hi : i < Γ.length
    · obtain ⟨x, g, pre, post, h1, h2, h3, h4⟩ := hr.nth (s := Γ[i]) (List.getElem?_eq_getElem hi)
      subst h3
      refine ⟨pre ++ ([p] ++ post), h4 _ _ _ _ [p] (fun y t g' q z => keep y t g' (fun a ha => sub a (by have := q a ha; simp at this ⊢; rcases this with w | w <;> simp [w])) z) ⟨p, rfl, rfl, upd_same, hu⟩, ?_, fun a ha => ?_⟩
      · have n0 : (pre ++ post).Nodup := nd.sublist (by simp)
        rw [List.nodup_append] at n0 ⊢
        refine ⟨n0.1, ?_, ?_⟩
        · rw [List.nodup_append]
          refine ⟨by simp, n0.2.1, fun a ha b' hb q => ?_⟩
          subst q
          rw [List.mem_singleton.mp ha] at hb
          exact hO (sub p (by simp [hb]))
        · intro a ha b' hb q
          subst q
          rcases List.mem_append.mp hb with w | w
          · rw [List.mem_singleton.mp w] at ha
            exact hO (sub p (by simp [ha]))
          · exact n0.2.2 a ha a w rfl
      · simp only [List.mem_append, List.mem_cons, List.not_mem_nil, or_false] at ha ⊢
        rcases ha with q | q | q
        · exact .inr (sub a (by simp [q]))
        · exact .inl q
        · exact .inr (sub a (by simp [q]))
    · have hs : ¬ i < σ.length := by rw [hr.len]; exact hi
      rw [List.set_eq_of_length_le (by omega), List.set_eq_of_length_le (by omega)]
      exact ⟨fp, hr.map fun x s g q z => keep x s g (fun a ha => sub a (q a ha)) z, nd, fun a ha => by simp [sub a ha]⟩
/-- a dict of one's own is written -/
theorem Env.writeD (e : Env c H0 O H σ Γ) {i : Nat} {u w : HO} (h : Γ[i]? = some (some (.d u))) (hw : OwnU w) : ∃ p, σ[i]? = some (some (.ref p)) ∧ H p = some u ∧ p ∈ O ∧ Env c H0 O (upd H p w) σ (Γ.set i (some (.d w))) := by
  obtain ⟨fp, hr, nd, sub⟩ := e.rep
  obtain ⟨x, f0, pre, post, h1, h2, h3, h4⟩ := hr.nth h
  obtain ⟨p, rfl, rfl, hp, hu⟩ := h2
  subst h3
  have hpO : p ∈ O := sub p (by simp)
  have n2 := (List.nodup_append.mp nd).2.1
  refine ⟨p, h1, hp, hpO, ?_⟩
  have em : mns (upd H p w) O = mns H O := by
    funext a
    by_cases ha : a ∈ O
    · rw [mns_in ha, mns_in ha]
    · rw [mns_out ha, mns_out ha, upd_ne (fun z => ha (by rw [z]; exact hpO))]
  refine ⟨by rw [em]; exact e.r0, by rw [em]; exact e.j, e.fr, fun a ha => ?_, ?_⟩
  · by_cases q : a = p
    · rw [q]; exact ⟨_, upd_same, hw⟩
    · rw [upd_ne q]; exact e.dm a ha
  · have hσ : σ.set i (some (.ref p)) = σ := by
      obtain ⟨hlt, e1⟩ := List.getElem?_eq_some_iff.mp h1
      rw [← e1]
      exact List.set_getElem_self hlt
    have np : ∀ a, a ∈ pre ++ post → a ≠ p := fun a hm z => by
      subst z
      rcases List.mem_append.mp hm with v | v
      · exact (List.nodup_append.mp nd).2.2 a v a (by simp) rfl
      · exact (List.nodup_append.mp n2).2.2 a (by simp) a v rfl
    have := h4 O (upd H p w) (some (.ref p)) (some (.d w)) [p] (fun y t g q z => ?_) ⟨p, rfl, rfl, upd_same, hw⟩
    · rw [hσ] at this
      exact ⟨_, this, nd, sub⟩
    · cases t with
      | none => exact z
      | some t =>
        cases t with
        | v d => exact ⟨z.1, z.2.elim fun v hv => ⟨v, hv.1, by rw [em]; exact hv.2⟩⟩
        | o d =>
          refine z.elim fun v hv => ⟨v, hv.1, hv.2.up (fun _ _ s => sqT_updO hp hu s) fun a ha o ho => ?_⟩
          rw [upd_ne (np a (q a ha))]
          exact ho
        | r y => exact z
        | d u2 =>
          refine z.elim fun a ⟨w1, w2, w3, w4⟩ => ⟨a, w1, w2, ?_, w4⟩
          rw [upd_ne (np a (q a (by rw [w1]; simp)))]
          exact w3
        | w ds =>
          refine z.elim fun a ⟨xs, w1, w2, w3, w4⟩ => ⟨a, xs, w1, w2, ?_, by rw [em]; exact w4⟩
          rw [upd_ne (np a (q a (by rw [w1]; simp)))]
          exact w3
/-! ### rules -/
end
end Lm
namespace Lm
open PySem PySem.Spec PyProof.Rows L2
theorem rUnits1 {k : Nat} {A : Around} (hr : Room k A) : A.units + 1 < cLine := by have := hr.un; omega
end Lm


/-! the first list that serves (k55, k20) -/
namespace Lm
open PySem PySem.Spec PyProof.Rows L2
/-! ### sets that grow, each ascending -/
def addF (acc row : List Int) : List Int := acc ++ row.filter fun x => !decide (x ∈ acc)
structure Grow (acc : List Int) (R : List (List Int)) : Prop where
  nd : acc.Nodup
  asc : ∀ S ∈ R, S.Pairwise (· < ·)
  sub : ∀ S ∈ R, ∀ x ∈ acc, x ∈ S
  pw : R.Pairwise fun S T => ∀ x ∈ S, x ∈ T
theorem asc_nd {S : List Int} (h : S.Pairwise (· < ·)) : S.Nodup := h.imp fun w e => by omega
theorem add_perm {acc S : List Int} (nd : acc.Nodup) (ns : S.Nodup) (sub : ∀ x ∈ acc, x ∈ S) : (addF acc S).Perm S := by
  unfold addF
  refine (List.perm_ext_iff_of_nodup ?_ ns).mpr fun x => ?_
  · rw [List.nodup_append]
    exact ⟨nd, ns.filter _, fun a ha b hb e => by
      have := (List.mem_filter.mp hb).2
      rw [e] at ha
      simp [ha] at this⟩
  · rw [List.mem_append, List.mem_filter]
    constructor
    · rintro (h | h)
      · exact sub x h
      · exact h.1
    · intro h
      by_cases q : x ∈ acc
      · exact .inl q
      · exact .inr ⟨h, by simp [q]⟩
theorem Grow.step {acc S : List Int} {R : List (List Int)} (h : Grow acc (S :: R)) : (addF acc S).Perm S ∧ Grow (addF acc S) R := by
  have p1 := List.pairwise_cons.mp h.pw
  have p := add_perm h.nd (asc_nd (h.asc S (by simp))) (h.sub S (by simp))
  exact ⟨p, ⟨p.nodup_iff.mpr (asc_nd (h.asc S (by simp))), fun T hT => h.asc T (by simp [hT]), fun T hT x hx => p1.1 T hT x (p.mem_iff.mp hx), p1.2⟩⟩
theorem Grow.fold : ∀ {R : List (List Int)} {acc : List Int}, Grow acc R → acc <+: R.foldl addF acc ∧ (R.foldl addF acc).Nodup ∧ (∀ S ∈ R, ((R.foldl addF acc).take S.length).Perm S) ∧ ∀ S, R.getLast? = some S → (R.foldl addF acc).Perm S
  | [], acc, h => ⟨List.prefix_refl _, h.nd, (fun S hS => nomatch hS), fun S hS => nomatch hS⟩
  | S :: R, acc, h => by
    obtain ⟨p, g⟩ := h.step
    obtain ⟨i1, i2, i3, i4⟩ := g.fold
    rw [List.foldl_cons]
    refine ⟨(List.prefix_append _ _).trans i1, i2, fun T hT => ?_, fun T hT => ?_⟩
    · rcases List.mem_cons.mp hT with w | w
      · obtain ⟨t, ht⟩ := i1
        rw [w, ← ht, List.take_append_of_le_length (by rw [p.length_eq]; exact Nat.le_refl _), List.take_of_length_le (by rw [p.length_eq]; exact Nat.le_refl _)]
        exact p
      · exact i3 T w
    · cases R with
      | nil =>
        have : T = S := by simpa using hT.symm
        rw [this]; exact p
      | cons U R => exact i4 T (by simpa using hT)
end Lm
namespace Lm
open PySem PySem.Spec PyProof.Rows L2
/-- sets of which any two are one in the other, by size -/
structure Chn (M : List (List Int)) : Prop where
  asc : ∀ S ∈ M, S.Pairwise (· < ·)
  sub : ∀ S ∈ M, ∀ T ∈ M, S.length ≤ T.length → ∀ x ∈ S, x ∈ T
theorem sort_mem {M : List (List Int)} {S : List Int} : S ∈ M.mergeSort lenI ↔ S ∈ M := (List.mergeSort_perm _ _).mem_iff
theorem sort_len (M : List (List Int)) : (M.mergeSort lenI).Pairwise fun S T => S.length ≤ T.length := by
  have := List.pairwise_mergeSort (le := lenI) (fun a b c h1 h2 => by unfold lenI at *; simp at *; omega) (fun a b => by unfold lenI; simp; omega) M
  exact this.imp fun h => by unfold lenI at h; simp at h; omega
theorem Chn.grow {M : List (List Int)} (h : Chn M) : Grow [] (M.mergeSort lenI) := ⟨List.nodup_nil, fun S hS => h.asc S (sort_mem.mp hS), (fun S _ x hx => nomatch hx), by
  have := sort_len M
  exact this.imp_of_mem fun {S T} hS hT l => h.sub S (sort_mem.mp hS) T (sort_mem.mp hT) l⟩
def slM (M : List (List Int)) : List Int := (M.mergeSort lenI).foldl addF []
theorem Chn.nd {M : List (List Int)} (h : Chn M) : (slM M).Nodup := h.grow.fold.2.1
theorem Chn.take {M : List (List Int)} (h : Chn M) {S : List Int} (hS : S ∈ M) : ((slM M).take S.length).Perm S := h.grow.fold.2.2.1 S (sort_mem.mpr hS)
/-! ### the first list of a rule (k55) -/
end Lm


/-! first lists of a table (k20, k21) -/
namespace Lm
open PySem PySem.Spec PyProof.Rows L2
/-! ### the full lists -/
def rngI (b : Nat) : List Int := (List.range b).map fun (i : Nat) => (i : Int)
theorem rngI_asc (b : Nat) : (rngI b).Pairwise (· < ·) := by
  unfold rngI
  rw [List.pairwise_map]
  exact List.pairwise_lt_range.imp fun w => by omega
theorem mem_rngI {b : Nat} {x : Int} : x ∈ rngI b ↔ 0 ≤ x ∧ x < b := by
  unfold rngI
  rw [List.mem_map]
  constructor
  · rintro ⟨i, hi, rfl⟩
    have := List.mem_range.mp hi
    omega
  · intro h
    exact ⟨x.toNat, List.mem_range.mpr (by omega), by omega⟩
theorem Chn.full {M : List (List Int)} {b : Nat} (h : Chn M) (hM : ∀ S ∈ M, ∀ x ∈ S, 0 ≤ x ∧ x < b) : Grow [] (M.mergeSort lenI ++ [rngI b]) := by
  have g := h.grow
  refine ⟨List.nodup_nil, fun S hS => ?_, (fun S _ x hx => nomatch hx), ?_⟩
  · rcases List.mem_append.mp hS with w | w
    · exact g.asc S w
    · rw [List.mem_singleton.mp w]; exact rngI_asc b
  · rw [List.pairwise_append]
    refine ⟨g.pw, List.pairwise_singleton .., fun S hS T hT x hx => ?_⟩
    rw [List.mem_singleton.mp hT]
    exact mem_rngI.mpr (hM S (sort_mem.mp hS) x hx)
/-! ### the promises -/
end Lm


/-! defs that answer or raise: promises, and what raises within a body -/
namespace Lm
open PySem PySem.Spec PyProof.Rows L2
def spRef (K : PySem.W.Frag) (C : Addr) (R : List PyData → Str → Prop) : Sp := fun vs H Q E => ∃ ds nm, BoAll (pc K) H vs ds ∧ R ds nm ∧ ∀ dx H1, Same H H1 → H1 dx = some (.xd [("name", .str nm)]) → E (.ref C) (some dx) H1
abbrev spDR (K : PySem.W.Frag) (C : Addr) (sp : Sp) (R : List PyData → Str → Prop) : Sp := fun vs H Q E => sp vs H Q E ∨ spRef K C R vs H Q E
section
variable {K : PySem.W.Frag} {C : Addr} {H0 : Hp} {Γ : List (Option Rs)} {σ : L2.St} {te tf : TE} {ta : TA} {tt : TT} {t u : TS} {k kb : Kd} {d x : PyData} {n : Nat} {nm : Str} {ds : List PyData} {R : List PyData → Str → Prop} {sp : Sp} {E : XK} {W : L2.St → XK} {a : Bool}
/-- te raises -/
def EvRz (c : Ct) (H0 : Hp) (te : TE) (Γ : List (Option Rs)) : Prop := ∀ O H σ Q, Env c H0 O H σ Γ → te σ H Q
theorem same_of {H H1 : Hp} (e : Env (pc K) H0 O H σ Γ) (r : Rr (pc K) H H1) {H2 : Hp} (sm : Same H1 H2) : Same H0 H2 := fun a o w => sm a o ((e.rH.tr r).1 a o (fun _ _ w => nomatch w) w)
theorem x_ref (ha : EvA (pc K) ta Γ false ds) (hr : R ds nm) (hE : ∀ dx H1, Same H0 H1 → H1 dx = some (.xd [("name", .str nm)]) → E (.ref C) (some dx) H1) : EvRz (pc K) H0 (tCall (spDR K C sp R) [] E ta) Γ := fun O H σ Q e =>
  ha H0 O H σ e _ fun vs H1 r s => .inr ⟨ds, nm, by rw [List.append_nil]; exact s, hr, fun dx H2 sm z => hE dx H2 (same_of e r sm) z⟩
theorem x_good {pre : Pre} (h : EvA (pc K) ta Γ false ds) (hp : pre ds k d) : Ev (pc K) (tCall (spDR K C (spD K pre) R) [] E ta) Γ k d := fun H0 O H σ e Q q =>
  h H0 O H σ e _ fun vs H1 r s => by
    refine .inl ⟨ds, k, d, by rw [List.append_nil]; exact s.pure, hp, fun v H2 sm rt => q v H2 (r.tr (Rr.same sm)) ?_⟩
    have r2 : Rr (pc K) H H2 := r.tr (Rr.same sm)
    cases k with
    | v => exact (Bo.flat (c := pc K) (c' := pc K) rfl rt.1 rt.2).flatM e r2 rt.1
    | o =>
      obtain ⟨fp, f, nd, new⟩ := rt
      exact ⟨fp, f, nd, fun a ha => r.back e.jH (new a ha)⟩
    | b => obtain ⟨⟨_, e⟩, _⟩ := rt; exact nomatch e
theorem xl_req (hz : nm.length ≤ 1000) (hE : ∀ dx H1, Same H0 H1 → H1 dx = some (.xd [("name", .str nm)]) → E (.ref C) (some dx) H1) (h : Ev (pc K) te Γ k (.bool false)) : SdX (pc K) H0 (tDrop (tCall (spReq C) [] E (tCons te (tCons (tC (.str nm)) tNil)))) Γ := fun O H σ D e =>
  h H0 O H σ e _ fun v H1 r s => ⟨false, nm, by rw [(Res.bo e s).bl']; rfl, hz, (fun w => nomatch w), fun _ dx hdx => hE dx _ (fun a o z => by
    have z1 : H1 a = some o := (e.rH.tr r).1 a o (fun _ _ w => nomatch w) z
    rw [upd_ne (ne_of_none z1 hdx)]
    exact z1) upd_same⟩
theorem x_okreq (hz : nm.length ≤ 1000) (h : Ev (pc K) te Γ k (.bool true)) (p : SdX (pc K) H0 u Γ) : SdX (pc K) H0 (tSeq (tDrop (tCall (spReq C) [] E (tCons te (tCons (tC (.str nm)) tNil)))) u) Γ := fun O H σ D e =>
  h H0 O H σ e _ fun v H1 r s => ⟨true, nm, by rw [(Res.bo e s).bl']; rfl, hz, (fun _ => p O H1 σ D (e.on r)), fun w => nomatch w⟩
theorem x_seq {c : Ct} (h : SdX c H0 t Γ) : SdX c H0 (tSeq t u) Γ := fun O H σ D e => h O H σ _ e
theorem x_dropE {c : Ct} (h : EvRz c H0 te Γ) : SdX c H0 (tDrop te) Γ := fun O H σ D e => h O H σ _ e
theorem run_ref {N : List Str} {t : TS} {vs : List V} {H : Hp} {Q : VK}
    (hs : ∀ ds nm, R ds nm → (∀ dx H1, Same H H1 → H1 dx = some (.xd [("name", .str nm)]) → E (.ref C) (some dx) H1) → SdX (pc K) H t (argsG ds N.length)) (h : spRef K C R vs H Q E) : t { nx := fun _ H' => Q .non H', rt := Q } (start N vs) H := by
  obtain ⟨ds, nm, hb, hd, hE⟩ := h
  exact hs ds nm hd hE [] H (start N vs) _ (env_args Ji.pc hb)
/-! under try, where nothing is assigned -/
def SdY (c : Ct) (H0 : Hp) (σ : L2.St) (t : TS) (Γ : List (Option Rs)) : Prop := ∀ O H D, Env c H0 O H σ Γ → t D σ H
theorem y_if {c : Ct} (h : EvT c tt Γ a) (h1 : a = true → SdY c H0 σ t Γ) (h2 : a = false → SdY c H0 σ u Γ) : SdY c H0 σ (tIfS tt t u) Γ := fun O H D e => h H0 O H σ e _ fun H1 r => by
  show if a = true then t D σ H1 else u D σ H1
  cases a with
  | true => rw [if_pos rfl]; exact h1 rfl O H1 D (e.on r)
  | false => rw [if_neg (by decide)]; exact h2 rfl O H1 D (e.on r)
theorem y_yes {c : Ct} (h : EvT c tt Γ true) (h1 : SdY c H0 σ t Γ) : SdY c H0 σ (tIfS tt t u) Γ := y_if h (fun _ => h1) fun w => nomatch w
theorem y_no {c : Ct} (h : EvT c tt Γ false) (h1 : SdY c H0 σ u Γ) : SdY c H0 σ (tIfS tt t u) Γ := y_if h (fun w => nomatch w) fun _ => h1
theorem y_drop (ha : EvA (pc K) ta Γ false ds) (hr : R ds nm) (hE : ∀ dx H1, Same H0 H1 → H1 dx = some (.xd [("name", .str nm)]) → W σ (.ref C) (some dx) H1) : SdY (pc K) H0 σ (tDrop (tCallS (spDR K C sp R) W ta)) Γ := fun O H D e =>
  ha H0 O H σ e _ fun vs H1 r s => .inr ⟨ds, nm, s, hr, fun dx H2 sm z => hE dx H2 (same_of e r sm) z⟩
theorem d_callS {pre : Pre} (h : EvA (pc K) ta Γ false ds) (hp : pre ds k d) : Ev (pc K) (tCallS (spDR K C (spD K pre) R) W ta) Γ k d := fun H0 O H σ e Q q =>
  h H0 O H σ e _ fun vs H1 r s => by
    refine .inl ⟨ds, k, d, s.pure, hp, fun v H2 sm rt => q v H2 (r.tr (Rr.same sm)) ?_⟩
    have r2 : Rr (pc K) H H2 := r.tr (Rr.same sm)
    cases k with
    | v => exact (Bo.flat (c := pc K) (c' := pc K) rfl rt.1 rt.2).flatM e r2 rt.1
    | o =>
      obtain ⟨fp, f, nd, new⟩ := rt
      exact ⟨fp, f, nd, fun a ha => r.back e.jH (new a ha)⟩
    | b => obtain ⟨⟨_, e⟩, _⟩ := rt; exact nomatch e
end
/-! ### who raises what -/
/-! ### k26 -/
end Lm


/-! what lists give, told or refused (k22) -/
namespace Lm
open PySem PySem.Spec PyProof.Rows L2
section
variable {K : PySem.W.Frag} {C : Addr} {σ : L2.St} {nm : Str}
end
/-! ### any value as an allocation -/
def balB (x : PyData) : Bool := areInts x 0 20 && ((decide (1 ≤ lenT x) && decide (lenT x ≤ 5)) && decide (sumT x ≤ 20))
theorem Alc.bal {ns : List Int} {v b : Int} (h : Alc ns v b) (v1 : 1 ≤ v) (v5 : v ≤ 5) (b20 : b ≤ 20) : balB (tupD ns) = true := by
  have l := h.len
  unfold balB
  rw [areInts_of fun n hn => ⟨h.nn n hn, by have := h.le n hn; omega⟩, lenT_ints, sumT_ints, h.sum, decide_eq_true (show 1 ≤ ns.length by omega), decide_eq_true (show ns.length ≤ 5 by omega), decide_eq_true b20]
  rfl
def sp_is_bounded_allocationX (K : PySem.W.Frag) : Sp := spD K fun ds k d => ∃ x, ds = [x] ∧ SmallT x ∧ k = .v ∧ d = .bool (balB x)
/-! ### what is due -/
/-! ### lists of distinct buckets -/
structure Dst (r : List Int) : Prop where
  nd : r.Nodup
  rg : ∀ x ∈ r, 0 ≤ x ∧ x < 20
theorem Dst.len {r : List Int} (h : Dst r) : r.length ≤ 20 := by
  have := List.Nodup.length_le_of_subset (l₁ := r) (l₂ := rngI 20) h.nd fun x hx => by
    have := h.rg x hx
    exact mem_rngI.mpr (by omega)
  unfold rngI at this
  simpa using this
end Lm


/-! a comprehension of two clauses -/
namespace Lm
open PySem PySem.Spec PyProof.Rows L2
section
variable {c : Ct} {H H' H0 H1 H2 H3 H4 : Hp} {O : List Addr} {σ σ1 : L2.St} {Γ Γ1 Γ' : List (Option Rs)} {te : TE} {fz : Bool} {k : Kd} {u : TS} {P : Out → Prop} {n : Nat}
theorem Reps.bareM {fp : List Addr} {D : Addr} (j : Ji c (mns H O)) (rm : Rr c (mns H O) (mns H' O)) (h : Reps c O H σ Γ fp) : bareB Γ = true → Reps c O H' σ Γ [] := by
  induction h with
  | nil => intro _; exact .nil
  | @cons x s f fs σ Γ a b ih =>
    intro hb
    cases s with
    | none => exact .cons (f := []) (fs := []) rfl (ih hb)
    | some s =>
      cases s with
      | o d => cases hb
      | d u => cases hb
      | w ds => cases hb
      | v d =>
        obtain ⟨_, v, hv, bo⟩ := a
        exact .cons (f := []) (fs := []) ⟨rfl, v, hv, bo.mono j rm⟩ (ih hb)
      | r y => exact .cons (f := []) (fs := []) ⟨rfl, a.2⟩ (ih hb)
end
end Lm
namespace Lm
open PySem PySem.Spec PyProof.Rows L2
/-! ### all tables of a plan (k39 to k43, k52) -/
def stepT (b : Nat) (rows : List (List (List Int))) (a : List Int) : List (List (List Int)) := rows.flatMap fun t => (asgN a b).map fun r => t ++ [r]
def tbF (b : Nat) (rows : List (List (List Int))) (A : List (List Int)) : List (List (List Int)) := A.foldl (stepT b) rows
/-- which tables there are -/
theorem mem_tbF {b : Nat} : ∀ {A : List (List Int)} {t : List (List Int)}, t ∈ tbF b [[]] A ↔ t.length = A.length ∧ ∀ i < A.length, t.getD i [] ∈ asgN (A.getD i []) b := by
  have gen : ∀ {A : List (List Int)} {rows : List (List (List Int))} {t : List (List Int)}, t ∈ tbF b rows A ↔ ∃ p ∈ rows, ∃ s, t = p ++ s ∧ s.length = A.length ∧ ∀ i < A.length, s.getD i [] ∈ asgN (A.getD i []) b := by
    intro A
    induction A with
    | nil =>
      intro rows t
      constructor
      · intro h
        exact ⟨t, h, [], by simp, rfl, by simp⟩
      · rintro ⟨p, hp, s, rfl, hs, _⟩
        have : s = [] := List.length_eq_zero_iff.mp hs
        subst this
        rw [List.append_nil]
        exact hp
    | cons a A ih =>
      intro rows t
      show t ∈ tbF b (stepT b rows a) A ↔ _
      rw [ih]
      constructor
      · rintro ⟨p, hp, s, rfl, hs, hm⟩
        obtain ⟨p0, hp0, hp1⟩ := List.mem_flatMap.mp hp
        obtain ⟨r, hr, rfl⟩ := List.mem_map.mp hp1
        refine ⟨p0, hp0, r :: s, by simp, by simp [hs], fun i hi => ?_⟩
        cases i with
        | zero => exact hr
        | succ i => exact hm i (by simpa using hi)
      · rintro ⟨p, hp, s, rfl, hs, hm⟩
        cases s with
        | nil => simp at hs
        | cons r s =>
          exact ⟨p ++ [r], List.mem_flatMap.mpr ⟨p, hp, List.mem_map.mpr ⟨r, hm 0 (by simp), rfl⟩⟩, s, by simp, by simpa using hs, fun i hi => hm (i + 1) (by simpa using hi)⟩
  intro A t
  rw [gen]
  constructor
  · rintro ⟨p, hp, s, rfl, h1, h2⟩
    rw [List.mem_singleton.mp hp]
    exact ⟨h1, h2⟩
  · rintro ⟨h1, h2⟩
    exact ⟨[], by simp, t, rfl, h1, h2⟩
/-! ### buckets may be told in another order -/
/-- what is found behind any start is found behind the ascending one -/
theorem Tbl.of {A : List (List Int)} {v b : Int} {s : List Int} {t : List (List Int)} (hA : Ser A v b) (hs : s ∈ asgN (A.getD 0 []) b.toNat) (ht : t ∈ tbF b.toNat [[]] (A.drop 1)) : Tbl (s :: t) A v b := by
  obtain ⟨h1, h2⟩ := mem_tbF.mp ht
  have l1 := hA.l1
  rw [List.length_drop] at h1 h2
  have okp : ∀ {a r : List Int}, Alc a v b → r ∈ asgN a b.toNat → OkP (a, r) v b := fun {a r} ha hr => by
    obtain ⟨c1, c2, c3⟩ := asgN_cnt ha hr
    exact ⟨ha, c1, c2, c3⟩
  refine ⟨hA, by rw [List.length_cons]; omega, fun i hi => ?_⟩
  cases i with
  | zero => exact okp (hA.alc _ (gL_mem hi)) hs
  | succ i =>
    have := h2 i (by omega)
    have e : (A.drop 1).getD i [] = A.getD (i + 1) [] := by simp [List.getD_eq_getElem?_getD, Nat.add_comm]
    rw [e] at this
    exact okp (hA.alc _ (gL_mem hi)) this
/-! ### how many there are -/
/-! ### the promises -/
/-! ### plans that go round -/
end Lm


/-! who raises what among the changes (k18) -/
namespace Lm
open PySem PySem.Spec PyProof.Rows L2
theorem xl_reqE {K : PySem.W.Frag} {C : Addr} {H0 : Hp} {Γ : List (Option Rs)} {te tn : TE} {k kn : Kd} {nm : Str} {E : XK} (hz : nm.length ≤ 1000) (hE : ∀ dx H1, Same H0 H1 → H1 dx = some (.xd [("name", .str nm)]) → E (.ref C) (some dx) H1) (h : Ev (pc K) te Γ k (.bool false)) (hn : Ev (pc K) tn Γ kn (.str nm)) : SdX (pc K) H0 (tDrop (tCall (spReq C) [] E (tCons te (tCons tn tNil)))) Γ := fun O H σ D e =>
  h H0 O H σ e _ fun v H1 r s => hn H0 O H1 σ (e.on r) _ fun u H2 r2 s2 => ⟨false, nm, by rw [(Res.bo e s).bl', (Res.bo (e.on r) s2).str']; rfl, hz, (fun w => nomatch w), fun _ dx hdx => hE dx _ (fun a o z => by
    have z1 : H2 a = some o := (e.rH.tr (r.tr r2)).1 a o (fun _ _ w => nomatch w) z
    rw [upd_ne (ne_of_none z1 hdx)]
    exact z1) upd_same⟩
def RcAl (ds : List PyData) (nm : Str) : Prop := ∃ x, ds = [x, .str nm] ∧ nm.length ≤ 1000 ∧ SmallT x ∧ balB x = false
theorem RcAl_len {ds nm} (h : RcAl ds nm) : ds.length = 2 := by obtain ⟨x, rfl, _⟩ := h; rfl
/-! ### the law's rows -/
end Lm


/-! assignments that are laid out by cores -/
namespace Lm
open PySem PySem.Spec PyProof.Rows L2
variable {v b : Int} {as bs cs ms : List Int} {z : List (Int × Int)} {p q : List (Option Int)}
def preR : List (Int × Int) → Nat → List (Option Int)
  | [], _ => []
  | (s, c) :: r, i => List.replicate (min s c).toNat (some (i : Int)) ++ (List.replicate (c - s).toNat none ++ preR r (i + 1))
def overR : List (Int × Int) → Nat → List Int
  | [], _ => []
  | (s, c) :: r, i => List.replicate (s - c).toNat (i : Int) ++ overR r (i + 1)
def fullR (z : List (Int × Int)) (m : Nat) : List (Option Int) := preR z 0 ++ List.replicate (m - (preR z 0).length) none
theorem pre_len : ∀ {z : List (Int × Int)} {i : Nat}, (∀ p ∈ z, 0 ≤ p.1 ∧ 0 ≤ p.2) → ((preR z i).length : Int) = (z.map (·.2)).sum
  | [], _, _ => rfl
  | (s, c) :: r, i, h => by
    have h0 := h (s, c) (by simp)
    have ih := pre_len (z := r) (i := i + 1) fun p hp => h p (List.mem_cons_of_mem _ hp)
    unfold preR
    simp only [List.length_append, List.length_replicate, List.map_cons, List.sum_cons, Int.natCast_add, ih]
    simp only at h0
    omega
theorem pre_none : ∀ {z : List (Int × Int)} {i : Nat}, ((preR z i).count none : Int) = (z.map fun p => max (p.2 - p.1) 0).sum
  | [], _ => rfl
  | (s, c) :: r, i => by
    have ih := pre_none (z := r) (i := i + 1)
    unfold preR
    simp only [List.count_append, List.count_replicate, List.map_cons, List.sum_cons, Int.natCast_add, ih]
    have e : ((some (i : Int)) == none) = false := rfl
    simp only [e]
    simp
    try omega
theorem over_len : ∀ {z : List (Int × Int)} {i : Nat}, ((overR z i).length : Int) = (z.map fun p => max (p.1 - p.2) 0).sum
  | [], _ => rfl
  | (s, c) :: r, i => by
    have ih := over_len (z := r) (i := i + 1)
    unfold overR
    simp only [List.length_append, List.length_replicate, List.map_cons, List.sum_cons, Int.natCast_add, ih]
    omega
theorem zip_nn (h1 : ∀ n ∈ as, 0 ≤ n) (h2 : ∀ n ∈ cs, 0 ≤ n) : ∀ p ∈ as.zip cs, 0 ≤ p.1 ∧ 0 ≤ p.2 := fun p hp => ⟨h1 _ (List.of_mem_zip hp).1, h2 _ (List.of_mem_zip hp).2⟩
theorem zip_2 : ∀ {as cs : List Int}, as.length = cs.length → (as.zip cs).map (·.2) = cs
  | [], [], _ => rfl
  | a :: as, c :: cs, h => by rw [List.zip_cons_cons, List.map_cons, zip_2 (by simpa using h)]
  | [], _ :: _, h => by simp at h
  | _ :: _, [], h => by simp at h
theorem zip_mm : ∀ {as cs : List Int}, as.length = cs.length → ((as.zip cs).map fun p => max (p.1 - p.2) 0).sum - ((as.zip cs).map fun p => max (p.2 - p.1) 0).sum = as.sum - cs.sum
  | [], [], _ => rfl
  | a :: as, c :: cs, h => by
    have := zip_mm (as := as) (cs := cs) (by simpa using h)
    simp only [List.zip_cons_cons, List.map_cons, List.sum_cons]
    omega
  | [], _ :: _, h => by simp at h
  | _ :: _, [], h => by simp at h
/-- cores for an allocation -/
structure Crs (as cs : List Int) (v b : Int) : Prop where
  a : Alc as v b
  len : cs.length = as.length
  nn : ∀ n ∈ cs, 0 ≤ n
  le : cs.sum ≤ b
theorem Crs.full (h : Crs as cs v b) : (fullR (as.zip cs) as.sum.toNat).length = b.toNat ∧ ((preR (as.zip cs) 0).length : Int) = cs.sum := by
  have l := pre_len (i := 0) (zip_nn h.a.nn h.nn)
  rw [zip_2 h.len.symm] at l
  have := h.le
  have := h.a.sum
  unfold fullR
  rw [List.length_append, List.length_replicate]
  exact ⟨by omega, l⟩
theorem Crs.bal (h : Crs as cs v b) : (fullR (as.zip cs) as.sum.toNat).count none = (overR (as.zip cs) 0).length := by
  have l := h.full.2
  have n := pre_none (z := as.zip cs) (i := 0)
  have o := over_len (z := as.zip cs) (i := 0)
  have m := zip_mm h.len.symm
  have := h.le
  have := h.a.sum
  unfold fullR
  rw [List.count_append, List.count_replicate_self]
  omega
/-! ### cores that give up what the medians are too many -/
end Lm


/-! xs[i] = ys.pop(k); [rows[x].pop(0) for x in ..] -/
namespace Lm
open PySem PySem.Spec PyProof.Rows L2
section
variable {c : Ct} {H H' H0 H1 H2 H3 : Hp} {O : List Addr} {σ : L2.St} {Γ Γ' Γ1 : List (Option Rs)}
variable {te ta tb tx : TE} {tr : TA} {u : TS} {k ka kb : Kd} {d x y z : PyData} {i j : Int} {ds es : List PyData} {P : Out → Prop}
theorem Env.bareR (e : Env c H0 O H σ Γ) (hb : bareB Γ = true) : Reps c O H σ Γ [] := let ⟨_, hr, _⟩ := e.rep; hr.bareM (D := 0) e.j Rr.rf hb
theorem Env.take (e : Env c H0 O H σ Γ) (hb : bareB Γ = true) {n : Nat} {a : Addr} {ns : List Int} (ha : a ∈ O) (h : H a = some (.lst (ns.map V.int))) : Env c H0 O H (σ.set n (some (.ref a))) (Γ.set n (some (.o (.list (ns.map .int))))) := by
  have hr := e.bareR hb
  refine ⟨e.r0, e.j, e.fr, e.dm, ?_⟩
  by_cases hi : n < Γ.length
  · obtain ⟨x, f, pre, post, h1, h2, h3, h4⟩ := hr.nth (s := Γ[n]) (List.getElem?_eq_getElem hi)
    have h3' := h3.symm
    rw [List.append_eq_nil_iff, List.append_eq_nil_iff] at h3'
    obtain ⟨rfl, rfl, rfl⟩ := h3'
    exact ⟨[a], h4 O H _ _ [a] (fun _ _ _ _ z => z) ⟨.ref a, rfl, .lst h (FoAll.leaves (flatAll_ints _) (BoAll.ofInts _))⟩, by simp, fun b hb => by cases List.mem_singleton.mp hb; exact ha⟩
  · have hs : ¬ n < σ.length := by rw [hr.len]; exact hi
    rw [List.set_eq_of_length_le (by omega), List.set_eq_of_length_le (by omega)]
    exact ⟨[], hr, List.nodup_nil, fun a h => nomatch h⟩
/-! ### rows from which the first ones are taken -/
end
end Lm


/-! the least so far (k30) -/
namespace Lm
open PySem PySem.Spec PyProof.Rows L2
variable {v b : Int} {as bs cs one f g : List Int}
def LeastP (l : List Int) (ls : PyData) : Prop := (ls = .none ∧ l = []) ∨ ∃ m : Int, ls = .int m ∧ m ∈ l ∧ ∀ x ∈ l, m ≤ x
theorem LeastP.new {l : List Int} {x : Int} {ls : PyData} (h : LeastP l ls) (q : ∀ m, ls = .int m → x < m) : LeastP (l ++ [x]) (.int x) := by
  refine .inr ⟨x, rfl, by simp, fun y hy => ?_⟩
  rcases h with ⟨_, rfl⟩ | ⟨m, e, _, h2⟩
  · simp at hy; omega
  · have := q m e
    rcases List.mem_append.mp hy with w | w
    · have := h2 y w; omega
    · rw [List.mem_singleton.mp w]; exact Int.le_refl _
theorem LeastP.old {l : List Int} {x m : Int} (h : LeastP l (.int m)) (q : m ≤ x) : LeastP (l ++ [x]) (.int m) := by
  rcases h with ⟨e, _⟩ | ⟨m', e, h1, h2⟩
  · cases e
  · cases e
    refine .inr ⟨m, rfl, by simp [h1], fun y hy => ?_⟩
    rcases List.mem_append.mp hy with w | w
    · exact h2 y w
    · rw [List.mem_singleton.mp w]; exact q
end Lm


/-! who raises what among the triples (k34) -/
namespace Lm
open PySem PySem.Spec PyProof.Rows L2
def RcLk (ds : List PyData) (nm : Str) : Prop := ∃ (x : PyData) (as : List Int) (v b : Int), ds = [x, tupD as, .str nm] ∧ nm.length ≤ 1000 ∧ Alc as v b ∧ SmallT x ∧ isAlloc x v b = false
theorem RcLk_len {ds nm} (h : RcLk ds nm) : ds.length = 3 := by obtain ⟨x, as, v, b, rfl, _⟩ := h; rfl
section
variable {K : PySem.W.Frag} {C : Addr} {H0 : Hp} {Γ : List (Option Rs)} {σ : L2.St} {te : TE} {tt : TT} {t u : TS} {nm : Str}
theorem x_asgE {c : Ct} {g : TG} (h : EvRz c H0 te Γ) : SdX c H0 (tAsg te g) Γ := fun O H σ D e => h O H σ _ e
end
/-! what is no allocation, no assignment of it -/
end Lm


/-! isinstance of a caught error that keeps a text; a handler for its base class -/
namespace Lm
open PySem PySem.Spec PyProof.Rows L2
/-- isinstance(e, c): a the caught error, cls its class, d its dict -/
def rIsX (K : PySem.W.Frag) (D a : Addr) (cls : Value) (d : Option Addr) : List V → Hp → VK → Prop := fun xs H Q => ∃ (c : V) (cv : Value) (b : Bool) (dd : Addr) (fs : List (Str × V)), xs = [.ref a, c] ∧ cls = .ref D ∧ d = some dd ∧ H dd = some (.xd fs) ∧ (∀ u, RelV c u → u = cv) ∧ PySem.W.kitOne K (.ref D) cv = some b ∧ Q (.bl b) H
theorem call_isX {X : Cx} {a D : Addr} {oe : Obj} {cls : Value} {d : Option Addr} {pn : List (Addr × Obj)} (C : ExcC X.K D) (hz : Zc cls d oe) (hf : ∃ vs, oe.data = .fields vs) : CallR (X.suite a ((a, oe) :: pn)) (.builtin "isinstance") (rIsX X.K D a cls d) := by
  intro pins s σ H xs us Q I r h
  obtain ⟨c, cv, b, dd, fs, rfl, rfl, rfl, ea, hcv, e, q⟩ := h
  cases r with
  | cons rx rr =>
    cases rr with
    | cons rt rr =>
      cases rr
      cases rx
      have ec := hcv _ rt
      subst ec
      obtain ⟨hget, _⟩ := I.pin (a, oe) (List.mem_append.mpr (.inl List.mem_cons_self))
      obtain ⟨vs, hv⟩ := hf
      have hx : ObjOk X.prog X.w H s.heap dd (.xd fs) := I.hok dd _ ea
      obtain ⟨mA, hns, hr⟩ := hx
      obtain ⟨od, ho, hl⟩ := lookIn_ns hns
      have J : PySem.W.InstAt s.heap a oe D (some od) := ⟨hget, hz.1, by unfold PySem.W.notCls; rw [hv] <;> rfl, by rw [hz.2]; exact ho⟩
      have cl : (PySem.W.clsIn X.K D).isSome = true := by obtain ⟨cd, hc, _⟩ := PySem.W.any_some C.hd; rw [hc]; rfl
      exact PySem.W.kia_one (PySem.W.kitx_exc (od := some od) cl C.hg C.hk C.hs C.ha C.hn C.ht C.hm) I.kIn J e (fun z => nomatch z) fun tk => ⟨.bl b, H, I.kept (t' := tk) fun _ _ z => z, rfl, q⟩
/-- what a handler for the base class asks of the error's class C and of the base class L -/
structure ExcH (K : PySem.W.Frag) (mg : Str → Option Value) (C L : Addr) : Prop where
  isC : ExcC K C
  hL : mg "LeastError" = some (.ref L)
  exL : PySem.W.exmOne K (.ref C) (.ref L) = some true
  kV : PySem.W.kitOne K (.ref C) (.type "ValueError") = some true
theorem kit_val {K : PySem.W.Frag} {C : Addr} (h : PySem.W.subIn K (.ref C) (.type "ValueError") = some true) : PySem.W.kitOne K (.ref C) (.type "ValueError") = some true := by
  unfold PySem.W.kitOne
  rw [if_neg (by simp)]
  unfold PySem.W.kitCls
  show (if PySem.W.kitMeta "ValueError" = true then _ else _) = _
  rw [if_pos (by decide +kernel)]
  exact h
theorem kit_self {K : PySem.W.Frag} {C : Addr} : PySem.W.kitOne K (.ref C) (.ref C) = some true := by
  unfold PySem.W.kitOne
  rw [if_pos (by simp)]
/-! a call of what answers or raises, in a body -/
section
variable {K : PySem.W.Frag} {C : Addr} {R : List PyData → Str → Prop} {pre : Pre} {E : XK} {W : WX} {te : TE} {ta : TA} {Γ : List (Option Rs)} {ds es : List PyData} {d : PyData} {P : Out → Prop} {c : Ct}
end
/-! who raises what among the rules (k61) -/
end Lm


/-! lists of one's own with drawn items; the rule of k61 and what is none -/
namespace Lm
open PySem PySem.Spec PyProof.Rows L2
section
variable {c : Ct} {Γ : List (Option Rs)} {te : TE} {tr : TA} {u : TS} {n : Nat} {ds : List PyData} {P : Out → Prop} {Pd : List PyData → Prop} {Pe : PyData → Prop}
end
/-! the rule of two pairs -/
def zr (n : Nat) : List Int := List.replicate n 0
/-! rows of arguments -/
end Lm


/-! itertools.combinations(list, k) -/
namespace CmbK
open PySem PySem.Spec PyProof.Rows L2
end CmbK


/-! cliques of entries, by their heights (k63) -/
namespace Lm
open PySem PySem.Spec PyProof.Rows L2 CmbK
def prsB (F : List (List Int)) (es : List (List Int)) : Bool := (pairL es.length).all fun ks => togB F (es.getD (ks.getD 0 0) []) (es.getD (ks.getD 1 0) [])
/-- sets of entries that go together, each entry in turn -/
def wthB (F : List (List Int)) (e : List Int) (ch : List (List Int)) : Bool := ch.all (togB F e)
def grwS (F : List (List Int)) (found : List (List (List Int))) (e : List Int) : List (List (List Int)) := found ++ (found.filter (wthB F e)).map (· ++ [e])
def grwL (F R : List (List Int)) : List (List (List Int)) := R.foldl (grwS F) [[]]
def bigL (F R : List (List Int)) : Int := mxL ((grwL F R).map fun ch => (ch.length : Int))
/-- one of each, one after another -/
def prodL (cs : List (List Int)) : List (List Int) := cs.foldl (fun rows c => rows.flatMap fun r => c.map fun x => r ++ [x]) [[]]
def boxL (M : List Int) : List (List Int) := prodL (M.map fun m => upI 0 (m + 1).toNat)
/-- good heights: as many entries as asked, all together -/
def okH (F : List (List Int)) (s : Int) (h : List Int) : Bool := decide (((entL h).length : Int) = s) && prsB F (entL h)
end Lm


/-! calm histories, all of them, in order (k48) -/
namespace Lm
open PySem PySem.Spec PyProof.Rows L2
variable {v b : Int} {s : List Int} {A : List (List Int)} {k : Nat} {t : List (List Int)} {r : List Int}
/-- tables in order -/
def TLe : List (List Int) → List (List Int) → Prop
  | [], [] => True
  | a :: h, b :: t => (a.length = b.length ∧ lexLe a b ∧ a ≠ b) ∨ (a = b ∧ TLe h t)
  | _, _ => False
theorem TLe.rf : ∀ {h : List (List Int)}, TLe h h
  | [] => trivial
  | _ :: _ => .inr ⟨rfl, TLe.rf⟩
theorem TLe.app {x y : List Int} : ∀ {h t : List (List Int)}, TLe h t → h.length = t.length → (h = t → TLe [x] [y]) → TLe (h ++ [x]) (t ++ [y])
  | [], [], _, _, e => e rfl
  | a :: h, b :: t, w, l, e => by
    rcases w with w | ⟨rfl, w⟩
    · exact .inl w
    · exact .inr ⟨rfl, TLe.app w (by simpa using l) fun q => e (by rw [q])⟩
  | [], _ :: _, w, _, _ => w.elim
  | _ :: _, [], w, _, _ => w.elim
end Lm


/-! the first colouring: x = xs.pop() + 1, the search, its end (k65, k67) -/
namespace Lm
open PySem PySem.Spec PyProof.Rows L2
section
variable {c : Ct} {Γ : List (Option Rs)} {P : Out → Prop} {u : TS}
end
/-! ### colourings, in order -/
/-- all tuples of n numbers below m, in order -/
def colL (m : Nat) : Nat → List (List Nat)
  | 0 => [[]]
  | n + 1 => (colL m n).flatMap fun c => (List.range m).map fun x => c ++ [x]
/-- what coexists has different numbers -/
def okC (tg : Nat → Nat → Bool) (c : List Nat) : Bool := (List.range c.length).all fun k => (List.range k).all fun j => !(decide (c.getD j 0 = c.getD k 0) && tg k j)
def firC (n m : Nat) (tg : Nat → Nat → Bool) : Option (List Nat) := (colL m n).find? (okC tg)
/-- c, as far as it goes, is not behind d -/
def PLe : List Nat → List Nat → Prop
  | [], _ => True
  | _ :: _, [] => False
  | a :: c, x :: d => a < x ∨ (a = x ∧ PLe c d)
/-- c is before d, at some place that both have -/
def PLt : List Nat → List Nat → Prop
  | a :: c, x :: d => a < x ∨ (a = x ∧ PLt c d)
  | _, _ => False
theorem ple_split : ∀ {c d : List Nat} {p : Nat}, PLe (c ++ [p]) d → (∃ x r, d = c ++ x :: r ∧ p ≤ x) ∨ PLt c d
  | [], [], p, h => h.elim
  | [], x :: d, p, h => by
    rcases h with h | ⟨h, _⟩
    · exact .inl ⟨x, d, rfl, by omega⟩
    · exact .inl ⟨x, d, rfl, by omega⟩
  | a :: c, [], p, h => h.elim
  | a :: c, x :: d, p, h => by
    rcases h with h | ⟨rfl, h⟩
    · exact .inr (.inl h)
    · rcases ple_split h with ⟨y, r, rfl, w⟩ | w
      · exact .inl ⟨y, r, rfl, w⟩
      · exact .inr (.inr ⟨rfl, w⟩)
theorem plt_snoc : ∀ {c d : List Nat} {a : Nat}, PLt (c ++ [a]) d → PLe (c ++ [a + 1]) d
  | [], [], _, h => h.elim
  | [], x :: d, a, h => by
    rcases h with h | ⟨_, h⟩
    · by_cases e : a + 1 = x
      · exact .inr ⟨e, trivial⟩
      · exact .inl (by omega)
    · cases d <;> exact h.elim
  | b :: c, [], _, h => h.elim
  | b :: c, x :: d, a, h => by
    rcases h with h | ⟨e, h⟩
    · exact .inl h
    · exact .inr ⟨e, plt_snoc h⟩
theorem ple_pre : ∀ {c d r : List Nat}, d = c ++ r → PLe c d
  | [], _, _, _ => trivial
  | a :: c, _, r, rfl => .inr ⟨rfl, ple_pre rfl⟩
theorem plt_ple : ∀ {c d : List Nat}, PLt c d → PLe c d
  | [], _, h => h.elim
  | a :: c, [], h => h.elim
  | a :: c, x :: d, h => by
    rcases h with h | ⟨e, h⟩
    · exact .inl h
    · exact .inr ⟨e, plt_ple h⟩
variable {n m : Nat} {tg : Nat → Nat → Bool} {c d : List Nat}
theorem okC_iff : okC tg c = true ↔ ∀ k, k < c.length → ∀ j, j < k → c.getD j 0 = c.getD k 0 → tg k j = false := by
  unfold okC
  rw [List.all_eq_true]
  constructor
  · intro h k hk j hj e
    have := List.all_eq_true.mp (h k (List.mem_range.mpr hk)) j (List.mem_range.mpr hj)
    rw [decide_eq_true e, Bool.true_and, Bool.not_eq_true'] at this
    exact this
  · intro h k hk
    refine List.all_eq_true.mpr fun j hj => ?_
    by_cases e : c.getD j 0 = c.getD k 0
    · rw [h k (List.mem_range.mp hk) j (List.mem_range.mp hj) e, Bool.and_false]; rfl
    · rw [decide_eq_false e, Bool.false_and]; rfl
theorem gd_app {c r : List Nat} {j : Nat} (h : j < c.length) : (c ++ r).getD j 0 = c.getD j 0 := by
  rw [List.getD_eq_getElem?_getD, List.getElem?_append_left h, ← List.getD_eq_getElem?_getD]
theorem okC_pre {r : List Nat} (h : okC tg (c ++ r) = true) : okC tg c = true := okC_iff.mpr fun k hk j hj e => okC_iff.mp h k (by simp; omega) j hj (by rw [gd_app (by omega), gd_app hk]; exact e)
/-! ### the search, place by place -/
/-- where the search stands: c so far, numbers from p on are tried next -/
structure SrC (n m : Nat) (tg : Nat → Nat → Bool) (c : List Nat) (p : Nat) : Prop where
  len : c.length ≤ n
  rng : ∀ x ∈ c, x < m
  ok : okC tg c = true
  pm : p ≤ m
  le : ∀ d, d.length = n → (∀ x ∈ d, x < m) → okC tg d = true → PLe c d ∧ (c.length < n → PLe (c ++ [p]) d)
/-- the first number from p on that fits -/
def freC (tg : Nat → Nat → Bool) (c : List Nat) (p m : Nat) : Option Nat := ((List.range (m - p)).map (· + p)).find? fun b => okC tg (c ++ [b])
theorem freC_none {p : Nat} (h : freC tg c p m = none) {b : Nat} (h1 : p ≤ b) (h2 : b < m) : okC tg (c ++ [b]) = false := by
  unfold freC at h
  have := List.find?_eq_none.mp h b (List.mem_map.mpr ⟨b - p, List.mem_range.mpr (by omega), by omega⟩)
  exact Bool.eq_false_iff.mpr this
theorem SrC.back {a : Nat} {p : Nat} (h : SrC n m tg (c ++ [a]) p) (hl : (c ++ [a]).length < n) (f : freC tg (c ++ [a]) p m = none) : SrC n m tg c (a + 1) := by
  have am := h.rng a (by simp)
  have cl : c.length < n := by simp at hl; omega
  refine ⟨by omega, fun x hx => h.rng x (by simp [hx]), okC_pre h.ok, by omega, fun d h1 h2 h3 => ?_⟩
  have key : PLe (c ++ [a + 1]) d := by
    rcases ple_split ((h.le d h1 h2 h3).2 hl) with ⟨x, r, rfl, hx⟩ | w
    · have xm := h2 x (by simp)
      have := freC_none f hx xm
      rw [okC_pre (c := (c ++ [a]) ++ [x]) (r := r) (by simpa using h3)] at this
      cases this
    · exact plt_snoc w
  refine ⟨?_, fun _ => key⟩
  rcases ple_split key with ⟨x, r, e, hx⟩ | w
  · exact ple_pre e
  · exact plt_ple w
/-- how far the search has come, as a number -/
def valC (M : Nat) : Nat → List Nat → Nat
  | 0, _ => 0
  | _ + 1, [] => 0
  | k + 1, x :: d => x * M ^ k + valC M k d
theorem valC_lt {M : Nat} : ∀ {k : Nat} {d : List Nat}, (∀ x ∈ d, x < M) → 0 < M → valC M k d < M ^ k
  | 0, _, _, _ => by simp [valC]
  | k + 1, [], _, h => by simp [valC]; exact Nat.pow_pos h
  | k + 1, x :: d, h, hM => by
    have ih := valC_lt (k := k) (d := d) (fun y hy => h y (by simp [hy])) hM
    have hx := h x (by simp)
    unfold valC
    rw [Nat.pow_succ]
    have : (x + 1) * M ^ k ≤ M * M ^ k := Nat.mul_le_mul_right _ hx
    rw [Nat.add_mul, Nat.one_mul] at this
    rw [Nat.mul_comm (M ^ k) M]
    omega
theorem SrC.small {p : Nat} (h : SrC n m tg c p) : valC (m + 1) (n + 1) (c ++ [p]) * (n + 2) + c.length < (m + 1) ^ (n + 1) * (n + 2) := by
  have hl := h.len
  have := valC_lt (M := m + 1) (k := n + 1) (d := c ++ [p]) (fun x hx => by
    rcases List.mem_append.mp hx with w | w
    · have := h.rng x w; omega
    · rw [List.mem_singleton.mp w]; have := h.pm; omega) (by omega)
  have : (valC (m + 1) (n + 1) (c ++ [p]) + 1) * (n + 2) ≤ (m + 1) ^ (n + 1) * (n + 2) := Nat.mul_le_mul_right _ this
  rw [Nat.add_mul, Nat.one_mul] at this
  omega
end Lm


/-! xs[::-1] of a list, list(range(a, b)), n & 1; families of up to twenty (k67) -/
namespace Lm
open PySem PySem.Spec PyProof.Rows L2
section
variable {c : Ct} {Γ : List (Option Rs)} {te ta tb : TE} {k ka kb : Kd} {ds : List PyData} {i j : Int}
end
/-- which places coexist -/
def tgL (F R : List (List Int)) (k j : Nat) : Bool := togB F (R.getD k []) (R.getD j [])
/-- the lists by variants, where the places R have the numbers c -/
def lstsR (R : List (List Int)) (c : List Nat) (v : Nat) : List (List Int) := (List.range (v - 1)).map fun x => ((List.range R.length).filter fun k => decide ((R.getD k []).getD 0 0 = ((x + 1 : Nat) : Int))).map fun k => ((c.getD k 0 : Nat) : Int)
def lstsD (R : List (List Int)) (v : Nat) : Option (List Nat) → PyData
  | none => .none
  | some c => .tuple ((lstsR R c v).map tupD)
end Lm


/-! raise C("..") of any class that keeps a text; promises of fewest (k65) -/
namespace Lm
open PySem PySem.Spec PyProof.Rows L2
section
variable {c : Ct} {Γ : List (Option Rs)} {te : TE} {P : Out → Prop} {ds : List PyData} {d : PyData} {n m : Nat}
end
section
variable {c : Ct} {H0 : Hp} {Γ : List (Option Rs)} {K : PySem.W.Frag}
end
/-- the numbers, cut by the shares -/
def prtL (gs : List Int) (c : List Int) : List (List Int) := (List.range gs.length).map fun x => (c.drop (gs.take x).sum.toNat).take (gs.getD x 0).toNat
theorem EvI.to {c : Ct} {wi : TI} {Γ : List (Option Rs)} {fz : Bool} {a b : List Im} (h : EvI c wi Γ fz a) (e : a = b) : EvI c wi Γ fz b := e ▸ h
end Lm


/-! a, b = xs.pop(); enumerate of a list or a tuple; promises of fewest and of case trees (k65) -/
namespace Lm
open PySem PySem.Spec PyProof.Rows L2
section
variable {c : Ct} {Γ : List (Option Rs)} {P : Out → Prop} {u : TS} {g : TG}
end
/-! ### the answer of fewest -/
abbrev R65 (F : List (List Int)) (v : Nat) : List (List Int) := entL (gsL F (v - 1))
def om65 (F : List (List Int)) (v : Nat) : Nat := (bigL F (R65 F v)).toNat
def hg65 (F : List (List Int)) (v : Nat) : Option (List Int) := (boxL (gsL F (v - 1))).find? (okH F (bigL F (R65 F v)))
def tree65 (F : List (List Int)) (v : Nat) : PyData :=
  match hg65 F v with
  | none => .none
  | some h => if 0 < om65 F v then .tuple [.str "clique", .tuple ((entL h).map tupD)] else .none
def few65 (F : List (List Int)) (v : Nat) : PyData := .tuple [.int (om65 F v : Nat), lstsD (R65 F v) v (firC (R65 F v).length (om65 F v) (tgL F (R65 F v))), tree65 F v]
/-! ### case trees: a clique at the root -/
end Lm


/-! the lists of a colouring serve the family (k65) -/
namespace Lm
open PySem PySem.Spec PyProof.Rows L2
/-- what fewest finds -/
structure Few65 (F : List (List Int)) (v : Nat) (hs : List Int) (c : List Nat) : Prop where
  hg : hg65 F v = some hs
  hl : hs.length = v - 1
  hr : ∀ x ∈ hs, 0 ≤ x ∧ x ≤ 10
  om : (entL hs).length = om65 F v
  big : bigL F (R65 F v) = (om65 F v : Nat)
  pw : (entL hs).Pairwise fun a b => togB F a b = true
  sub : (entL hs).Sublist (R65 F v)
  om9 : om65 F v ≤ 9
  ec : firC (R65 F v).length (om65 F v) (tgL F (R65 F v)) = some c
  cl : c.length = (R65 F v).length
  cm : ∀ x ∈ c, x < om65 F v
  ok : okC (tgL F (R65 F v)) c = true
  few : few65 F v = .tuple [.int (om65 F v : Nat), .tuple ((lstsR (R65 F v) c v).map tupD), tree65 F v]
  lst : Lsts (lstsR (R65 F v) c v) ((v : Int) - 1) (om65 F v : Nat)
  srv : ∀ r ∈ F, OkF (lstsR (R65 F v) c v) r
  prt : prtL (gsL F (v - 1)) (castL c) = lstsR (R65 F v) c v
  sum : ((castL c).length : Int) = (gsL F (v - 1)).sum
  ent : ∀ e ∈ R65 F v, ∃ x y : Nat, e = [((x + 1 : Nat) : Int), (y : Int)] ∧ x < v - 1 ∧ y < 10
theorem Few65.flat {F : List (List Int)} {v : Nat} {hs : List Int} {c : List Nat} (f : Few65 F v hs c) : flatD (tree65 F v) = true ∧ flatD (few65 F v) = true := by
  have t : flatD (tree65 F v) = true := by
    unfold tree65
    rw [f.hg]
    show flatD (if 0 < om65 F v then PyData.tuple [.str "clique", .tuple ((entL hs).map tupD)] else .none) = true
    split
    · show (true && (flatAll ((entL hs).map tupD) && true)) = true
      rw [fl_rows]; rfl
    · rfl
  refine ⟨t, ?_⟩
  rw [f.few]
  show (true && (flatAll ((lstsR (R65 F v) c v).map tupD) && (flatD (tree65 F v) && true))) = true
  rw [fl_rows, t]
  rfl
end Lm


/-! calls with drawn arguments; the populations of k68 -/
namespace Lm
open PySem PySem.Spec PyProof.Rows L2
/-- arguments, read at once, some of them drawn -/
def EvAP (c : Ct) (ta : TA) (Γ : List (Option Rs)) (Pd : List PyData → Prop) : Prop :=
  ∀ H0 O H σ, Env c H0 O H σ Γ → ∀ Q : List V → Hp → Prop, (∀ vs ds H2, Pd ds → Rr c H H2 → BoAll c H2 vs ds → Q vs H2) → ta σ H Q
section
variable {c : Ct} {Γ : List (Option Rs)} {te ta tb : TE} {tr : TA} {k ka kb : Kd} {d : PyData} {ds : List PyData} {P : PyData → Prop} {P2 Pd : List PyData → Prop}
theorem ap_nil : EvAP c tNil Γ (fun ds => ds = []) := fun H0 O H σ e Q q => q [] [] H rfl Rr.rf .nil
theorem ap_consN (h : EvN c te Γ k P) (t : EvAP c tr Γ P2) : EvAP c (tCons te tr) Γ (fun ds => ∃ d es, ds = d :: es ∧ P d ∧ P2 es) := fun H0 O H σ e Q q =>
  h H0 O H σ e _ fun v d H1 pd r1 s1 => t H0 O H1 σ (e.on r1) _ fun vs es H2 pe r2 s2 =>
    q (v :: vs) (d :: es) H2 ⟨d, es, rfl, pd, pe⟩ (r1.tr r2) (.cons (Res.bo e (s1.on e r1 r2)) s2)
theorem ap_cons (h : Ev c te Γ k d) (t : EvAP c tr Γ P2) : EvAP c (tCons te tr) Γ (fun ds => ∃ es, ds = d :: es ∧ P2 es) := fun H0 O H σ e Q q =>
  h H0 O H σ e _ fun v H1 r1 s1 => t H0 O H1 σ (e.on r1) _ fun vs es H2 pe r2 s2 =>
    q (v :: vs) (d :: es) H2 ⟨es, rfl, pe⟩ (r1.tr r2) (.cons (Res.bo e (s1.on e r1 r2)) s2)
end
end Lm


/-! dicts with tuple keys: setdefault, walking d.items() (k72, k74) -/
namespace Lm
open PySem PySem.Spec PyProof.Rows L2
/-- d.setdefault(k, x) -/
def rSetdT : V → List V → Hp → VK → Prop := fun x xs H Q => ∃ (a : Addr) (kvs : List (List L2.Key × V)) (k : List L2.Key) (b : Addr) (d : V), x = .ref a ∧ xs = [.ref b, d] ∧ H a = some (.dT kvs) ∧ H b = some (.tup (k.map kV)) ∧ kvs.length < sizeLine ∧
  (∀ v, valV kvs k = some v → Q v H) ∧ (valV kvs k = none → Q d (upd H a (.dT (putK kvs k d))))
theorem mt_setdT {X : Cx} (hu : X.A.units + 1 < cLine) : MtR X "dict.setdefault" rSetdT := by
  intro pins s σ H x xs v us Q I rx rxs h
  obtain ⟨a, kvs, k, b, d, rfl, rfl, ha, hb, hl, q1, q2⟩ := h
  cases rx
  obtain ⟨u1, u2, rfl, r1, r2⟩ := vals2 rxs
  cases r1
  obtain ⟨z, hd, xs', rel, dd⟩ := dt_of I.hok ha
  have hz : xs'.length ≤ sizeLine := by rw [← Paired.length rel]; exact z
  refine call_setdefault_heap (knd := tupleKind (mixKind X.prog X.w)) (k := k) (hsz := hz) (tupleKind_room_in1 hu) (key_of I.hok hb) hd dd (fun p hp => ?_) (fun hn h' dd' hs => ?_)
  · have r := rel.val k
    rw [hp] at r
    obtain ⟨v0, ev, rv⟩ : ∃ v0, valV kvs k = some v0 ∧ RelV v0 p.2 := by
      cases ev : valV kvs k with
      | none =>
        rw [ev] at r
        exact (show False from r).elim
      | some v0 =>
        rw [ev] at r
        exact ⟨v0, rfl, r⟩
    show EP X pins σ Q p.2 _
    exact ⟨v0, H, I.tok _, rv, q1 v0 ev⟩
  · have r := rel.val k
    rw [hn] at r
    have ev : valV kvs k = none := by
      cases ev : valV kvs k with
      | none => rfl
      | some v0 =>
        rw [ev] at r
        exact (show False from r).elim
    obtain ⟨o, es, ep, hq, h2, h3, h4, _, h5⟩ := dd'
    have hp := length_putK kvs k d
    show EP X pins σ Q u2 _
    exact ⟨d, _, d_write (ob := .dT (putK kvs k d)) I (by rw [ha]; exact True.intro) hs ⟨o, hq⟩ ⟨by omega, hd, _, (rel.put k hb r2).keeps (fun c ys ec => (by rw [upd_ne (ne_of ec ha (fun z => nomatch z))]; exact ec)), o, es, ep, hq, h2, h3, h4, h5⟩, r2, q2 ev⟩
/-- a locked dict with tuple keys, its values too -/
theorem frzT2 {X : Cx} {pins : List (Addr × Obj)} {σ : L2.St} {H : Hp} {s : Shared} {d : Addr} {o : Obj} {kvs : List (List L2.Key × V)} (I : Inv X pins σ H s) (h : H d = some (.frz o (.dT kvs))) :
    (d == sysModules) = false ∧ s.heap.get? d = some o ∧ o.ExactDict ∧ ∃ (es : Array DictEntry) (ep : Nat), o.data = .dict es ep ∧ es.size = kvs.length ∧
      ∀ (i : Nat) (k : List L2.Key) (v : V), kvs[i]? = some (k, v) → ∃ (en : DictEntry) (q : Addr), es[i]? = some en ∧ en.key = .ref q ∧ H q = some (.tup (k.map kV)) ∧ RelV v en.val := by
  obtain ⟨hd, z, hs, xs, pr, o', es, ep, ho, hx, hdt, he, _⟩ := I.hok d _ h
  rw [hd] at ho
  cases ho
  refine ⟨hs, hd, hx, es, ep, hdt, ?_, fun i k v e => ?_⟩
  · have l1 : es.size = xs.length := size_of_entries he
    have l2 : kvs.length = xs.length := Paired.length pr
    omega
  · obtain ⟨b, hb, e1, e2, e3⟩ := paired_get pr e
    have q := entry_at he i
    rw [hb] at q
    exact ⟨_, b.2.1, q, rfl, e2, e3⟩
/-- the pairs of such a dict, each a new tuple of the key's own tuple and the value -/
def Itit (d : Addr) (o : Obj) (kvs : List (List L2.Key × V)) : It :=
  ⟨fun i H => H d = some (.frz o (.dT kvs)) ∧ i < kvs.length, fun i H x H' => ∃ (T : Addr) (k : List L2.Key) (v : V) (q : Addr), kvs[i]? = some (k, v) ∧ x = .ref T ∧ H q = some (.tup (k.map kV)) ∧ H T = none ∧ H' = upd H T (.tup [.ref q, v]), fun i H => H d = some (.frz o (.dT kvs)) ∧ kvs.length ≤ i⟩
theorem turn_itemsT {P : Program} {w : World} {K : PySem.W.Frag} {d : Addr} {o : Obj} {es : Array DictEntry} {ep : Nat} {kvs : List (List L2.Key × V)} {elts : List Expr} {kk : Nat} {tpos : Pos} (it : Addr) (hod : o.data = .dict es ep) :
    Turn P w K (.Tuple elts kk tpos) (Itit d o kvs) [it] it (fun i h => ∃ ok ov, IsItemIter h it d i kvs.length ep ok ov) where
  mem := by simp
  obj := fun i h st b hb => by
    have e : b = it := by simpa using hb
    subst e
    obtain ⟨ok, ov, e⟩ := st
    exact ⟨_, e, fun v z => nomatch z⟩
  keep := fun i h h' st k => let ⟨ok, ov, e⟩ := st; ⟨ok, ov, k it (by simp) _ e⟩
  item := by
    intro X hP hw hK hc i pins s σ H E I hf st hg
    subst hP hw hK
    obtain ⟨hd, hi⟩ := hg
    obtain ⟨hs, hgd, hx, es', ep', hdt, hsz, ent⟩ := frzT2 I hd
    obtain ⟨rfl, rfl⟩ := dict_ep hod hdt
    obtain ⟨⟨k, v⟩, hkv⟩ : ∃ p, kvs[i]? = some p := ⟨kvs[i], List.getElem?_eq_getElem hi⟩
    obtain ⟨en, q, hen, hkey, hq, rv⟩ := ent i k v hkv
    obtain ⟨ok, ov, he⟩ := st
    rw [← hsz] at he
    have hlt : it < s.heap.objs.size := Heap.lt_size he
    have hi' : i < es'.size := by omega
    have een : es'[i] = en := by
      rw [Array.getElem?_eq_getElem hi'] at hen
      exact Option.some.inj hen
    refine PySem.wpAny_pyNext_items_item_raw he ⟨o, hgd, hx, hdt⟩ hi' fun h' ho hT hz hk => ?_
    refine ⟨_, rfl, wpAny_letOwnedTupleGo_items (s := { s with heap := h' }) ho fun h'' he' sb => ?_⟩
    rw [een] at hT he'
    have hT2 : h''.get? s.heap.objs.size = some { cls := .type "tuple", data := .seq #[en.key, en.val] } := (sb.2 _ (Nat.ne_of_gt hlt)).trans hT
    have new : ObjOk X.prog X.w (upd H s.heap.objs.size (.tup [.ref q, v])) h'' s.heap.objs.size (.tup [.ref q, v]) :=
      ⟨by show 2 ≤ sizeLine; decide, [en.key, en.val], .cons (show RelV (.ref q) en.key from hkey) (.cons rv .nil), ⟨_, hT2, rfl, _, rfl⟩⟩
    have I1 : Inv X pins σ (upd H s.heap.objs.size (.tup [.ref q, v])) { s with heap := h'' } :=
      I.turnedNew (t' := s.toks) (ch := [it]) (fun b ob hb e => (sb.2 b (by simpa using hb)).trans (hk b ob (by simpa using hb) e)) hf (Nat.le_refl _) new
    refine ⟨.ref s.heap.objs.size, _, I1, rfl, ⟨_, k, v, q, hkv, rfl, hq, I.hok.fresh (Nat.le_refl _), rfl⟩, ⟨en.key, en.val, ?_⟩, fun b hb => ?_⟩
    · rw [← hsz]; exact he'
    · have e : b = it := by simpa using hb
      rw [e, upd_ne (Nat.ne_of_lt hlt)]
      exact (hf it (by simp)).1
  done := by
    intro X hP hw hK hc i pins s σ H E I hf st hg
    subst hP hw hK
    obtain ⟨hd, hi⟩ := hg
    obtain ⟨f0, f1, f2, f3, f4, f5⟩ := hf it (by simp)
    obtain ⟨hs, hgd, hx, es', ep', hdt, hsz, ent⟩ := frzT2 I hd
    obtain ⟨rfl, rfl⟩ := dict_ep hod hdt
    obtain ⟨ok, ov, he⟩ := st
    rw [← hsz] at he
    exact PySem.wpAny_pyNext_items_end_raw (I.ok.hd hc) he ⟨o, hgd, hx, hdt⟩ (by omega) fun h' eb => ⟨rfl, I.turned (t' := s.toks) (fun b ob hb e => eb b ob hb e) f0 f1 f3 f4 f5⟩
  self := fun A i s Q E st h => let ⟨_, _, e⟩ := st; PySem.W.kcp_self e h
/-- for (..) in d.items(), the dict locked, its keys tuples -/
def iItemsT (td : TE) : TI := fun σ H R => td σ H fun x H1 => ∃ (d : Addr) (o : Obj) (kvs : List (List L2.Key × V)), x = .ref d ∧ H1 d = some (.frz o (.dT kvs)) ∧ R (Itit d o kvs) H1
theorem pi_itemsT {X : Cx} {elts : List Expr} {kk : Nat} {tpos apos cpos : Pos} {e : Expr} {td : TE} (he : PE X e td) (hbase : attributeBase e "items" X.env (eval e X.env) = eval e X.env := by rfl) (hline : (apos.endLine == cpos.line) = true := by rfl) :
    PI X (.Tuple elts kk tpos) (.Call (.Attribute e "items" apos) [] [] cpos) (iItemsT td) := by
  refine ⟨fun pins s σ H R I h => ?_⟩
  refine wpAny_Call_method (T := "dict") (id := "dict.items") hbase rfl hline PySem.F.plainAttrs_dict PySem.F.slot_dict_items PySem.F.type_dict_items (thn (he.run pins s σ H _ I h) fun u s1 ⟨x, H1, I1, rx, d, o, kvs, ex, hd, q⟩ => ?_)
  subst ex
  obtain rfl : u = Value.ref d := rx
  obtain ⟨hs, hgd, hx, es, ep, hdt, hsz, ent⟩ := frzT2 I1 hd
  have raw : DT.Raw s1.heap d es ep := ⟨o, hgd, hx, hdt⟩
  refine ⟨raw.typeIs, fun b e => by cases e; exact ⟨o, hgd, hx.2.1⟩, ?_⟩
  have I2 : Inv X pins σ H1 { s1 with heap := s1.heap.push { cls := .type "dict_items", data := .fields #[.ref d] } } := I1.kept (t' := s1.toks) fun b ob q => Heap.get?_push_of_some _ q
  have fin : wpAny (model X.prog X.w) X.A (pyIter (.ref s1.heap.objs.size)) (PIE X pins σ (.Tuple elts kk tpos) R) X.xe { s1 with heap := s1.heap.push { cls := .type "dict_items", data := .fields #[.ref d] } } := by
    refine DT.iterI (d := d) ⟨_, Heap.get?_push_size _ rfl, rfl, rfl⟩ ⟨o, Heap.get?_push_of_some _ hgd, hx, hdt⟩ (pi_one (tk := s1.toks) I2 _ (turn_itemsT _ hdt) ⟨.none, .none, ?_⟩ q)
    rw [← hsz]
    exact Heap.get?_push_size _ rfl
  show wpAny _ _ (callWith cpos (.builtin "dict.items") [.ref d] [] []) _ X.xe s1
  exact method_meetsIn PySem.F.slot_dict_items PySem.F.entry_dict_items rfl (PySem.evalArgs_none ⟨rfl, raw.typeIs, PySem.F.args_dict_items_1 _, _, DT.meetsItems (es := es) (ep := ep) hs, ⟨raw, fin⟩⟩)
end Lm


/-! things grouped in a dict of lists (k72, k74) -/
namespace Lm
open PySem PySem.Spec PyProof.Rows L2
/-- a slot that a change of another's list leaves -/
def FlS : Option Rs → Prop
  | none => True
  | some (.v d) => flatD d = true
  | some (.r _) => True
  | some (.d _) => True
  | _ => False
theorem poke_mns {H : Hp} {O : List Addr} {b : Addr} {o : HO} (nb : b ∉ O) : mns (upd H b o) O = upd (mns H O) b o := by
  funext a
  by_cases q : a = b
  · subst q; rw [mns_out nb, upd_same, upd_same]
  · rw [upd_ne q]
    by_cases w : a ∈ O
    · rw [mns_in w, mns_in w]
    · rw [mns_out w, mns_out w, upd_ne q]
theorem poke_reps {c : Ct} {H : Hp} {O : List Addr} {b : Addr} {y o : HO} (hb : H b = some y) (hy : OwnU y) (nb : b ∉ O) : ∀ {σ : L2.St} {Γ : List (Option Rs)} {fp : List Addr}, Reps c O H σ Γ fp → (∀ s ∈ Γ, FlS s) → (∀ a ∈ fp, a ∈ O) → Reps c O (upd H b o) σ Γ fp := by
  intro σ Γ fp h
  induction h with
  | nil => intro _ _; exact .nil
  | @cons x s f fs σ Γ a _ ih =>
    intro hΓ hf
    refine .cons ?_ (ih (fun s hs => hΓ s (List.mem_cons_of_mem _ hs)) fun a ha => hf a (by simp [ha]))
    have fs := hΓ s (List.mem_cons_self ..)
    have hb' : mns H O b = some y := by rw [mns_out nb]; exact hb
    cases s with
    | none => exact a
    | some s =>
      cases s with
      | v d => exact ⟨a.1, a.2.elim fun v hv => ⟨v, hv.1, by rw [poke_mns nb]; exact hv.2.flatTo (fun _ _ s => sqT_updO hb' hy s) fs⟩⟩
      | o d => exact fs.elim
      | r z => exact a
      | d u => exact a.elim fun q ⟨w1, w2, w3, w4⟩ => ⟨q, w1, w2, by rw [upd_ne (fun w => nb (by rw [← w]; exact hf q (by rw [w1]; simp)))]; exact w3, w4⟩
      | w ds => exact fs.elim
theorem Env.pokeF {K : PySem.W.Frag} {H0 H : Hp} {O : List Addr} {σ : L2.St} {Γ : List (Option Rs)} (e : Env (pc K) H0 O H σ Γ) (hΓ : ∀ s ∈ Γ, FlS s) {b : Addr} {y o : HO} (hb : H b = some y) (hy : OwnU y) (nb : b ∉ O) (h0 : H0 b = none) : Env (pc K) H0 O (upd H b o) σ Γ := by
  refine ⟨?_, Ji.pc, e.fr, fun a ha => ?_, ?_⟩
  · rw [poke_mns nb]
    exact ⟨fun a o' ok h => by
      have : a ≠ b := fun w => by rw [w, h0] at h; cases h
      rw [upd_ne this]; exact e.r0.1 a o' ok h, fun _ => Ji.pc⟩
  · obtain ⟨u, h1, h2⟩ := e.dm a ha
    exact ⟨u, by rw [upd_ne (show a ≠ b from fun w => nb (by rw [← w]; exact ha))]; exact h1, h2⟩
  · obtain ⟨fp, hr, nd, sub⟩ := e.rep
    exact ⟨fp, poke_reps hb hy nb hr hΓ sub, nd, sub⟩
/-! ### groups -/
abbrev GE := (Int × Int) × List Int
def grpK (k : Int × Int) : List L2.Key := [.inl k.1, .inl k.2]
theorem grpK_inj {k k' : Int × Int} : grpK k = grpK k' ↔ k = k' := by
  unfold grpK
  constructor
  · intro h
    simp at h
    exact Prod.ext h.1 h.2
  · rintro rfl; rfl
def putG : List GE → Int × Int → Int → List GE
  | [], k, b => [(k, [b])]
  | e :: E, k, b => if e.1 = k then (k, e.2 ++ [b]) :: E else e :: putG E k b
abbrev GA := GE × Addr
def kvG (G : List GA) : List (List L2.Key × V) := G.map fun g => (grpK g.1.1, V.ref g.2)
def putA : List GA → Int × Int → Int → Addr → List GA
  | [], k, b, l => [((k, [b]), l)]
  | g :: G, k, b, l => if g.1.1 = k then ((k, g.1.2 ++ [b]), g.2) :: G else g :: putA G k b l
theorem putA_fst : ∀ (G : List GA) (k : Int × Int) (b : Int) (l : Addr), (putA G k b l).map (·.1) = putG (G.map (·.1)) k b
  | [], k, b, l => rfl
  | g :: G, k, b, l => by
    unfold putA
    rw [List.map_cons]
    unfold putG
    split
    · rfl
    · rw [List.map_cons, putA_fst G]
theorem valG_cons {g : GA} {G : List GA} {k : Int × Int} : valV (kvG (g :: G)) (grpK k) = if g.1.1 = k then some (.ref g.2) else valV (kvG G) (grpK k) := by
  unfold valV kvG
  rw [List.map_cons, List.find?_cons]
  by_cases e : g.1.1 = k
  · rw [if_pos e, decide_eq_true (grpK_inj.mpr e)]; rfl
  · rw [if_neg e, decide_eq_false (fun w => e (grpK_inj.mp w))]
theorem putA_new : ∀ {G : List GA} {k : Int × Int} {b : Int} {l : Addr}, valV (kvG G) (grpK k) = none → putA G k b l = G ++ [((k, [b]), l)] ∧ ∀ g ∈ G, g.1.1 ≠ k
  | [], k, b, l, _ => ⟨rfl, fun g hg => nomatch hg⟩
  | g :: G, k, b, l, h => by
    rw [valG_cons] at h
    by_cases e : g.1.1 = k
    · rw [if_pos e] at h; cases h
    · rw [if_neg e] at h
      obtain ⟨h1, h2⟩ := putA_new (b := b) (l := l) h
      unfold putA
      rw [if_neg e, h1]
      refine ⟨rfl, fun x hx => ?_⟩
      rcases List.mem_cons.mp hx with rfl | hx
      · exact e
      · exact h2 x hx
theorem putA_old : ∀ {G : List GA} {k : Int × Int} {b : Int} {l : Addr} {v : V}, valV (kvG G) (grpK k) = some v → (G.map (·.2)).Nodup → ∃ g ∈ G, v = .ref g.2 ∧ g.1.1 = k ∧ kvG (putA G k b l) = kvG G ∧ (putA G k b l).map (·.2) = G.map (·.2) ∧ (putA G k b l).map (·.1.1) = G.map (·.1.1) ∧ ∀ g' ∈ putA G k b l, g' = ((k, g.1.2 ++ [b]), g.2) ∨ (g' ∈ G ∧ g'.2 ≠ g.2)
  | [], k, b, l, v, h, _ => nomatch h
  | g :: G, k, b, l, v, h, nd => by
    rw [valG_cons] at h
    rw [List.map_cons, List.nodup_cons] at nd
    by_cases e : g.1.1 = k
    · rw [if_pos e] at h
      refine ⟨g, List.mem_cons_self .., (Option.some.inj h).symm, e, ?_, ?_, ?_, ?_⟩
      · unfold putA; rw [if_pos e]; unfold kvG; rw [List.map_cons, List.map_cons, e]
      · unfold putA; rw [if_pos e]; rfl
      · unfold putA; rw [if_pos e, List.map_cons, List.map_cons, e]
      · unfold putA
        rw [if_pos e]
        intro g' hg'
        rcases List.mem_cons.mp hg' with rfl | hg'
        · exact .inl rfl
        · exact .inr ⟨List.mem_cons_of_mem _ hg', fun w => nd.1 (w ▸ List.mem_map_of_mem hg')⟩
    · rw [if_neg e] at h
      obtain ⟨g0, m0, e1, e2, e3, e4, e5, e6⟩ := putA_old (b := b) (l := l) h nd.2
      refine ⟨g0, List.mem_cons_of_mem _ m0, e1, e2, ?_, ?_, ?_, ?_⟩
      · unfold putA; rw [if_neg e]; unfold kvG at e3 ⊢; rw [List.map_cons, List.map_cons, e3]
      · unfold putA; rw [if_neg e, List.map_cons, List.map_cons, e4]
      · unfold putA; rw [if_neg e, List.map_cons, List.map_cons, e5]
      · unfold putA
        rw [if_neg e]
        intro g' hg'
        rcases List.mem_cons.mp hg' with rfl | hg'
        · exact .inr ⟨List.mem_cons_self .., fun w => nd.1 (w ▸ List.mem_map_of_mem m0)⟩
        · rcases e6 g' hg' with w | ⟨w1, w2⟩
          · exact .inl w
          · exact .inr ⟨List.mem_cons_of_mem _ w1, w2⟩
/-- the lists of the groups, each one's own -/
structure Grp (F : Hp) (O : List Addr) (H : Hp) (G : List GA) : Prop where
  nd : (G.map (·.2)).Nodup
  fr : ∀ g ∈ G, F g.2 = none ∧ g.2 ∉ O
  lst : ∀ g ∈ G, H g.2 = some (.lst (g.1.2.map V.int))
theorem Grp.on {F H H' : Hp} {O : List Addr} {G : List GA} (h : Grp F O H G) (sm : ∀ g ∈ G, H' g.2 = H g.2) : Grp F O H' G := ⟨h.nd, h.fr, fun g hg => by rw [sm g hg]; exact h.lst g hg⟩
/-- one more in a group that is there -/
theorem Grp.old {F H : Hp} {O : List Addr} {G : List GA} {k : Int × Int} {b : Int} {l : Addr} {v : V} (h : Grp F O H G) (hv : valV (kvG G) (grpK k) = some v) : ∃ g ∈ G, v = .ref g.2 ∧ H g.2 = some (.lst (g.1.2.map V.int)) ∧ F g.2 = none ∧ g.2 ∉ O ∧ kvG (putA G k b l) = kvG G ∧ Grp F O (upd H g.2 (.lst (g.1.2.map V.int ++ [.int b]))) (putA G k b l) := by
  obtain ⟨g, m, e1, e2, e3, e4, e5, e6⟩ := putA_old (b := b) (l := l) hv h.nd
  refine ⟨g, m, e1, h.lst g m, (h.fr g m).1, (h.fr g m).2, e3, by rw [e4]; exact h.nd, fun g' hg' => ?_, fun g' hg' => ?_⟩
  · rcases e6 g' hg' with rfl | ⟨w, _⟩
    · exact h.fr g m
    · exact h.fr g' w
  · rcases e6 g' hg' with rfl | ⟨w, ne⟩
    · rw [upd_same, List.map_append]; rfl
    · rw [upd_ne ne]; exact h.lst g' w
theorem Grp.new {F H : Hp} {O : List Addr} {G : List GA} {k : Int × Int} {b : Int} {l : Addr} (h : Grp F O H G) (hv : valV (kvG G) (grpK k) = none) (hl : ∀ g ∈ G, g.2 ≠ l) (f : F l = none) (no : l ∉ O) : putK (kvG G) (grpK k) (.ref l) = kvG (putA G k b l) ∧ Grp F O (upd H l (.lst [.int b])) (putA G k b l) := by
  obtain ⟨e1, e2⟩ := putA_new (b := b) (l := l) hv
  rw [e1]
  refine ⟨?_, ?_, fun g hg => ?_, fun g hg => ?_⟩
  · unfold putK
    rw [valV_any, hv, if_neg (by simp)]
    unfold kvG
    rw [List.map_append]
    rfl
  · rw [List.map_append, List.nodup_append]
    refine ⟨h.nd, by simp, fun a ha b' hb w => ?_⟩
    obtain ⟨g, hg, rfl⟩ := List.mem_map.mp ha
    rw [List.mem_singleton.mp hb] at w
    exact hl g hg w
  · rcases List.mem_append.mp hg with w | w
    · exact h.fr g w
    · rw [List.mem_singleton.mp w]; exact ⟨f, no⟩
  · rcases List.mem_append.mp hg with w | w
    · rw [upd_ne (hl g w)]; exact h.lst g w
    · rw [List.mem_singleton.mp w, upd_same]; rfl
/-! ### one turn: moving.setdefault((old, new), []).append(bucket) -/
def addGT (K : PySem.W.Frag) : TS := tDrop (tBM K "list" rAppend (tBM K "dict" rSetdT (tVar 5) (tCons (tTup (tCons (tVar 7) (tCons (tVar 8) tNil))) (tCons (tLst tNil) tNil))) (tCons (tVar 6) tNil))
theorem kvG_len (G : List GA) : (kvG G).length = G.length := by simp [kvG]
theorem grp_step {K : PySem.W.Frag} {F H : Hp} {O : List Addr} {σ : L2.St} {Γ : List (Option Rs)} {G : List GA} {b o n : Int} (e : Env (pc K) F O H σ Γ) (hΓ : ∀ s ∈ Γ, FlS s)
    (h5 : Γ[5]? = some (some (.d (.dT (kvG G))))) (h6 : Γ[6]? = some (some (.v (.int b)))) (h7 : Γ[7]? = some (some (.v (.int o)))) (h8 : Γ[8]? = some (some (.v (.int n)))) (hG : Grp F O H G) (hl : G.length < 1000000) (hfl : ∀ g ∈ G, g.1.2.length < 1000000) {D : Ends}
    (q : ∀ H' l, Env (pc K) F O H' σ (Γ.set 5 (some (.d (.dT (kvG (putA G (o, n) b l)))))) → Grp F O H' (putA G (o, n) b l) → D.nx σ H') : addGT K D σ H := by
  obtain ⟨p, hp5, hpH, _, hpO⟩ := e.slotD h5
  obtain ⟨v6, s6, b6⟩ := e.slotV h6
  obtain ⟨v7, s7, b7⟩ := e.slotV h7
  obtain ⟨v8, s8, b8⟩ := e.slotV h8
  obtain rfl := b6.int'
  obtain rfl := b7.int'
  obtain rfl := b8.int'
  refine ⟨.ref p, hp5, .inr (.inr (.inl ⟨rfl, .inr ⟨_, hpH⟩⟩)), .int o, s7, .int n, s8, by show 2 ≤ sizeLine; decide, fun t ht => ⟨by show 0 ≤ sizeLine; decide, fun l hl' => ?_⟩⟩
  have tp : p ≠ t := fun w => by rw [w, ht] at hpH; cases hpH
  have lp : p ≠ l := fun w => by rw [← w, upd_ne tp, hpH] at hl'; cases hl'
  have tl : t ≠ l := fun w => by rw [← w, upd_same] at hl'; cases hl'
  have sm1 : Same H (upd H t (.tup [.int o, .int n])) := fun b u z => by rw [upd_ne (ne_of_none z ht)]; exact z
  have sm2 : Same (upd H t (.tup [.int o, .int n])) (upd (upd H t (.tup [.int o, .int n])) l (.lst [])) := fun b u z => by rw [upd_ne (ne_of_none z hl')]; exact z
  have e1 := e.on (Rr.same sm1)
  have e2 := e1.on (Rr.same sm2)
  have lO : l ∉ O := new_notO e1 hl'
  have lF : F l = none := e1.back0 (by rw [mns_out lO]; exact hl')
  have gt : ∀ g ∈ G, g.2 ≠ t ∧ g.2 ≠ l := fun g hg => by
    have := hG.lst g hg
    have c1 : g.2 ≠ t := ne_of_none this ht
    exact ⟨c1, ne_of_none (sm1 _ _ this) hl'⟩
  have G2 : Grp F O (upd (upd H t (.tup [.int o, .int n])) l (.lst [])) G := hG.on fun g hg => by rw [upd_ne (gt g hg).2, upd_ne (gt g hg).1]
  refine ⟨p, kvG G, grpK (o, n), t, .ref l, rfl, rfl, by rw [upd_ne lp, upd_ne tp]; exact hpH, by rw [upd_ne tl, upd_same]; rfl, by rw [kvG_len, sizeLine_eq]; omega, fun v hv => ?_, fun hv => ?_⟩
  · obtain ⟨g, m, rfl, ha, fa, na, ek, g'⟩ := G2.old (b := b) (l := l) hv
    refine ⟨.inl ⟨rfl, _, .inl (.inl ha)⟩, .int b, s6, g.2, _, .int b, rfl, rfl, ha, by have := hfl g m; rw [List.length_map, sizeLine_eq]; omega, q _ l ?_ g'⟩
    have eΓ : Γ.set 5 (some (.d (.dT (kvG (putA G (o, n) b l))))) = Γ := by
      rw [ek]
      obtain ⟨i5, e5⟩ := List.getElem?_eq_some_iff.mp h5
      rw [← e5]
      exact List.set_getElem_self i5
    rw [eΓ]
    exact e2.pokeF hΓ ha trivial na fa
  · obtain ⟨p', hp', hH', _, e3⟩ := e2.writeD (w := .dT (putK (kvG G) (grpK (o, n)) (.ref l))) h5 trivial
    have : p' = p := by rw [hp5] at hp'; cases hp'; rfl
    subst this
    have G3 : Grp F O (upd (upd (upd H t (.tup [.int o, .int n])) l (.lst [])) p' (.dT (putK (kvG G) (grpK (o, n)) (.ref l)))) G := G2.on fun g hg => by rw [upd_ne (show g.2 ≠ p' from fun w => (hG.fr g hg).2 (by rw [w]; exact hpO))]
    obtain ⟨ek, g'⟩ := G3.new (b := b) (l := l) hv (fun g hg => (gt g hg).2) lF lO
    have hlL : (upd (upd (upd H t (.tup [.int o, .int n])) l (.lst [])) p' (.dT (putK (kvG G) (grpK (o, n)) (.ref l)))) l = some (.lst []) := by rw [upd_ne (Ne.symm lp), upd_same]
    refine ⟨.inl ⟨rfl, _, .inl (.inl hlL)⟩, .int b, s6, l, _, .int b, rfl, rfl, hlL, by show 0 < sizeLine; decide, q _ l ?_ g'⟩
    rw [← ek]
    refine e3.pokeF (fun s hs => ?_) hlL trivial lO lF
    rcases List.mem_or_eq_of_mem_set hs with w | w
    · exact hΓ s w
    · rw [w]; trivial
end Lm


/-! the groups, told (k72, k74) -/
namespace Lm
open PySem PySem.Spec PyProof.Rows L2
/-- a comprehension, where what it walks is known here alone -/
theorem n_lcAt {c : Ct} {H0 H : Hp} {O : List Addr} {σ : L2.St} {Γ : List (Option Rs)} {fz : Bool} {te : TE} {tt : TT} (e : Env c H0 O H σ Γ) {wi : TI} {g : TG} {vs : List Nat} {items : List Im} (M : Nat → List PyData → Prop) (hi : ∀ R : It → Hp → Prop, (∀ J H1, Rr c H H1 → WD c (if fz then mns H1 O else H1) fz J items → R J H1) → wi σ H R) (hl : items.length ≤ 1000000) (h0 : M 0 [])
    (hb : ∀ (n : Nat) (a : Im) (acc : List PyData), items[n]? = some a → M n acc → ∃ Γ' js, EvG c g a (wipeG Γ vs) Γ' js ∧ (∀ j ∈ js, j ∈ vs) ∧
      ∃ (b : Bool) (P : PyData → Prop), EvT c tt Γ' b ∧ (b = true → EvN c te Γ' .o P ∧ ∀ d, P d → M (n + 1) (acc ++ [d])) ∧ (b = false → M (n + 1) acc)) :
    ∀ Q : VK, (∀ v d H2, (∃ acc, d = .list acc ∧ M items.length acc) → Rr c H H2 → Res c O H H2 v d .o → Q v H2) → tLc wi g tt te vs σ H Q := fun Q q =>
  hi _ fun J H1 r1 w D hD => by
    obtain ⟨jF, w⟩ := w
    refine lc_it w (fun n H' => Rr c H1 H' ∧ ∃ acc ds fp, H' D = some (.lst acc) ∧ FoAll c H' acc ds fp ∧ fp.Nodup ∧ (∀ a ∈ fp, H1 a = none) ∧ D ∉ fp ∧ ds.length ≤ n ∧ M n ds) ?_ ?_ ?_ ?_
    · exact ⟨Rr.same fun b o z => by rw [upd_ne (ne_of_none z hD)]; exact z, [], [], [], upd_same, .nil, List.nodup_nil, (fun _ h => nomatch h), (fun h => nomatch h), Nat.le_refl _, h0⟩
    · intro n H' _ p
      exact (ifFz (F := H) e r1 p.1).1
    · rintro n x H' H'' hn ⟨p1, acc, ds, fp, p2, p3, p4, p5, p6, p7, p8⟩ ⟨sm, im, him, lo⟩
      have e2 : Env c H0 O H'' σ Γ := e.on ((r1.tr p1).tr (Rr.same sm))
      have fzz := ifFz (fz := fz) (F := H) e r1 (p1.tr (Rr.same sm))
      obtain ⟨Γ', js, hg, hjs, b, P, ht, hy, hno⟩ := hb n im ds him p8
      refine hg H0 O H'' _ _ fz x (e2.wipe vs) jF fzz.1 fzz.2 lo _ fun σ2 e3 hw => ⟨(hw vs hjs).trans (wipe_wipe fun _ h => h), ht H0 O H'' σ2 e3 _ fun H3 r3 => ?_⟩
      have p3' : FoAll c H'' acc ds fp := p3.up (fun _ _ s => sqT_same sm s) fun a _ o z => sm a o z
      have okf : ∀ a ∈ fp, okA c a := fun a ha => okA.fresh (e.on r1).jH (p5 a ha)
      have okD : okA c D := okA.fresh (e.on r1).jH hD
      have f3 : FoAll c H3 acc ds fp := p3'.up (fun _ _ s => r3.tup e2.jH s) fun a ha o z => r3.1 a o (okf a ha) z
      have D3 : H3 D = some (.lst acc) := r3.1 D _ okD (sm _ _ p2)
      have r13 : Rr c H1 H3 := (p1.tr (Rr.same sm)).tr r3
      cases b with
      | true =>
        refine iteT ?_
        obtain ⟨hyN, hyM⟩ := hy rfl
        refine hyN H0 O H3 σ2 (e3.on r3) _ fun v d H4 pd r4 s4 => ?_
        obtain ⟨fq, f4, nq, newq⟩ := s4
        have e3' := e3.on r3
        have D4 : H4 D = some (.lst acc) := r4.1 D _ okD D3
        have f3' : FoAll c H4 acc ds fp := f3.up (fun _ _ s => r4.tup e3'.jH s) fun a ha o z => r4.1 a o (okf a ha) z
        have Dq : D ∉ fq := fun z => by rw [newq D z] at D3; cases D3
        have all : FoAll c H4 (acc ++ [v]) (ds ++ [d]) (fp ++ (fq ++ [])) := f3'.app (.cons f4 .nil)
        rw [List.append_nil] at all
        have lacc : acc.length = ds.length := (f3'.bo okf).len
        have hle : ds.length ≤ 1000000 := by omega
        have nodq : ∀ a ∈ fp, a ∉ fq := fun a ha hq => by
          obtain ⟨xs, z⟩ := f3.isL a ha
          rw [newq a hq] at z; cases z
        refine ⟨acc, D4, by rw [lacc, sizeLine_eq]; omega, ?_, acc ++ [v], ds ++ [d], fp ++ fq, upd_same, ?_, ?_, ?_, ?_, by simp; omega, hyM d pd⟩
        · refine ⟨fun a o ok z => ?_, fun jj => ?_⟩
          · rw [upd_ne (ne_of_none z hD)]; exact (r13.tr r4).1 a o ok z
          · intro st l eq
            obtain ⟨ns, x, k, g1, g2, g3, g4⟩ := (r13.tr r4).2 jj st l eq
            have d1 : st ≠ D := fun z => by
              obtain ⟨ns', x', k', g1', _⟩ := jj st l eq
              rw [z, hD] at g1'; cases g1'
            have d2 : l ≠ D := fun z => by
              obtain ⟨ns', x', k', _, g2', _⟩ := jj st l eq
              rw [z, hD] at g2'; cases g2'
            exact ⟨ns, x, k, by rw [upd_ne d1]; exact g1, by rw [upd_ne d2]; exact g2, g3, g4⟩
        · refine all.up (fun _ _ s => sqT_upd D4 s) fun a ha o z => ?_
          have : a ≠ D := fun w => by
            subst w
            rcases List.mem_append.mp ha with u | u
            · exact p6 u
            · exact Dq u
          rw [upd_ne this]; exact z
        · rw [List.nodup_append]
          exact ⟨p4, nq, fun a ha b hb z => by subst z; exact nodq a ha hb⟩
        · intro a ha
          rcases List.mem_append.mp ha with u | u
          · exact p5 a u
          · exact r13.back (e.on r1).jH (newq a u)
        · intro z
          rcases List.mem_append.mp z with u | u
          · exact p6 u
          · exact Dq u
      | false =>
        exact iteF ⟨r13, acc, ds, fp, D3, f3, p4, p5, p6, by omega, hno rfl⟩
    · rintro H' ⟨p1, acc, ds, fp, p2, p3, p4, p5, p6, p7, p8⟩
      refine q (.ref D) (.list ds) H' ⟨ds, rfl, p8⟩ (r1.tr p1) ⟨D :: fp, .lst p2 p3, ?_, fun a ha => ?_⟩
      · exact List.nodup_cons.mpr ⟨p6, p4⟩
      · rcases List.mem_cons.mp ha with w | w
        · rw [w]; exact r1.back e.jH hD
        · exact r1.back e.jH (p5 a w)
theorem reps_any {c : Ct} {O : List Addr} {H : Hp} : ∀ {σ : L2.St}, Reps c O H σ (List.replicate σ.length none) []
  | [] => .nil
  | _ :: _ => .cons (f := []) (fs := []) rfl reps_any
def rowG (g : GE) : PyData := .tuple [.int g.1.1, .int g.1.2, .int (g.2.headD 0), .int (g.2.length : Nat)]
def itG (g : GA) : Im := .t [.t [.d (.int g.1.1.1), .d (.int g.1.1.2)], .d (.list (g.1.2.map .int))]
def endG (K : PySem.W.Frag) : TE := tLockE (tLc (iItemsT (tVar 5)) (gTup K 2 (gCons (gTup K 2 (gCons (gName 7) (gCons (gName 8) gNil))) (gCons (gName 9) gNil))) tYes (tTupN (tCons (tVar 7) (tCons (tVar 8) (tCons (tOp (rIx K) (tVar 9) (tC (.int 0))) (tCons (tCB (Lm.rLen K) (tCons (tVar 9) tNil)) tNil))))) [9, 7, 8])
theorem grp_end {K : PySem.W.Frag} {F H0 H : Hp} {O : List Addr} {σ : L2.St} {Γ : List (Option Rs)} {G : List GA} (e : Env (pc K) H0 O H σ Γ) (l10 : Γ.length = 10) (h5 : Γ[5]? = some (some (.d (.dT (kvG G))))) (hG : Grp F O H G) (hn : ∀ g ∈ G, g.1.2 ≠ []) (hl : G.length ≤ 1000000) (Q : VK)
    (q : ∀ v H2, Rr (pc K) H H2 → Res (pc K) O H H2 v (.list (G.map fun g => rowG g.1)) .o → Q v H2) : endG K σ H Q := by
  obtain ⟨p, hp5, hpH, _, hpO⟩ := e.slotD h5
  have lσ : σ.length = 10 := by rw [e.len]; exact l10
  have okp : ∀ a, okA (pc K) a := fun a _ _ z => nomatch z
  refine ⟨p, .dT (kvG G), hpH, trivial, fun od => ?_⟩
  have eL : Env (pc K) (upd H p (.frz od (.dT (kvG G)))) [] (upd H p (.frz od (.dT (kvG G)))) σ (List.replicate 10 none) := by
    refine ⟨by rw [mns_nil]; exact Rr.rf, Ji.pc, (fun _ h => nomatch h), (fun _ h => nomatch h), [], ?_, List.nodup_nil, fun _ h => nomatch h⟩
    rw [← lσ]
    exact reps_any
  refine n_lcAt eL (fz := true) (items := G.map itG) (fun n acc => acc = (G.take n).map fun g => rowG g.1) (fun R h => ?_) (by simpa using hl) rfl (fun n a acc ha hacc => ?_) _ ?_
  · refine ⟨.ref p, hp5, p, od, kvG G, rfl, upd_same, h _ _ Rr.rf ⟨Ji.pc, ?_⟩⟩
    rw [if_pos rfl, mns_nil, List.length_map]
    refine ⟨fun i H' hi hR => ⟨hR.1 p _ (okp p) upd_same, by rw [kvG_len]; exact hi⟩, fun H' hR => ⟨hR.1 p _ (okp p) upd_same, by rw [kvG_len]; exact Nat.le_refl _⟩, ?_⟩
    rintro i H' x H'' hi hR ⟨T, k, v, t, hk, rfl, ht, hT, rfl⟩
    obtain ⟨g, eg⟩ : ∃ g, g = G[i] := ⟨_, rfl⟩
    have ek : (k, v) = (grpK g.1.1, V.ref g.2) := by
      unfold kvG at hk
      rw [List.getElem?_map, List.getElem?_eq_getElem hi, ← eg] at hk
      exact (Option.some.inj hk).symm
    cases ek
    have gm : g ∈ G := eg ▸ List.getElem_mem hi
    have gp : g.2 ≠ p := fun w => (hG.fr g gm).2 (by rw [w]; exact hpO)
    have tT : t ≠ T := fun w => by rw [w, hT] at ht; cases ht
    refine ⟨fun b u z => by rw [upd_ne (ne_of_none z hT)]; exact z, itG g, by rw [List.getElem?_map, List.getElem?_eq_getElem hi, ← eg]; rfl, ?_⟩
    refine .tup (.inl (.inl upd_same)) (.cons (.tup (.inl (.inl (by rw [upd_ne tT]; exact ht))) (.cons (.leaf (.inl ⟨rfl, .int _⟩)) (.cons (.leaf (.inl ⟨rfl, .int _⟩)) .nil))) (.cons (.leaf (.inr ⟨rfl, ?_⟩)) .nil))
    exact .lst (okp _) (.inl (.inl (by rw [upd_ne gp]; exact hG.lst g gm))) (BoAll.ofInts _)
  · rw [List.getElem?_map] at ha
    cases hg : G[n]? with
    | none => rw [hg] at ha; cases ha
    | some g =>
      rw [hg] at ha
      have := Option.some.inj ha
      subst this
      have gm : g ∈ G := List.mem_of_getElem? hg
      refine ⟨_, _, g_tup rfl (g_cons (g_tup rfl (g_cons g_name (g_cons g_name g_nil))) (g_cons g_name g_nil)), fun j hj => (by
        simp only [List.append_nil, List.cons_append, List.nil_append, List.mem_cons, List.not_mem_nil, or_false] at hj ⊢
        omega), true, fun d => d = rowG g.1, t_yes, fun _ => ⟨(Ev.fo (d_tup (ds := [.int g.1.1.1, .int g.1.1.2, .int (g.1.2.headD 0), .int (g.1.2.length : Nat)]) (a_consV (d_var rfl) (a_consV (d_var rfl) (a_consV (e_ixLv (d := .int (g.1.2.headD 0)) (d_var rfl) d_int ?_) (a_consV (Ev.to (d_lenL (d_var rfl)) (by rw [List.length_map])) a_nil)))) (by simp)) rfl).n, fun d hd => ?_⟩, fun z => nomatch z⟩
      · have := hn g gm
        cases h : g.1.2 with
        | nil => exact absurd h this
        | cons a l => exact (show atI ((a :: l).map PyData.int) ((0 : Nat) : Int) = _ from atI_nat rfl)
      · rw [hacc, hd, List.take_add_one, hg, List.map_append]; rfl
  · rintro v d H2 ⟨acc, rfl, hM⟩ r ⟨fp, fo, nd, new⟩
    rw [List.length_map, List.take_length] at hM
    subst hM
    have p2 : H2 p = some (.frz od (.dT (kvG G))) := r.1 p _ (okp p) upd_same
    refine ⟨p2, q v _ ⟨fun a o _ z => ?_, fun _ => Ji.pc⟩ ⟨fp, fo.up (fun a xs s => ?_) (fun a ha o z => ?_), nd, fun a ha => ?_⟩⟩
    · by_cases w : a = p
      · subst w
        rw [upd_same, ← hpH]; exact z
      · rw [upd_ne w]
        exact r.1 a o (okp a) (by rw [upd_ne w]; exact z)
    · rcases s with ⟨o, h1, h2⟩ | w
      · refine .inl ⟨o, h1, ?_⟩
        rw [upd_ne (fun w => by rw [w, p2] at h2; cases h2)]
        exact h2
      · exact .inr w
    · rw [upd_ne (fun w => by have := new a ha; rw [w, upd_same] at this; cases this)]
      exact z
    · have n1 := new a ha
      by_cases w : a = p
      · rw [w, upd_same] at n1; cases n1
      · rw [upd_ne w] at n1; exact n1
/-! ### all of it -/
def rwIm (r : Int × Int × Int) : Im := .d (.tuple [.int r.1, .int r.2.1, .int r.2.2])
def grpL (R : List (Int × Int × Int)) : List GE := R.foldl (fun E r => putG E (r.2.1, r.2.2) r.1) []
theorem grpL_snoc {R : List (Int × Int × Int)} {r : Int × Int × Int} : grpL (R ++ [r]) = putG (grpL R) (r.2.1, r.2.2) r.1 := by
  unfold grpL; rw [List.foldl_append]; rfl
theorem putG_facts {m : Nat} {k : Int × Int} {b : Int} : ∀ {E : List GE}, (∀ e ∈ E, e.2 ≠ [] ∧ e.2.length ≤ m) → (∀ e ∈ putG E k b, e.2 ≠ [] ∧ e.2.length ≤ m + 1) ∧ (putG E k b).length ≤ E.length + 1
  | [], _ => ⟨fun e he => by rw [List.mem_singleton.mp he]; exact ⟨by simp, by simp⟩, Nat.le_refl _⟩
  | g :: E, h => by
    have hg := h g (List.mem_cons_self ..)
    unfold putG
    by_cases w : g.1 = k
    · rw [if_pos w]
      refine ⟨fun e he => ?_, by simp⟩
      rcases List.mem_cons.mp he with rfl | he
      · exact ⟨by simp, by simp; omega⟩
      · have := h e (List.mem_cons_of_mem _ he)
        exact ⟨this.1, by omega⟩
    · rw [if_neg w]
      obtain ⟨h1, h2⟩ := putG_facts (k := k) (b := b) (E := E) fun e he => h e (List.mem_cons_of_mem _ he)
      refine ⟨fun e he => ?_, by simp; omega⟩
      rcases List.mem_cons.mp he with rfl | he
      · exact ⟨hg.1, by omega⟩
      · exact h1 e he
theorem grpL_facts (R : List (Int × Int × Int)) : ∀ n, n ≤ R.length → (∀ e ∈ grpL (R.take n), e.2 ≠ [] ∧ e.2.length ≤ n) ∧ (grpL (R.take n)).length ≤ n
  | 0, _ => ⟨fun e he => (by simp [grpL] at he), by simp [grpL]⟩
  | n + 1, h => by
    obtain ⟨h1, h2⟩ := grpL_facts R n (by omega)
    have e : R.take (n + 1) = R.take n ++ [R[n]] := by rw [List.take_add_one, List.getElem?_eq_getElem (by omega)]; rfl
    rw [e, grpL_snoc]
    obtain ⟨h3, h4⟩ := putG_facts (k := ((R[n]).2.1, (R[n]).2.2)) (b := (R[n]).1) h1
    exact ⟨h3, by omega⟩
theorem q_group {K : PySem.W.Frag} {Γ : List (Option Rs)} {R : List (Int × Int × Int)} {wi : TI} {P : Out → Prop} (l10 : Γ.length = 10) (hΓ : ∀ s ∈ Γ, FlS s) (hi : ∀ u : HO, EvI (pc K) wi (Γ.set 5 (some (.d u))) true (R.map rwIm)) (hR : R.length ≤ 100000)
    (p : P (.rt .o (.list ((grpL R).map rowG)))) : Sd (pc K) (tSeq (tAsg tDNewT (gName 5)) (tSeq (tFor wi (gTup K 3 (gCons (gName 6) (gCons (gName 7) (gCons (gName 8) gNil)))) (addGT K)) (tRet (endG K)))) Γ P := fun H0 O H σ D e s => fun a ha => by
  have e1 := e.setD (i := 5) (u := .dT (kvG [])) ha trivial
  refine hi (.dT (kvG [])) H0 (a :: O) _ _ e1 _ fun J H2 r2 w => ?_
  obtain ⟨jF, w⟩ := w
  have e2 := e1.on r2
  rw [List.length_map, if_pos rfl] at w
  refine for_it w (fun n σ' H' => ∃ (Γ' : List (Option Rs)) (G : List GA), Γ'.length = 10 ∧ (∀ s ∈ Γ', FlS s) ∧ Γ'[5]? = some (some (.d (.dT (kvG G)))) ∧ G.map (·.1) = grpL (R.take n) ∧ Grp (mns H2 (a :: O)) (a :: O) H' G ∧ Env (pc K) (mns H2 (a :: O)) (a :: O) H' σ' Γ')
    ⟨Γ.set 5 (some (.d (.dT (kvG [])))), [], by rw [List.length_set, l10], fun s hs => ?_, by rw [List.getElem?_set_self (by omega)], rfl, ⟨List.nodup_nil, (fun _ h => nomatch h), fun _ h => nomatch h⟩, e2.base⟩ ?_ ?_ ?_
  · rcases List.mem_or_eq_of_mem_set hs with w | w
    · exact hΓ s w
    · rw [w]; trivial
  · rintro n σ' H' _ ⟨_, _, _, _, _, _, _, e'⟩
    exact e'.rH
  · rintro n x σ' H' H'' hn ⟨Γ', G, l, f, h5, hg, hG, e'⟩ ⟨sm, im, him, lo⟩
    rw [List.getElem?_map, List.getElem?_eq_getElem hn] at him
    have := Option.some.inj him
    subst this
    obtain ⟨r, er⟩ : ∃ r, r = R[n] := ⟨_, rfl⟩
    rw [← er] at lo
    have e3 := e'.on (Rr.same sm)
    have G3 : Grp (mns H2 (a :: O)) (a :: O) H'' G := hG.on fun g hg => (sm _ _ (hG.lst g hg)).trans (hG.lst g hg).symm
    obtain ⟨b1, b2⟩ := grpL_facts R n (by omega)
    rw [← hg] at b1 b2
    rw [List.length_map] at b2
    have eg : EvG (pc K) (gTup K 3 (gCons (gName 6) (gCons (gName 7) (gCons (gName 8) gNil)))) (rwIm r) Γ' _ _ := g_tupD (c := pc K) rfl (g_cons g_name (g_cons g_name (g_cons g_name g_nil)))
    refine eg _ _ _ _ _ true x e3 jF e3.rH (fun _ => e3.r0) lo _ fun σ2 e4 _ => ?_
    have fl : ∀ s ∈ ((Γ'.set 6 (some (.v (.int r.1)))).set 7 (some (.v (.int r.2.1)))).set 8 (some (.v (.int r.2.2))), FlS s := fun s hs => by
      rcases List.mem_or_eq_of_mem_set hs with w | w
      · rcases List.mem_or_eq_of_mem_set w with w | w
        · rcases List.mem_or_eq_of_mem_set w with w | w
          · exact f s w
          · rw [w]; exact (rfl : flatD (.int r.1) = true)
        · rw [w]; exact (rfl : flatD (.int r.2.1) = true)
      · rw [w]; exact (rfl : flatD (.int r.2.2) = true)
    refine grp_step (b := r.1) (o := r.2.1) (n := r.2.2) e4 fl (G := G) ?_ ?_ ?_ ?_ G3 (by omega) (fun g hg => by have := (b1 g.1 (List.mem_map_of_mem hg)).2; omega) fun H3 t e5 g5 => ⟨_, putA G (r.2.1, r.2.2) r.1 t, ?_, ?_, ?_, ?_, g5, e5⟩
    · rw [List.getElem?_set_ne (by decide), List.getElem?_set_ne (by decide), List.getElem?_set_ne (by decide)]; exact h5
    · rw [List.getElem?_set_ne (by decide), List.getElem?_set_ne (by decide), List.getElem?_set_self (by omega)]
    · rw [List.getElem?_set_ne (by decide), List.getElem?_set_self (by rw [List.length_set]; omega)]
    · rw [List.getElem?_set_self (by rw [List.length_set, List.length_set]; omega)]
    · simp only [List.length_set]; exact l
    · intro s hs
      rcases List.mem_or_eq_of_mem_set hs with w | w
      · exact fl s w
      · rw [w]; trivial
    · rw [List.getElem?_set_self (by simp only [List.length_set]; omega)]
    · rw [putA_fst, hg, List.take_add_one, List.getElem?_eq_getElem hn, ← er]
      exact grpL_snoc.symm
  · rintro σ' H' ⟨Γ', G, l, f, h5, hg, hG, e'⟩
    rw [List.take_length] at hg
    obtain ⟨b1, b2⟩ := grpL_facts R R.length (Nat.le_refl _)
    rw [List.take_length, ← hg] at b1 b2
    rw [List.length_map] at b2
    have eF := e2.fromB e'
    refine grp_end eF l h5 hG (fun g hg => (b1 g.1 (List.mem_map_of_mem hg)).1) (by omega) _ fun v H3 r res => ?_
    refine s _ p v H3 (eF.rH.tr r) (Rt.of eF r ?_ (.inl rfl))
    rw [← hg, List.map_map]
    exact res
end Lm


/-! moves of intervals (k72, k74) -/
namespace Lm
open PySem PySem.Spec PyProof.Rows L2
def mvR (ns ms : List Int) : List (Int × Int × Int) := ((ns.zip ms).zipIdx.filter fun p => !decide (p.1.1 = p.1.2)).map fun p => ((p.2 : Int), p.1.1, p.1.2)
theorem mvR_len {ns ms : List Int} : (mvR ns ms).length ≤ ns.length := by
  unfold mvR
  rw [List.length_map]
  refine Nat.le_trans (List.length_filter_le ..) ?_
  simp
  omega
theorem mvR_im {ns ms : List Int} : (movesD ns ms).map Im.d = (mvR ns ms).map rwIm := by
  unfold movesD mvR
  rw [List.map_map, List.map_map]
  rfl
def sp_interval_moves (K : PySem.W.Frag) : Sp := spD K fun ds k d => ∃ (as cs os : List Int) (v b : Int), ds = [.tuple (as.map .int), .tuple (cs.map .int), .tuple (os.map .int)] ∧ Alc as v b ∧ Alc cs v b ∧ IsOrd os v ∧ 1 ≤ v ∧ v ≤ 5 ∧ b ≤ 20 ∧ k = .o ∧ d = .list ((grpL (mvR (runL as os) (runL cs os))).map rowG)
end Lm


/-! who raises what about thresholds (k74) -/
namespace Lm
open PySem PySem.Spec PyProof.Rows L2
def RcOr (ds : List PyData) (nm : Str) : Prop := ∃ (x : PyData) (as : List Int) (v : Int), ds = [x, tupD as] ∧ (as.length : Int) = v ∧ v ≤ 1000 ∧ SmallT x ∧ isOrdB x v = false ∧ nm = "order"
theorem RcOr_len {ds nm} (h : RcOr ds nm) : ds.length = 2 := by obtain ⟨x, as, v, rfl, _⟩ := h; rfl
def RcOd (ds : List PyData) (nm : Str) : Prop := ∃ a x, ds = [a, x] ∧ ((SmallT a ∧ balB a = false ∧ nm = "allocation") ∨ ∃ (as : List Int) (v b : Int), a = tupD as ∧ Alc as v b ∧ 1 ≤ v ∧ v ≤ 5 ∧ b ≤ 20 ∧ SmallT x ∧ isOrdB x v = false ∧ nm = "order")
theorem RcOd_len {ds nm} (h : RcOd ds nm) : ds.length = 2 := by obtain ⟨a, x, rfl, _⟩ := h; rfl
def RcBt (ds : List PyData) (nm : Str) : Prop := ∃ a s x, ds = [a, s, x] ∧ ((SmallT a ∧ balB a = false ∧ nm = "first") ∨ ∃ (as : List Int) (v b : Int), a = tupD as ∧ Alc as v b ∧ 1 ≤ v ∧ v ≤ 5 ∧ b ≤ 20 ∧ ((SmallT s ∧ isAlloc s v b = false ∧ nm = "second") ∨ ∃ cs : List Int, s = tupD cs ∧ Alc cs v b ∧ SmallT x ∧ isOrdB x v = false ∧ nm = "order"))
theorem RcBt_len {ds nm} (h : RcBt ds nm) : ds.length = 3 := by obtain ⟨a, s, x, rfl, _⟩ := h; rfl
/-- what is no series of allocations -/
def NoSr (x : PyData) (m : Int) : Prop := (∀ es, x ≠ .tuple es) ∨ (∃ es, x = .tuple es ∧ es.length ≤ 1000 ∧ (es.length = 0 ∨ m < (es.length : Int))) ∨
  (∃ y es, x = .tuple (y :: es) ∧ (es.length : Int) < m ∧ es.length ≤ 1000 ∧ SmallT y ∧ balB y = false) ∨
  (∃ (as : List Int) (v b : Int) (A : List PyData), x = .tuple (tupD as :: A) ∧ (A.length : Int) < m ∧ A.length ≤ 1000 ∧ Alc as v b ∧ 1 ≤ v ∧ v ≤ 5 ∧ b ≤ 20 ∧ (∀ y ∈ A, SmallT y) ∧ ∃ y ∈ A, isAlloc y v b = false)
def sp_are_allocations74 (K : PySem.W.Frag) : Sp := spD K fun ds k d => ∃ (x : PyData) (m : Int), ds = [x, .int m] ∧ m ≤ 100 ∧ k = .v ∧ ((∃ (A : List (List Int)) (v b : Int), x = .tuple (A.map tupD) ∧ Ser A v b ∧ (A.length : Int) ≤ m ∧ d = .bool true) ∨ (NoSr x m ∧ d = .bool false))
def RcBo (ds : List PyData) (nm : Str) : Prop := ∃ x, ds = [x] ∧ NoSr x 6 ∧ nm = "allocations"
theorem RcBo_len {ds nm} (h : RcBo ds nm) : ds.length = 1 := by obtain ⟨x, rfl, _⟩ := h; rfl
end Lm


/-! a tuple of what other defs return, where no list of one's own is about; wrong arguments of thresholds (k74) -/
namespace Lm
open PySem PySem.Spec PyProof.Rows L2
def noOwn : Option Rs → Bool
  | some (.o _) => false
  | some (.d _) => false
  | some (.w _) => false
  | _ => true
section
variable {c : Ct} {H H' H0 H1 H2 : Hp} {O : List Addr} {σ : L2.St} {Γ : List (Option Rs)} {te : TE} {tr : TA} {k : Kd} {u : TS} {n : Nat} {P : PyData → Prop} {P' : Out → Prop} {Pd : List PyData → Prop}
theorem Reps.zero {fp : List Addr} (h : Reps c O H σ Γ fp) (hf : Γ.all noOwn = true) : fp = [] := by
  induction h with
  | nil => rfl
  | cons a b ih =>
    rename_i x s f fs σ Γ
    rw [List.all_cons, Bool.and_eq_true] at hf
    have e := ih hf.2
    subst e
    have : f = [] := by
      cases s with
      | none => exact a
      | some s =>
        cases s with
        | v d => exact a.1
        | r y => exact a.1
        | o d => exact absurd hf.1 (by simp [noOwn])
        | d u => exact absurd hf.1 (by simp [noOwn])
        | w ds => exact absurd hf.1 (by simp [noOwn])
    rw [this]; rfl
theorem Env.drop0 (e : Env c H0 O H σ Γ) (hf : Γ.all noOwn = true) : Env c H0 [] H σ Γ := by
  have sm : Same (mns H O) (mns H []) := mns_sub fun z hz => by simp at hz
  obtain ⟨fp, hr, nd, sub⟩ := e.rep
  have z := hr.zero hf
  subst z
  refine ⟨e.r0.tr (Rr.same sm), e.j.same sm, fun a ha => by simp at ha, fun a ha => by simp at ha, [], ?_, List.nodup_nil, fun a ha => by simp at ha⟩
  refine hr.map fun x s f q z => ?_
  cases s with
  | none => exact z
  | some s =>
    cases s with
    | v d => exact ⟨z.1, let ⟨v, e, b⟩ := z.2; ⟨v, e, b.same sm⟩⟩
    | r y => exact z
    | o d => exact z
    | d u => exact z
    | w ds =>
      obtain ⟨a, xs, h1, h2, h3, h4⟩ := z
      exact ⟨a, xs, h1, h2, h3, h4.same sm⟩
def Ev0 (c : Ct) (te : TE) (Γ : List (Option Rs)) (P : PyData → Prop) : Prop :=
  ∀ H0 H σ, Env c H0 [] H σ Γ → ∀ Q : VK, (∀ v d H2, P d → Rr c H H2 → Bo c H2 v d → Q v H2) → te σ H Q
theorem ev0_tup (h : EvAP c tr Γ Pd) (hl : ∀ ds, Pd ds → ds.length ≤ 1000000) : Ev0 c (tTupN tr) Γ (fun d => ∃ ds, d = .tuple ds ∧ Pd ds) := fun H0 H σ e Q q =>
  h H0 [] H σ e _ fun vs ds H1 pd r s => by
    refine ⟨by rw [s.len]; exact sizeOk (hl ds pd), newTk (c := c) fun p H2 hp sm tp => q _ _ H2 ⟨ds, rfl, pd⟩ (r.tr (Rr.same sm)) ?_⟩
    have r2 : Rr c H H2 := r.tr (Rr.same sm)
    have s1 : BoAll c (mns H1 []) vs ds := by rw [mns_nil]; exact s
    have t := tpN_mns e r2 tp
    have b := s1.mono (e.on r).j ((Rr.same sm : Rr c H1 H2).mns (e.on r).j e.okO)
    rw [mns_nil] at t b
    exact .tup t b
theorem q_asg0 (nf : Γ.all noOwn = true) (h : Ev0 c te Γ P) (p : ∀ d, P d → Sd c u (Γ.set n (some (.v d))) P') : Sd c (tSeq (tAsg te (gName n)) u) Γ P' := fun H0 O H σ D e s =>
  have e0 := e.drop0 nf
  h H0 H σ e0 _ fun v d H2 pd r q => p d pd H0 [] H2 _ D ((e0.on r).setV (by show Bo c (mns H2 []) v d; rw [mns_nil]; exact q)) s
theorem n_callAP {pre : Pre} {E : XK} {Pz : PyData → Prop} (h : EvAP c tr Γ Pd) (hp : ∀ ds, Pd ds → ∃ z, pre ds k z ∧ Pz z) : EvN c (tCall (spD c.K pre) [] E tr) Γ k Pz := fun H0 O H σ e Q q =>
  h H0 O H σ e _ fun vs ds H1 pd r s => by
    obtain ⟨z, pz, qz⟩ := hp ds pd
    refine ⟨ds, k, z, by rw [List.append_nil]; exact s.pure, pz, fun v H2 sm rt => q v z H2 qz (r.tr (Rr.same sm)) ?_⟩
    have r2 : Rr c H H2 := r.tr (Rr.same sm)
    cases k with
    | v => exact (Bo.flat (c := pc c.K) (c' := c) rfl rt.1 rt.2).flatM e r2 rt.1
    | o =>
      obtain ⟨fp, f, nd, new⟩ := rt
      exact ⟨fp, Fo.ct (c := pc c.K) (c' := c) rfl f, nd, fun a ha => r.back e.jH (new a ha)⟩
    | b => obtain ⟨⟨_, e⟩, _⟩ := rt; exact nomatch e
end
section
variable {K : PySem.W.Frag} {C : Addr}
/-- the handler that names the base class, and returns the name -/
theorem was_leastN {P : Program} {w : World} {mg : Str → Option Value} {base : Heap} {i : Nat} {Wout : WX} {D : Ends} {dx L : Addr} {H1 : Hp} {s2 nm : Str} {σ : L2.St} (X : Exc1 P w K mg base "BadValue" "name" C) (XH : ExcH K mg C L) (hi : i < σ.length) (hdx : H1 dx = some (.xd [("name", .str nm)]))
    (q : D.rt (.str nm) H1) :
    wAs K (.ref L) i (fun a cls d => tSeq (tIfS (tAnd (tB (tCB (rIsX K C a cls d) (tCons (tVar i) (tCons (tC (.ref C)) tNil)))) (tB (tCB (rIsX K C a cls d) (tCons (tVar i) (tCons (tC (.ty "ValueError")) tNil)))))
      (tRet (tXf a cls d C "name" (tVar i))) tNext) (tRet (tTupN (tCons (tC (.str s2)) tNil)))) Wout D (.ref C) (some dx) σ H1 := by
  refine ⟨true, XH.exL, fun _ a ha => ?_, fun w => nomatch w⟩
  have v0 : (σ.set i (some (.ref a)))[i]? = some (some (.ref a)) := List.getElem?_set_self hi
  refine ⟨.ref a, v0, .ref C, .ref C, true, dx, _, rfl, rfl, rfl, hdx, fun u h => h, kit_self, true, rfl, ?_⟩
  show if true = true then _ else _
  rw [if_pos rfl]
  refine ⟨.ref a, v0, .ty "ValueError", .type "ValueError", true, dx, _, rfl, rfl, rfl, hdx, fun u h => h, XH.kV, true, rfl, ?_⟩
  show if true = true then _ else _
  rw [if_pos rfl]
  exact ⟨.ref a, v0, rfl, rfl, dx, _, .str nm, rfl, hdx, rfl, q⟩
end
/-! good and wrong arguments -/
def TolG (w : Nat) (x y z : PyData) : Prop :=
  (w ≤ 1 ∧ ∃ (as os : List Int) (v b : Int), x = tupD as ∧ z = tupD os ∧ Alc as v b ∧ IsOrd os v ∧ 1 ≤ v ∧ v ≤ 5 ∧ b ≤ 20) ∨
  (2 ≤ w ∧ w ≤ 4 ∧ ∃ (as cs os : List Int) (v b : Int), x = tupD as ∧ y = tupD cs ∧ z = tupD os ∧ Alc as v b ∧ Alc cs v b ∧ IsOrd os v ∧ 1 ≤ v ∧ v ≤ 5 ∧ b ≤ 20) ∨
  (w = 5 ∧ ∃ (A : List (List Int)) (v b : Int), x = .tuple (A.map tupD) ∧ Ser A v b ∧ A.length ≤ 6 ∧ v ≤ 5)
def TolB (w : Nat) (x y z : PyData) (nm : Str) : Prop := (w ≤ 1 ∧ RcOd [x, z] nm) ∨ (2 ≤ w ∧ w ≤ 4 ∧ RcBt [x, y, z] nm) ∨ (w = 5 ∧ RcBo [x] nm)
def sp__law_told74 (K : PySem.W.Frag) : Sp := spD K fun ds k d => ∃ (w : Nat) (x y z : PyData), ds = [.int (w : Int), x, y, z] ∧ k = .v ∧ ((TolG w x y z ∧ d = .str "") ∨ ∃ nm, TolB w x y z nm ∧ d = .str nm)
def sp__law_wrong_first (K : PySem.W.Frag) : Sp := spS K fun ds k P => ds = [] ∧ k = .b ∧ P = fun d => SmallT d ∧ balB d = false
def sp__law_wrong_second (K : PySem.W.Frag) : Sp := spS K fun ds k P => ∃ (as : List Int) (v : Nat), ds = [tupD as] ∧ Alc as (v : Int) 20 ∧ 3 ≤ v ∧ v ≤ 5 ∧ k = .b ∧ P = fun d => SmallT d ∧ isAlloc d (v : Int) 20 = false
def sp__law_wrong_order (K : PySem.W.Frag) : Sp := spS K fun ds k P => ∃ v : Nat, ds = [.int (v : Int)] ∧ 3 ≤ v ∧ v ≤ 5 ∧ k = .b ∧ P = fun d => SmallT d ∧ isOrdB d (v : Int) = false
def sp__law_wrong_series (K : PySem.W.Frag) : Sp := spS K fun ds k P => ∃ (as : List Int) (v : Nat), ds = [tupD as] ∧ Alc as (v : Int) 20 ∧ 3 ≤ v ∧ v ≤ 5 ∧ k = .b ∧ P = fun d => NoSr d 6
theorem small_of {es : List PyData} (h : es.length ≤ 1000000) : SmallT (.tuple es) := fun es' e => by cases e; exact h
theorem small_no {x : PyData} (h : isTupTy x = false) : SmallT x := fun es e => by rw [e] at h; cases h
theorem wr1 {d : PyData} (hd : d = .none ∨ d = .tuple [] ∨ d = tupD [21] ∨ d = tupD [11, 10] ∨ d = tupD [1, 1, 1, 1, 1, 1] ∨ d = tupD [1, -1] ∨ d = .tuple [.bool true, .int 1] ∨ d = .list [.int 1, .int 1] ∨ d = .tuple [.int 1, .str (Str.ofString "1")] ∨ d = .int 3) : SmallT d ∧ balB d = false := by
  rcases hd with rfl | rfl | rfl | rfl | rfl | rfl | rfl | rfl | rfl | rfl
  · exact ⟨small_no rfl, rfl⟩
  · exact ⟨small_of (by decide), by decide⟩
  · exact ⟨small_of (by decide), by decide⟩
  · exact ⟨small_of (by decide), by decide⟩
  · exact ⟨small_of (by decide), by decide⟩
  · exact ⟨small_of (by decide), by decide⟩
  · exact ⟨small_of (by decide), rfl⟩
  · exact ⟨small_no rfl, rfl⟩
  · exact ⟨small_of (by decide), rfl⟩
  · exact ⟨small_no rfl, rfl⟩
theorem noal_len {ds : List PyData} {v b : Int} (h : (ds.length : Int) ≠ v) : isAlloc (.tuple ds) v b = false := by
  unfold isAlloc
  rw [show (lenT (.tuple ds)) = ds.length from rfl, decide_eq_false h]
  simp
theorem wr2 {ini : List Int} {z : Int} {v : Nat} {d : PyData} (ha : Alc (ini ++ [z]) (v : Int) 20) (v3 : 3 ≤ v) (v5 : v ≤ 5)
    (hd : d = .none ∨ d = .tuple [] ∨ d = tupD (ini ++ [z] ++ [0]) ∨ d = tupD (ini ++ [z + 1]) ∨ d = .list ((ini ++ [z]).map .int) ∨ d = tupD ([21, -1] ++ zr (v - 2))) : SmallT d ∧ isAlloc d (v : Int) 20 = false := by
  have l := ha.len
  have s := ha.sum
  rw [List.length_append] at l
  rw [List.sum_append] at s
  simp at l s
  rcases hd with rfl | rfl | rfl | rfl | rfl | rfl
  · exact ⟨small_no rfl, rfl⟩
  · exact ⟨small_of (by decide), noal_len (by simp; omega)⟩
  · exact ⟨small_of (by simp; omega), noal_len (by simp; omega)⟩
  · refine ⟨small_of (by simp; omega), ?_⟩
    unfold isAlloc
    rw [sumT_ints, List.sum_append]
    simp
    omega
  · exact ⟨small_no rfl, rfl⟩
  · refine ⟨small_of (by simp [zr]; omega), ?_⟩
    unfold isAlloc
    rw [show areInts (tupD ([21, -1] ++ zr (v - 2))) 0 20 = false from rfl]
    rfl
theorem wr3 {v : Nat} {d : PyData} (v3 : 3 ≤ v) (v5 : v ≤ 5) (hd : d = .none ∨ d = tupD (upI 0 (v - 1)) ∨ d = tupD (upI 0 v ++ [(v : Int)]) ∨ d = tupD (0 :: upI 0 (v - 1)) ∨ d = tupD (upI 0 (v - 1) ++ [(v : Int)]) ∨ d = .list ((upI 0 v).map .int) ∨ d = .tuple ((upI 0 (v - 1)).map .int ++ [.bool true]) ∨ d = tupD (-1 :: (upI 0 v).drop 1)) : SmallT d ∧ isOrdB d (v : Int) = false := by
  have hl : ∀ n, (upI 0 n).length = n := fun n => by simp [upI]
  constructor
  · rcases hd with rfl | rfl | rfl | rfl | rfl | rfl | rfl | rfl
    · exact small_no rfl
    · exact small_of (by simp [upI]; omega)
    · exact small_of (by simp [upI]; omega)
    · exact small_of (by simp [upI]; omega)
    · exact small_of (by simp [upI]; omega)
    · exact small_no rfl
    · exact small_of (by simp [upI]; omega)
    · exact small_of (by simp [upI]; omega)
  · match v, v3, v5 with
    | 3, _, _ => rcases hd with rfl | rfl | rfl | rfl | rfl | rfl | rfl | rfl <;> first | rfl | decide
    | 4, _, _ => rcases hd with rfl | rfl | rfl | rfl | rfl | rfl | rfl | rfl <;> first | rfl | decide
    | 5, _, _ => rcases hd with rfl | rfl | rfl | rfl | rfl | rfl | rfl | rfl <;> first | rfl | decide
    | n + 6, _, h => omega
theorem wr4 {ini : List Int} {z : Int} {v : Nat} {d : PyData} (ha : Alc (ini ++ [z]) (v : Int) 20) (v3 : 3 ≤ v) (v5 : v ≤ 5)
    (hd : d = .none ∨ d = .tuple [] ∨ d = .list [tupD (ini ++ [z])] ∨ d = .tuple (List.replicate 7 (tupD (ini ++ [z]))) ∨ d = .tuple [tupD (ini ++ [z]), tupD (ini ++ [z] ++ [0])] ∨ d = .tuple [tupD (ini ++ [z]), tupD (ini ++ [z + 1])] ∨ d = .tuple [tupD [21]] ∨ d = .tuple [.tuple []] ∨ d = tupD (ini ++ [z]) ∨ d = .tuple [.list [.int 1, .int 1]]) : NoSr d 6 := by
  have l := ha.len
  rw [List.length_append] at l
  simp at l
  rcases hd with rfl | rfl | rfl | rfl | rfl | rfl | rfl | rfl | rfl | rfl
  · exact .inl fun es e => nomatch e
  · exact .inr (.inl ⟨_, rfl, by decide, .inl rfl⟩)
  · exact .inl fun es e => nomatch e
  · exact .inr (.inl ⟨_, rfl, by simp, .inr (by simp)⟩)
  · exact .inr (.inr (.inr ⟨ini ++ [z], v, 20, [_], rfl, by simp, by simp, ha, by omega, by omega, by decide, fun y hy => by rw [List.mem_singleton.mp hy]; exact (wr2 ha v3 v5 (.inr (.inr (.inl rfl)))).1, _, List.mem_singleton.mpr rfl, (wr2 ha v3 v5 (.inr (.inr (.inl rfl)))).2⟩))
  · exact .inr (.inr (.inr ⟨ini ++ [z], v, 20, [_], rfl, by simp, by simp, ha, by omega, by omega, by decide, fun y hy => by rw [List.mem_singleton.mp hy]; exact (wr2 ha v3 v5 (.inr (.inr (.inr (.inl rfl))))).1, _, List.mem_singleton.mpr rfl, (wr2 ha v3 v5 (.inr (.inr (.inr (.inl rfl))))).2⟩))
  · exact .inr (.inr (.inl ⟨_, [], rfl, by decide, by decide, (wr1 (.inr (.inr (.inl rfl)))).1, (wr1 (.inr (.inr (.inl rfl)))).2⟩))
  · exact .inr (.inr (.inl ⟨_, [], rfl, by decide, by decide, (wr1 (.inr (.inl rfl))).1, (wr1 (.inr (.inl rfl))).2⟩))
  · cases ini with
    | nil => simp at l; omega
    | cons a t => exact .inr (.inr (.inl ⟨.int a, (t ++ [z]).map .int, rfl, by simp at l ⊢; omega, by simp at l ⊢; omega, small_no rfl, rfl⟩))
  · exact .inr (.inr (.inl ⟨_, [], rfl, by decide, by decide, small_no rfl, rfl⟩))
end Lm
namespace Lm
open PySem PySem.Spec PyProof.Rows L2
/-- any item of a list that is told whole -/
theorem pickL {P : PyData → Prop} {ds : List PyData} {m : Nat} (hl : ds.length = m) (h : ∀ d ∈ ds, P d) : ∀ i : Int, (0 ≤ i ∧ i < (m : Int)) → ∃ d, atI ds i = some d ∧ P d := fun i ⟨i0, i1⟩ => by
  obtain ⟨j, rfl⟩ := Int.eq_ofNat_of_zero_le i0
  have hj : j < ds.length := by omega
  exact ⟨ds[j], atI_nat (List.getElem?_eq_getElem hj), h _ (List.getElem_mem hj)⟩
end Lm


namespace Lm
/-! nearest allocations (k04): what is rounded up and down -/
section
variable {n : Nat} {W p : Int} {c x r : Nat → Int}
end
end Lm
namespace Lm
open PySem PySem.Spec PyProof.Rows L2
/-! by the rests: greatest first -/
/-! weights -/
structure Wts (ws : List Int) : Prop where
  l1 : 1 ≤ ws.length
  l5 : ws.length ≤ 5
  rng : ∀ x ∈ ws, 0 ≤ x ∧ x ≤ 1000000
  pos : 0 < ws.sum
section
variable {ws as : List Int} {b : Int}
end
end Lm


/-! lowest terms; what is rounded as it should be; promises about weights (k04, k09) -/
namespace Lm
open PySem PySem.Spec PyProof.Rows L2
section
variable {ws as : List Int} {b : Int}
end
/-! promises -/
def wtsB (x : PyData) : Bool := areInts x 0 1000000 && ((decide (1 ≤ lenT x) && decide (lenT x ≤ 5)) && decide (0 < sumT x))
theorem Wts.isB {ws : List Int} (h : Wts ws) : wtsB (tupD ws) = true := by
  unfold wtsB
  rw [areInts_of h.rng, lenT_ints, sumT_ints, decide_eq_true h.l1, decide_eq_true h.l5, decide_eq_true h.pos]
  rfl
end Lm


/-! gcd, abs, zip of two lists that stay, max of a list of any data; k04's readings -/
namespace Lm
open PySem PySem.Spec PyProof.Rows L2
section
variable {c : Ct} {Γ : List (Option Rs)} {te ta tb : TE} {k ka kb k1 k2 : Kd} {i j : Int}
end
end Lm
namespace L2
open PySem PySem.Spec PyProof.Rows Lm
section
variable {X : Cx}
end
end L2
namespace Lm
open PySem PySem.Spec PyProof.Rows L2
/-! rows of two ints -/
end Lm


/-! the program's own text, by places -/
namespace W
open PySem PySem.Spec PyProof.Rows L2 Lm
def topS (i : Nat) : Stmt := PySem.Challenge.pw_leastmoved_k74_refusals_of_thresholds.main.body.getD i (.Pass ⟨0, 0, 0, 0⟩)
abbrev s_is_integer : Stmt := topS 7
abbrev n_is_integer : List Str := ["value", "least", "greatest"]
abbrev p_is_integer : List Str := ["value", "least", "greatest"]
theorem sc_is_integer : FnScope n_is_integer p_is_integer (defScope s_is_integer) := ⟨rfl, rfl, rfl, by decide +kernel, rfl, by decide +kernel, by decide +kernel⟩
abbrev s_are_integers : Stmt := topS 8
abbrev n_are_integers : List Str := ["value", "least", "greatest", "part"]
abbrev p_are_integers : List Str := ["value", "least", "greatest"]
theorem sc_are_integers : FnScope n_are_integers p_are_integers (defScope s_are_integers) := ⟨rfl, rfl, rfl, by decide +kernel, rfl, by decide +kernel, by decide +kernel⟩
abbrev s_require : Stmt := topS 9
abbrev n_require : List Str := ["holds", "name"]
abbrev p_require : List Str := ["holds", "name"]
theorem sc_require : FnScope n_require p_require (defScope s_require) := ⟨rfl, rfl, rfl, by decide +kernel, rfl, by decide +kernel, by decide +kernel⟩
abbrev s_is_allocation : Stmt := topS 11
abbrev n_is_allocation : List Str := ["value", "variants", "buckets"]
abbrev p_is_allocation : List Str := ["value", "variants", "buckets"]
theorem sc_is_allocation : FnScope n_is_allocation p_is_allocation (defScope s_is_allocation) := ⟨rfl, rfl, rfl, by decide +kernel, rfl, by decide +kernel, by decide +kernel⟩
abbrev s_is_bounded_allocation : Stmt := topS 12
abbrev n_is_bounded_allocation : List Str := ["value"]
abbrev p_is_bounded_allocation : List Str := ["value"]
theorem sc_is_bounded_allocation : FnScope n_is_bounded_allocation p_is_bounded_allocation (defScope s_is_bounded_allocation) := ⟨rfl, rfl, rfl, by decide +kernel, rfl, by decide +kernel, by decide +kernel⟩
abbrev s_are_allocations : Stmt := topS 13
abbrev n_are_allocations : List Str := ["value", "most", "each"]
abbrev p_are_allocations : List Str := ["value", "most"]
theorem sc_are_allocations : FnScope n_are_allocations p_are_allocations (defScope s_are_allocations) := ⟨rfl, rfl, rfl, by decide +kernel, rfl, by decide +kernel, by decide +kernel⟩
abbrev s_is_order : Stmt := topS 14
abbrev n_is_order : List Str := ["value", "many"]
abbrev p_is_order : List Str := ["value", "many"]
theorem sc_is_order : FnScope n_is_order p_is_order (defScope s_is_order) := ⟨rfl, rfl, rfl, by decide +kernel, rfl, by decide +kernel, by decide +kernel⟩
abbrev s_check_allocation : Stmt := topS 15
abbrev n_check_allocation : List Str := ["value", "name"]
abbrev p_check_allocation : List Str := ["value", "name"]
theorem sc_check_allocation : FnScope n_check_allocation p_check_allocation (defScope s_check_allocation) := ⟨rfl, rfl, rfl, by decide +kernel, rfl, by decide +kernel, by decide +kernel⟩
abbrev s_check_alike : Stmt := topS 16
abbrev n_check_alike : List Str := ["value", "first", "name"]
abbrev p_check_alike : List Str := ["value", "first", "name"]
theorem sc_check_alike : FnScope n_check_alike p_check_alike (defScope s_check_alike) := ⟨rfl, rfl, rfl, by decide +kernel, rfl, by decide +kernel, by decide +kernel⟩
abbrev s_transfer : Stmt := topS 17
abbrev n_transfer : List Str := ["first", "second", "old", "new"]
abbrev p_transfer : List Str := ["first", "second"]
theorem sc_transfer : FnScope n_transfer p_transfer (defScope s_transfer) := ⟨rfl, rfl, rfl, by decide +kernel, rfl, by decide +kernel, by decide +kernel⟩
abbrev s_is_assignment : Stmt := topS 19
abbrev n_is_assignment : List Str := ["value", "variants", "buckets"]
abbrev p_is_assignment : List Str := ["value", "variants", "buckets"]
theorem sc_is_assignment : FnScope n_is_assignment p_is_assignment (defScope s_is_assignment) := ⟨rfl, rfl, rfl, by decide +kernel, rfl, by decide +kernel, by decide +kernel⟩
abbrev s_is_bounded_assignment : Stmt := topS 20
abbrev n_is_bounded_assignment : List Str := ["value", "variants"]
abbrev p_is_bounded_assignment : List Str := ["value", "variants"]
theorem sc_is_bounded_assignment : FnScope n_is_bounded_assignment p_is_bounded_assignment (defScope s_is_bounded_assignment) := ⟨rfl, rfl, rfl, by decide +kernel, rfl, by decide +kernel, by decide +kernel⟩
abbrev s_check_assignment : Stmt := topS 21
abbrev n_check_assignment : List Str := ["value", "name"]
abbrev p_check_assignment : List Str := ["value", "name"]
theorem sc_check_assignment : FnScope n_check_assignment p_check_assignment (defScope s_check_assignment) := ⟨rfl, rfl, rfl, by decide +kernel, rfl, by decide +kernel, by decide +kernel⟩
abbrev s_check_pair : Stmt := topS 22
abbrev n_check_pair : List Str := ["first", "second"]
abbrev p_check_pair : List Str := ["first", "second"]
theorem sc_check_pair : FnScope n_check_pair p_check_pair (defScope s_check_pair) := ⟨rfl, rfl, rfl, by decide +kernel, rfl, by decide +kernel, by decide +kernel⟩
abbrev s_one_after_another : Stmt := topS 23
abbrev n_one_after_another : List Str := ["allocation", "order", "row", "variant"]
abbrev p_one_after_another : List Str := ["allocation", "order"]
theorem sc_one_after_another : FnScope n_one_after_another p_one_after_another (defScope s_one_after_another) := ⟨rfl, rfl, rfl, by decide +kernel, rfl, by decide +kernel, by decide +kernel⟩
abbrev s_churn : Stmt := topS 24
abbrev n_churn : List Str := ["first", "second"]
abbrev p_churn : List Str := ["first", "second"]
theorem sc_churn : FnScope n_churn p_churn (defScope s_churn) := ⟨rfl, rfl, rfl, by decide +kernel, rfl, by decide +kernel, by decide +kernel⟩
abbrev s_moves : Stmt := topS 25
abbrev n_moves : List Str := ["first", "second", "bucket", "old", "new"]
abbrev p_moves : List Str := ["first", "second"]
theorem sc_moves : FnScope n_moves p_moves (defScope s_moves) := ⟨rfl, rfl, rfl, by decide +kernel, rfl, by decide +kernel, by decide +kernel⟩
abbrev s_check_steps : Stmt := topS 28
abbrev n_check_steps : List Str := ["allocations"]
abbrev p_check_steps : List Str := ["allocations"]
theorem sc_check_steps : FnScope n_check_steps p_check_steps (defScope s_check_steps) := ⟨rfl, rfl, rfl, by decide +kernel, rfl, by decide +kernel, by decide +kernel⟩
abbrev s_steps_of : Stmt := topS 29
abbrev n_steps_of : List Str := ["parts"]
abbrev p_steps_of : List Str := ["parts"]
theorem sc_steps_of : FnScope n_steps_of p_steps_of (defScope s_steps_of) := ⟨rfl, rfl, rfl, by decide +kernel, rfl, by decide +kernel, by decide +kernel⟩
abbrev s_total : Stmt := topS 30
abbrev n_total : List Str := ["allocations", "before", "after"]
abbrev p_total : List Str := ["allocations"]
theorem sc_total : FnScope n_total p_total (defScope s_total) := ⟨rfl, rfl, rfl, by decide +kernel, rfl, by decide +kernel, by decide +kernel⟩
abbrev s_check_order : Stmt := topS 33
abbrev n_check_order : List Str := ["order", "allocation"]
abbrev p_check_order : List Str := ["order", "allocation"]
theorem sc_check_order : FnScope n_check_order p_check_order (defScope s_check_order) := ⟨rfl, rfl, rfl, by decide +kernel, rfl, by decide +kernel, by decide +kernel⟩
abbrev s_check_ordered : Stmt := topS 34
abbrev n_check_ordered : List Str := ["allocation", "order"]
abbrev p_check_ordered : List Str := ["allocation", "order"]
theorem sc_check_ordered : FnScope n_check_ordered p_check_ordered (defScope s_check_ordered) := ⟨rfl, rfl, rfl, by decide +kernel, rfl, by decide +kernel, by decide +kernel⟩
abbrev s_both_by_intervals : Stmt := topS 35
abbrev n_both_by_intervals : List Str := ["first", "second", "order"]
abbrev p_both_by_intervals : List Str := ["first", "second", "order"]
theorem sc_both_by_intervals : FnScope n_both_by_intervals p_both_by_intervals (defScope s_both_by_intervals) := ⟨rfl, rfl, rfl, by decide +kernel, rfl, by decide +kernel, by decide +kernel⟩
abbrev s_by_intervals : Stmt := topS 36
abbrev n_by_intervals : List Str := ["allocation", "order"]
abbrev p_by_intervals : List Str := ["allocation", "order"]
theorem sc_by_intervals : FnScope n_by_intervals p_by_intervals (defScope s_by_intervals) := ⟨rfl, rfl, rfl, by decide +kernel, rfl, by decide +kernel, by decide +kernel⟩
abbrev s_boundaries : Stmt := topS 37
abbrev n_boundaries : List Str := ["allocation", "order", "found", "place", "variant"]
abbrev p_boundaries : List Str := ["allocation", "order"]
theorem sc_boundaries : FnScope n_boundaries p_boundaries (defScope s_boundaries) := ⟨rfl, rfl, rfl, by decide +kernel, rfl, by decide +kernel, by decide +kernel⟩
abbrev s_interval_churn : Stmt := topS 38
abbrev n_interval_churn : List Str := ["first", "second", "order", "old", "new"]
abbrev p_interval_churn : List Str := ["first", "second", "order"]
theorem sc_interval_churn : FnScope n_interval_churn p_interval_churn (defScope s_interval_churn) := ⟨rfl, rfl, rfl, by decide +kernel, rfl, by decide +kernel, by decide +kernel⟩
abbrev s_waste : Stmt := topS 39
abbrev n_waste : List Str := ["first", "second", "order", "moved"]
abbrev p_waste : List Str := ["first", "second", "order"]
theorem sc_waste : FnScope n_waste p_waste (defScope s_waste) := ⟨rfl, rfl, rfl, by decide +kernel, rfl, by decide +kernel, by decide +kernel⟩
abbrev s_interval_moves : Stmt := topS 40
abbrev n_interval_moves : List Str := ["first", "second", "order", "old_row", "new_row", "moving", "bucket", "old", "new", "buckets"]
abbrev p_interval_moves : List Str := ["first", "second", "order"]
theorem sc_interval_moves : FnScope n_interval_moves p_interval_moves (defScope s_interval_moves) := ⟨rfl, rfl, rfl, by decide +kernel, rfl, by decide +kernel, by decide +kernel⟩
abbrev s_best_order : Stmt := topS 41
abbrev n_best_order : List Str := ["allocations", "steps", "orders", "totals", "before", "after", "order", "least"]
abbrev p_best_order : List Str := ["allocations"]
theorem sc_best_order : FnScope n_best_order p_best_order (defScope s_best_order) := ⟨rfl, rfl, rfl, by decide +kernel, rfl, by decide +kernel, by decide +kernel⟩
abbrev s__law_stream : Stmt := topS 43
abbrev n__law_stream : List Str := ["script"]
abbrev p__law_stream : List Str := ["script"]
theorem sc__law_stream : FnScope n__law_stream p__law_stream (defScope s__law_stream) := ⟨rfl, rfl, rfl, by decide +kernel, rfl, by decide +kernel, by decide +kernel⟩
abbrev s__law_next : Stmt := topS 44
abbrev n__law_next : List Str := ["stream", "many", "k", "cell", "digit"]
abbrev p__law_next : List Str := ["stream", "many"]
theorem sc__law_next : FnScope n__law_next p__law_next (defScope s__law_next) := ⟨rfl, rfl, rfl, by decide +kernel, rfl, by decide +kernel, by decide +kernel⟩
abbrev s__law_allocation : Stmt := topS 45
abbrev n__law_allocation : List Str := ["stream", "variants", "buckets", "shares", "variant", "bucket"]
abbrev p__law_allocation : List Str := ["stream", "variants", "buckets"]
theorem sc__law_allocation : FnScope n__law_allocation p__law_allocation (defScope s__law_allocation) := ⟨rfl, rfl, rfl, by decide +kernel, rfl, by decide +kernel, by decide +kernel⟩
abbrev s__law_order : Stmt := topS 46
abbrev n__law_order : List Str := ["stream", "many", "left", "found", "turn"]
abbrev p__law_order : List Str := ["stream", "many"]
theorem sc__law_order : FnScope n__law_order p__law_order (defScope s__law_order) := ⟨rfl, rfl, rfl, by decide +kernel, rfl, by decide +kernel, by decide +kernel⟩
abbrev s__law_told : Stmt := topS 47
abbrev n__law_told : List Str := ["which", "first", "second", "order", "e"]
abbrev p__law_told : List Str := ["which", "first", "second", "order"]
theorem sc__law_told : FnScope n__law_told p__law_told (defScope s__law_told) := ⟨rfl, rfl, rfl, by decide +kernel, rfl, by decide +kernel, by decide +kernel⟩
abbrev s__law_wrong_first : Stmt := topS 48
abbrev n__law_wrong_first : List Str := ["stream", "wrong"]
abbrev p__law_wrong_first : List Str := ["stream"]
theorem sc__law_wrong_first : FnScope n__law_wrong_first p__law_wrong_first (defScope s__law_wrong_first) := ⟨rfl, rfl, rfl, by decide +kernel, rfl, by decide +kernel, by decide +kernel⟩
abbrev s__law_wrong_second : Stmt := topS 49
abbrev n__law_wrong_second : List Str := ["stream", "first", "wrong"]
abbrev p__law_wrong_second : List Str := ["stream", "first"]
theorem sc__law_wrong_second : FnScope n__law_wrong_second p__law_wrong_second (defScope s__law_wrong_second) := ⟨rfl, rfl, rfl, by decide +kernel, rfl, by decide +kernel, by decide +kernel⟩
abbrev s__law_wrong_order : Stmt := topS 50
abbrev n__law_wrong_order : List Str := ["stream", "many", "row", "wrong"]
abbrev p__law_wrong_order : List Str := ["stream", "many"]
theorem sc__law_wrong_order : FnScope n__law_wrong_order p__law_wrong_order (defScope s__law_wrong_order) := ⟨rfl, rfl, rfl, by decide +kernel, rfl, by decide +kernel, by decide +kernel⟩
abbrev s__law_wrong_series : Stmt := topS 51
abbrev n__law_wrong_series : List Str := ["stream", "first", "wrong"]
abbrev p__law_wrong_series : List Str := ["stream", "first"]
theorem sc__law_wrong_series : FnScope n__law_wrong_series p__law_wrong_series (defScope s__law_wrong_series) := ⟨rfl, rfl, rfl, by decide +kernel, rfl, by decide +kernel, by decide +kernel⟩
abbrev s_law : Stmt := topS 52
abbrev n_law : List Str := ["script", "stream", "variants", "first", "second", "order", "which", "good", "wrong"]
abbrev p_law : List Str := ["script"]
theorem sc_law : FnScope n_law p_law (defScope s_law) := ⟨rfl, rfl, rfl, by decide +kernel, rfl, by decide +kernel, by decide +kernel⟩
abbrev s_ini_BadValue : Stmt := inClass (topS 3) 0
-- interval_moves: method items
-- _law_told: stmt Try
structure Txt (mg : Str → Option Value) : Prop where
  b_ValueError : mg "ValueError" = none
  b_abs : mg "abs" = none
  b_all : mg "all" = none
  b_bool : mg "bool" = none
  b_enumerate : mg "enumerate" = none
  b_int : mg "int" = none
  b_isinstance : mg "isinstance" = none
  b_len : mg "len" = none
  b_list : mg "list" = none
  b_max : mg "max" = none
  b_min : mg "min" = none
  b_range : mg "range" = none
  b_set : mg "set" = none
  b_sum : mg "sum" = none
  b_tuple : mg "tuple" = none
  b_zip : mg "zip" = none
  k_MOST_VARIANTS : ∃ t, mg "MOST_VARIANTS" = some (.int 5 t)
  k_MOST_BUCKETS : ∃ t, mg "MOST_BUCKETS" = some (.int 20 t)
  k_MOST_ALLOCATIONS_histories : ∃ t, mg "MOST_ALLOCATIONS_histories" = some (.int 10 t)
  k_MOST_ALLOCATIONS_thresholds : ∃ t, mg "MOST_ALLOCATIONS_thresholds" = some (.int 6 t)
  i_permutations : mg "permutations" = some (.type "itertools.permutations")
end W

namespace W
open PySem PySem.Spec PyProof.Rows L2 Lm
theorem ok_is_integer {P : Program} {w : World} {K : PySem.W.Frag} {mg : Str → Option Value} {base : Heap} {f : Addr} {fd : FuncData} (F : Fun K "is_integer" "is_integer" s_is_integer f fd) (T : Txt mg) :
    FnOk P w K mg base CX0 1 f fd p_is_integer (sp_is_integer K) := by
  refine F.ok sc_is_integer (fun vs H Q E h => spD_len h (by rintro ds k d ⟨x, lo, hi, rfl, _⟩; rfl)) (fun cdv A outer s H vs Q E hr h => ⟨_, (pss_cons (ps_if (PW.pt (pw_or (pt_not (pt_val (pe_callB (k_isi (K := K) rfl) rfl T.b_isinstance (by decide +kernel) (pa_cons (pv 0) (pa_cons (pe_ty (n := "int") rfl T.b_int (by decide +kernel)) pa_nil))))) (pw_or1 (pt_val (pe_callB (k_isi (K := K) rfl) rfl T.b_isinstance (by decide +kernel) (pa_cons (pv 0) (pa_cons (pe_ty (n := "bool") rfl T.b_bool (by decide +kernel)) pa_nil))))))) (pss_one (ps_ret pe_bl)) pss_nil)
      (pss_one (ps_ret (pe_chain op_le op_le (pv 1) (pv 0) (pv 2))))), run_pure (N := n_is_integer) (fun ds k d hp => ?_) h⟩)
  obtain ⟨x, lo, hi, rfl, rfl, rfl⟩ := hp
  refine q_if (t_or (t_not (t_B (e_isi (d_var rfl) (kit_int x)))) fun _ => t_B (e_isi (d_var rfl) (kit_bool x))) (fun h => ?_) fun h => q_next ?_
  · refine q_ret d_bl (.inr ⟨rfl, rfl⟩) (.inl ?_)
    cases x <;> first | rfl | (simp [isIntTy, isBoolTy] at h)
  · cases x with
    | int i => exact s_ret (d_chain (d_var rfl) (d_var rfl) fun _ => d_var rfl) (.inr ⟨rfl, rfl⟩) (.inl rfl)
    | _ => simp [isIntTy, isBoolTy] at h

theorem ok_are_integers {P : Program} {w : World} {K : PySem.W.Frag} {mg : Str → Option Value} {base : Heap} {f : Addr} {fd : FuncData} (F : Fun K "are_integers" "are_integers" s_are_integers f fd) (T : Txt mg) (c_is_integer : Cal P w K mg base CX0 1 "is_integer" p_is_integer (sp_is_integer K)) :
    FnOk P w K mg base CX0 2 f fd p_are_integers (sp_are_integers K) := by
  refine F.ok sc_are_integers (fun vs H Q E h => spD_len h (by rintro ds k d ⟨x, lo, hi, rfl, _⟩; rfl)) (fun cdv A outer s H vs Q E hr h => ⟨_, (pss_one (ps_ret (pe_and (pe_callB (k_isi (K := K) rfl) rfl T.b_isinstance (by decide +kernel) (pa_cons (pv 0) (pa_cons (pe_ty (n := "tuple") rfl T.b_tuple (by decide +kernel)) pa_nil))) (pe_one (pe_callB (k_all (K := K) rfl rfl) rfl T.b_all (by decide +kernel) (pa_cons (pe_lc rfl sc_are_integers.nd (k_seq (K := K) rfl (pv 0)) (blkOk_by (own := [("part", 3)]) (N := n_are_integers) (sc := defScope s_are_integers) (by decide +kernel)) (fun _ _ _ _ _ => by exact (pg_name (i := 3) sc_are_integers.nd rfl (Or.inl rfl))) (fun _ _ _ _ _ => by exact pts_nil) (fun _ _ _ _ _ => by exact (pe_cal c_is_integer (hr.mono (by decide)) rfl pass0 (pa_cons (pv 3) (pa_cons (pv 1) (pa_cons (pv 2) pa_nil)))))) pa_nil)))))), run_pure (N := n_are_integers) (fun ds k d hp => ?_) h⟩)
  obtain ⟨x, lo, hi, rfl, hx, rfl, rfl⟩ := hp
  refine s_ret ((d_andV (b := areInts x lo hi) (e_isi (d_var rfl) (kit_tuple x)) fun hx' => ?_).to ?_) (.inr ⟨rfl, rfl⟩) (.inl rfl)
  · cases x with
    | tuple es =>
      refine (d_all (d_lcB (fun d => isIntD d lo hi) (i_seqT (d_var rfl) (by intro h; cases h)) (hx es rfl) fun a _ => ⟨_, _, g_name, fun j hj => hj, _, d_call (a_cons (d_var rfl) (a_cons (d_var rfl) (a_cons (d_var rfl) a_nil))) ⟨a, lo, hi, rfl, rfl, rfl⟩⟩)).to ?_
      show PyData.bool _ = .bool (es.all fun d => isIntD d lo hi)
      rw [List.all_map]
      rfl
    | _ => simp [isTupTy] at hx'
  · cases x <;> simp [isTupTy, areInts]

theorem ok_require {P : Program} {w : World} {K : PySem.W.Frag} {mg : Str → Option Value} {base : Heap} {f : Addr} {fd : FuncData} (F : Fun K "require" "require" s_require f fd) (T : Txt mg) :
    FnOk P w K mg base CX0 1 f fd p_require (sp_require K) := by
  refine F.ok sc_require (fun vs H Q E h => spD_len h (by rintro ds k d ⟨nm, rfl, _⟩; rfl)) (fun cdv A outer s H vs Q E hr h => ⟨_, (pss_one (ps_if (pt_not (pt_val (pv 0))) (pss_one ps_never) pss_nil)), run_pure (N := n_require) (fun ds k d hp => ?_) h⟩)
  obtain ⟨nm, rfl, rfl, rfl⟩ := hp
  exact s_no ((t_not (t_B (d_var (d := .bool true) rfl))).to rfl) (s_next (.inr ⟨rfl, rfl, _, rfl⟩))

theorem ok_is_allocation {P : Program} {w : World} {K : PySem.W.Frag} {mg : Str → Option Value} {base : Heap} {f : Addr} {fd : FuncData} (F : Fun K "is_allocation" "is_allocation" s_is_allocation f fd) (T : Txt mg) (c_are_integers : Cal P w K mg base CX0 2 "are_integers" p_are_integers (sp_are_integers K)) :
    FnOk P w K mg base CX0 3 f fd p_is_allocation (sp_is_allocation K) := by
  refine F.ok sc_is_allocation (fun vs H Q E h => spD_len h (by rintro ds k d ⟨x, n, b, rfl, _⟩; rfl)) (fun cdv A outer s H vs Q E hr h => ⟨_, (pss_one (ps_ret (pe_and (pe_cal c_are_integers (hr.mono (by decide)) rfl pass0 (pa_cons (pv 0) (pa_cons pe_int (pa_cons (pv 2) pa_nil)))) (pe_and (pe_cmpR (k_eq (K := K) rfl (rUnits hr)) (pe_callB (k_len (K := K) rfl) rfl T.b_len (by decide +kernel) (pa_cons (pv 0) pa_nil)) (pv 1) (nomark _)) (pe_one (pe_cmpR (k_eq (K := K) rfl (rUnits hr)) (pe_callB (k_sum (K := K) rfl rfl) rfl T.b_sum (by decide +kernel) (pa_cons (pv 0) pa_nil)) (pv 2) (nomark _))))))), run_pure (N := n_is_allocation) (fun ds k d hp => ?_) h⟩)
  obtain ⟨x, n, b, rfl, hx, rfl, rfl⟩ := hp
  refine s_ret (d_andV (d_call (a_cons (d_var rfl) (a_cons d_int (a_cons (d_var rfl) a_nil))) ⟨x, 0, b, rfl, hx, rfl, rfl⟩) fun h => ?_) (.inr ⟨rfl, rfl⟩) (.inl rfl)
  obtain ⟨ns, rfl, _⟩ := areInts_ints h
  refine d_andV ((e_eqI (d_lenT (d_var rfl)) (d_var rfl)).to (by rw [lenT_ints, List.length_map])) fun _ => ?_
  exact (e_eqI (e_sumT (d_var rfl)) (d_var rfl)).to (by rw [sumT_ints])

theorem ok_is_bounded_allocation {P : Program} {w : World} {K : PySem.W.Frag} {mg : Str → Option Value} {base : Heap} {f : Addr} {fd : FuncData} (F : Fun K "is_bounded_allocation" "is_bounded_allocation" s_is_bounded_allocation f fd) (T : Txt mg) (c_are_integers : Cal P w K mg base CX0 2 "are_integers" p_are_integers (sp_are_integers K)) :
    FnOk P w K mg base CX0 3 f fd p_is_bounded_allocation (sp_is_bounded_allocationX K) := by
  refine F.ok sc_is_bounded_allocation (fun vs H Q E h => spD_len h (by rintro ds k d ⟨x, rfl, _⟩; rfl)) (fun cdv A outer s H vs Q E hr h => ⟨_, (pss_cons (ps_if (pt_not (pt_val (pe_cal c_are_integers (hr.mono (by decide)) rfl pass0 (pa_cons (pv 0) (pa_cons pe_int (pa_cons (pe_const rfl T.k_MOST_BUCKETS) pa_nil)))))) (pss_one (ps_ret pe_bl)) pss_nil)
      (pss_one (ps_ret (pe_and (pe_chain op_le op_le pe_int (pe_callB (k_len (K := K) rfl) rfl T.b_len (by decide +kernel) (pa_cons (pv 0) pa_nil)) (pe_const rfl T.k_MOST_VARIANTS)) (pe_one (pe_cmpR op_le (pe_callB (k_sum (K := K) rfl rfl) rfl T.b_sum (by decide +kernel) (pa_cons (pv 0) pa_nil)) (pe_const rfl T.k_MOST_BUCKETS) (nomark _))))))), run_pure (N := n_is_bounded_allocation) (fun ds k d hp => ?_) h⟩)
  obtain ⟨x, rfl, hx, rfl, rfl⟩ := hp
  refine q_if (a := !areInts x 0 20) (t_not (t_B (d_call (k := .v) (a_cons (d_var rfl) (a_cons d_int (a_cons d_int a_nil))) ⟨x, 0, 20, rfl, hx, rfl, rfl⟩))) (fun w => ?_) fun w => q_next ?_
  · rw [Bool.not_eq_true'] at w
    exact q_ret (d_bl.to (by unfold balB; rw [w]; rfl)) (.inr ⟨rfl, rfl⟩) (.inl rfl)
  · rw [Bool.not_eq_false'] at w
    obtain ⟨ns, rfl, _⟩ := areInts_ints w
    refine s_ret ((d_andV (d_chain d_int (d_lenT (d_var rfl)) fun _ => d_int) fun _ => d_le (e_sumT (d_var rfl)) d_int).to ?_) (.inr ⟨rfl, rfl⟩) (.inl rfl)
    unfold balB
    rw [w, lenT_ints, sumT_ints, List.length_map, Bool.true_and]
    congr 2
    congr 1
    · rw [decide_eq_decide]; omega
    · rw [decide_eq_decide]; omega

theorem ok_are_allocations {P : Program} {w : World} {K : PySem.W.Frag} {mg : Str → Option Value} {base : Heap} {f : Addr} {fd : FuncData} (F : Fun K "are_allocations" "are_allocations" s_are_allocations f fd) (T : Txt mg) (c_is_bounded_allocation : Cal P w K mg base CX0 3 "is_bounded_allocation" p_is_bounded_allocation (sp_is_bounded_allocationX K)) (c_is_allocation : Cal P w K mg base CX0 3 "is_allocation" p_is_allocation (sp_is_allocation K)) :
    FnOk P w K mg base CX0 4 f fd p_are_allocations (sp_are_allocations74 K) := by
  refine F.ok sc_are_allocations (fun vs H Q E h => spD_len h (by rintro ds k d ⟨x, m, rfl, _⟩; rfl)) (fun cdv A outer s H vs Q E hr h => ⟨_, (pss_cons (ps_if (PW.pt (pw_or (pt_not (pt_val (pe_callB (k_isi (K := K) rfl) rfl T.b_isinstance (by decide +kernel) (pa_cons (pv 0) (pa_cons (pe_ty (n := "tuple") rfl T.b_tuple (by decide +kernel)) pa_nil))))) (pw_or1 (pt_not (pt_chain op_le op_le pe_int (pe_callB (k_len (K := K) rfl) rfl T.b_len (by decide +kernel) (pa_cons (pv 0) pa_nil)) (pv 1)))))) (pss_one (ps_ret pe_bl)) pss_nil)
      (pss_cons (ps_if (pt_not (pt_val (pe_cal c_is_bounded_allocation (hr.mono (by decide)) rfl pass0 (pa_cons (pe_ix (k_ix (K := K) rfl) (pv 0) pe_int (fun _ _ => rfl)) pa_nil)))) (pss_one (ps_ret pe_bl)) pss_nil)
      (pss_one (ps_ret (pe_callB (k_all (K := K) rfl rfl) rfl T.b_all (by decide +kernel) (pa_cons (pe_lc rfl sc_are_allocations.nd (k_seq (K := K) rfl (pv 0)) (blkOk_by (own := [("each", 2)]) (N := n_are_allocations) (sc := defScope s_are_allocations) (by decide +kernel)) (fun _ _ _ _ _ => by exact (pg_name (i := 2) sc_are_allocations.nd rfl (Or.inl rfl))) (fun _ _ _ _ _ => by exact pts_nil) (fun _ _ _ _ _ => by exact (pe_cal c_is_allocation (hr.mono (by decide)) rfl pass0 (pa_cons (pv 2) (pa_cons (pe_callB (k_len (K := K) rfl) rfl T.b_len (by decide +kernel) (pa_cons (pe_ix (k_ix (K := K) rfl) (pv 0) pe_int (fun _ _ => rfl)) pa_nil)) (pa_cons (pe_callB (k_sum (K := K) rfl rfl) rfl T.b_sum (by decide +kernel) (pa_cons (pe_ix (k_ix (K := K) rfl) (pv 0) pe_int (fun _ _ => rfl)) pa_nil)) pa_nil)))))) pa_nil)))))), run_pure (N := n_are_allocations) (fun ds k d hp => ?_) h⟩)
  obtain ⟨x, m, rfl, hm2, rfl, ⟨A, v, b, rfl, h, hm1, rfl⟩ | ⟨no, rfl⟩⟩ := hp
  · skip
    have h1 := h.l1
    have h2 := h.l2
    have h0 := h.at (i := 0) (by omega)
    refine q_no ((t_or (t_not (t_B (e_isi (d_var rfl) rfl))) fun _ => t_not (t_test (d_chain d_int (d_lenT (d_var rfl)) fun _ => d_var rfl))).to ?_) ?_
    · simp; omega
    refine q_no ((t_not (t_B (d_call (k := .v) (d := .bool true) (a_cons (e_ixT (d_var rfl) d_int (at_tup (j := 0) (by omega)) (flatT _)) a_nil) ⟨tupD (A.getD 0 []), rfl, small_ints (by have := h0.len; have := h.v5; omega), rfl, by rw [h0.bal h.v1 h.v5 h.b20]⟩))).to rfl) ?_
    refine s_ret ((d_all (d_lcB (l := A) (en := tupI) (fun _ => true) (i_rowsT (d_var rfl) kv_ne) (by omega) fun a ha => ⟨_, _, g_name, fun j hj => hj, .v, ?_⟩)).to ?_) (.inr ⟨rfl, rfl⟩) (.inl rfl)
    · refine (d_call (k := .v) (a_cons (d_var rfl) (a_cons (d_lenT (e_ixT (d_var rfl) d_int (at_tup (j := 0) (by omega)) (flatT _))) (a_cons (e_sumT (e_ixT (d_var rfl) d_int (at_tup (j := 0) (by omega)) (flatT _))) a_nil))) ⟨tupD a, _, _, rfl, small_ints (by have := h.len a ha; have := h.v5; omega), rfl, rfl⟩).to ?_
      rw [List.length_map, h0.len, h0.sum, (h.alc a ha).isAlloc]
    · simp
  · rcases no with nt | ⟨es, rfl, le, hl⟩ | ⟨y, es, rfl, l1, l2, sy, hy⟩ | ⟨as, v, b, A, rfl, l1, l2, ha, v1, v5, b20, sm, y, hy, hb⟩
    · have it : isTupTy x = false := by
        cases x <;> first | rfl | exact absurd rfl (nt _)
      exact q_if (a := true) (EvT.to (t_or (a := true) (b := true) (EvT.to (t_not (t_B (e_isi (d_var rfl) (kit_tuple x)))) (by rw [it]; rfl)) fun e => nomatch e) rfl) (fun _ => q_ret (d_bl (a := false)) (.inr ⟨rfl, rfl⟩) (.inl rfl)) fun e => nomatch e
    · refine q_if (a := true) ((t_or (t_not (t_B (e_isi (d_var rfl) rfl))) fun _ => t_not (t_test (d_chain d_int (d_lenT (d_var rfl)) fun _ => d_var rfl))).to ?_) (fun _ => q_ret (d_bl (a := false)) (.inr ⟨rfl, rfl⟩) (.inl rfl)) fun e => nomatch e
      simp; omega
    · refine q_no ((t_or (t_not (t_B (e_isi (d_var rfl) rfl))) fun _ => t_not (t_test (d_chain d_int (d_lenT (d_var rfl)) fun _ => d_var rfl))).to ?_) ?_
      · simp; omega
      exact q_if (a := true) ((t_not (t_B (d_call (k := .v) (d := .bool false) (a_cons (e_ixTv (d := y) (d_var rfl) d_int (show atI (y :: es) ((0 : Nat) : Int) = _ from atI_nat rfl)) a_nil) ⟨y, rfl, sy, rfl, by rw [hy]⟩))).to rfl) (fun _ => q_ret (d_bl (a := false)) (.inr ⟨rfl, rfl⟩) (.inl rfl)) fun e => nomatch e
    · refine q_no ((t_or (t_not (t_B (e_isi (d_var rfl) rfl))) fun _ => t_not (t_test (d_chain d_int (d_lenT (d_var rfl)) fun _ => d_var rfl))).to ?_) ?_
      · simp; omega
      have sa : SmallT (tupD as) := small_ints (by have := ha.len; omega)
      refine q_no ((t_not (t_B (d_call (k := .v) (d := .bool true) (a_cons (e_ixTv (d := tupD as) (d_var rfl) d_int (show atI (tupD as :: A) ((0 : Nat) : Int) = _ from atI_nat rfl)) a_nil) ⟨tupD as, rfl, sa, rfl, by rw [ha.bal v1 v5 b20]⟩))).to rfl) ?_
      refine s_ret ((d_all (d_lcB (l := tupD as :: A) (en := Im.d) (fun y => isAlloc y v b) (i_seqT (d_var rfl) kv_ne) (by simp; omega) fun y hy => ⟨_, _, g_name, fun j hj => hj, .v, d_call (k := .v) (a_cons (d_var rfl) (a_cons (Ev.to (d_lenT (e_ixT (ds := tupD as :: A) (d := tupD as) (d_var rfl) d_int (show atI (tupD as :: A) ((0 : Nat) : Int) = _ from atI_nat rfl) (flatT _))) (y := .int v) (by rw [List.length_map, ha.len])) (a_cons (Ev.to (e_sumT (e_ixT (ds := tupD as :: A) (d := tupD as) (d_var rfl) d_int (show atI (tupD as :: A) ((0 : Nat) : Int) = _ from atI_nat rfl) (flatT _))) (y := .int b) (by rw [ha.sum])) a_nil))) ⟨y, v, b, rfl, (List.mem_cons.mp hy).elim (fun w => w ▸ sa) (sm y), rfl, rfl⟩⟩)).to ?_) (.inr ⟨rfl, rfl⟩) (.inl rfl)
      rw [List.all_map]
      refine congrArg PyData.bool (List.all_eq_false.mpr ⟨y, List.mem_cons_of_mem _ hy, ?_⟩)
      show ¬ (isAlloc y v b = true)
      rw [hb]; decide

theorem ok_is_order {P : Program} {w : World} {K : PySem.W.Frag} {mg : Str → Option Value} {base : Heap} {f : Addr} {fd : FuncData} (F : Fun K "is_order" "is_order" s_is_order f fd) (T : Txt mg) (c_are_integers : Cal P w K mg base CX0 2 "are_integers" p_are_integers (sp_are_integers K)) :
    FnOk P w K mg base CX0 3 f fd p_is_order (sp_is_orderD K) := by
  refine F.ok sc_is_order (fun vs H Q E h => spD_len h (by rintro ds k d ⟨x, m, rfl, _⟩; rfl)) (fun cdv A outer s H vs Q E hr h => ⟨_, (pss_one (ps_ret (pe_and (pe_cal c_are_integers (hr.mono (by decide)) rfl pass0 (pa_cons (pv 0) (pa_cons pe_int (pa_cons (pe_op op_sub (pv 1) pe_int) pa_nil)))) (pe_and (pe_cmpR (k_eq (K := K) rfl (rUnits hr)) (pe_callB (k_len (K := K) rfl) rfl T.b_len (by decide +kernel) (pa_cons (pv 0) pa_nil)) (pv 1) (nomark _)) (pe_one (pe_cmpR (k_eq (K := K) rfl (rUnits hr)) (k_lenSet (K := K) rfl rfl T.b_len rfl T.b_set (pv 0)) (pv 1) (nomark _))))))), run_pure (N := n_is_order) (fun ds k d hp => ?_) h⟩)
  obtain ⟨x, m, rfl, hx, hm, rfl, rfl⟩ := hp
  refine s_ret ((d_andV (d_call (k := .v) (a_cons (d_var rfl) (a_cons d_int (a_cons (d_sub (d_var rfl) d_int) a_nil))) ⟨x, 0, m - 1, rfl, hx, rfl, rfl⟩) (b := decide ((lenT x : Int) = m) && decide ((ddN x : Int) = m)) fun h => ?_)) (.inr ⟨rfl, rfl⟩) (.inl rfl)
  obtain ⟨ns, rfl, _⟩ := areInts_ints h
  have e : (ns.map PyData.int).map Lm.intD = ns := by
    rw [List.map_map]
    exact List.map_id ns
  refine d_andV ((e_eqI (d_lenT (d_var rfl)) (d_var rfl)).to (by rw [lenT_ints, List.length_map])) fun w => ?_
  have w' := of_decide_eq_true w
  rw [lenT_ints] at w'
  refine (e_eqI (e_lenSet (ks := dd ns) (d_var rfl) (by omega) nd_dd fun _ => mem_dd) (d_var rfl)).to ?_
  show PyData.bool _ = .bool (decide (((dd ((ns.map PyData.int).map Lm.intD)).length : Int) = m))
  rw [e]

theorem ok_check_allocation {P : Program} {w : World} {K : PySem.W.Frag} {mg : Str → Option Value} {base : Heap} {f : Addr} {fd : FuncData} (F : Fun K "check_allocation" "check_allocation" s_check_allocation f fd) (T : Txt mg) (c_require : Cal P w K mg base CX0 1 "require" p_require (sp_require K)) (c_is_bounded_allocation : Cal P w K mg base CX0 3 "is_bounded_allocation" p_is_bounded_allocation (sp_is_bounded_allocationX K)) :
    FnOk P w K mg base CX0 4 f fd p_check_allocation (sp_check_allocation K) := by
  refine F.ok sc_check_allocation (fun vs H Q E h => spD_len h (by rintro ds k d ⟨ns, v, b, nm, rfl, _⟩; rfl)) (fun cdv A outer s H vs Q E hr h => ⟨_, (pss_one (ps_expr (pe_cal c_require (hr.mono (by decide)) rfl pass0 (pa_cons (pe_cal c_is_bounded_allocation (hr.mono (by decide)) rfl pass0 (pa_cons (pv 0) pa_nil)) (pa_cons (pv 1) pa_nil))))), run_pure (N := n_check_allocation) (fun ds k d hp => ?_) h⟩)
  obtain ⟨ns, v, b, nm, rfl, ha, h1, h5, hb, rfl, rfl⟩ := hp
  have hl := ha.len
  exact s_drop (d_call (k := .v) (d := .none) (a_cons ((d_call (k := .v) (d := .bool true) (a_cons (d_var rfl) a_nil) ⟨tupD ns, rfl, (smf_tup (by omega)).t, rfl, by rw [ha.bal h1 h5 hb]⟩)) (a_cons (d_var rfl) a_nil)) ⟨nm, rfl, rfl, rfl⟩) (.inr ⟨rfl, rfl, _, rfl⟩)

theorem ok_check_alike {P : Program} {w : World} {K : PySem.W.Frag} {mg : Str → Option Value} {base : Heap} {f : Addr} {fd : FuncData} (F : Fun K "check_alike" "check_alike" s_check_alike f fd) (T : Txt mg) (c_require : Cal P w K mg base CX0 1 "require" p_require (sp_require K)) (c_is_allocation : Cal P w K mg base CX0 3 "is_allocation" p_is_allocation (sp_is_allocation K)) :
    FnOk P w K mg base CX0 4 f fd p_check_alike (sp_check_alike K) := by
  refine F.ok sc_check_alike (fun vs H Q E h => spD_len h (by rintro ds k d ⟨ms, ns, v, b, nm, rfl, _⟩; rfl)) (fun cdv A outer s H vs Q E hr h => ⟨_, (pss_one (ps_expr (pe_cal c_require (hr.mono (by decide)) rfl pass0 (pa_cons (pe_cal c_is_allocation (hr.mono (by decide)) rfl pass0 (pa_cons (pv 0) (pa_cons (pe_callB (k_len (K := K) rfl) rfl T.b_len (by decide +kernel) (pa_cons (pv 1) pa_nil)) (pa_cons (pe_callB (k_sum (K := K) rfl rfl) rfl T.b_sum (by decide +kernel) (pa_cons (pv 1) pa_nil)) pa_nil)))) (pa_cons (pv 2) pa_nil))))), run_pure (N := n_check_alike) (fun ds k d hp => ?_) h⟩)
  obtain ⟨ms, ns, v, b, nm, rfl, hm, hn, h5, rfl, rfl⟩ := hp
  have hl := hm.len
  refine s_drop (d_call (a_cons (d_call (a_cons (d_var rfl) (a_cons (d_lenT (d_var rfl)) (a_cons (e_sumT (d_var rfl)) a_nil))) ⟨.tuple (ms.map .int), _, _, rfl, small_ints (by omega), rfl, rfl⟩) (a_cons (d_var rfl) a_nil)) ⟨nm, ?_, rfl, rfl⟩) (.inr ⟨rfl, rfl, _, rfl⟩)
  rw [List.length_map, hn.len, hn.sum, hm.isAlloc]

theorem ok_transfer {P : Program} {w : World} {K : PySem.W.Frag} {mg : Str → Option Value} {base : Heap} {f : Addr} {fd : FuncData} (F : Fun K "transfer" "transfer" s_transfer f fd) (T : Txt mg) (c_check_allocation : Cal P w K mg base CX0 4 "check_allocation" p_check_allocation (sp_check_allocation K)) (c_check_alike : Cal P w K mg base CX0 4 "check_alike" p_check_alike (sp_check_alike K)) :
    FnOk P w K mg base CX0 5 f fd p_transfer (sp_transfer K) := by
  refine F.ok sc_transfer (fun vs H Q E h => spD_len h (by rintro ds k d ⟨ns, ms, v, b, rfl, _⟩; rfl)) (fun cdv A outer s H vs Q E hr h => ⟨_, (pss_cons (ps_expr (pe_cal c_check_allocation (hr.mono (by decide)) rfl pass0 (pa_cons (pv 0) (pa_cons pe_str pa_nil))))
      (pss_cons (ps_expr (pe_cal c_check_alike (hr.mono (by decide)) rfl pass0 (pa_cons (pv 1) (pa_cons (pv 0) (pa_cons pe_str pa_nil)))))
      (pss_one (ps_ret (pe_callB (k_sum (K := K) rfl rfl) rfl T.b_sum (by decide +kernel) (pa_cons (pe_lc rfl sc_transfer.nd (k_zip (K := K) rfl rfl T.b_zip (pa_cons (pv 0) (pa_cons (pv 1) pa_nil))) (blkOk_by (own := [("old", 2), ("new", 3)]) (N := n_transfer) (sc := defScope s_transfer) (by decide +kernel)) (fun _ _ _ _ _ => by exact (k_tup (K := K) (n := 2) rfl rfl (pgs_cons (pg_name (i := 2) sc_transfer.nd rfl (Or.inl rfl)) (pgs_cons (pg_name (i := 3) sc_transfer.nd rfl (Or.inl rfl)) pgs_nil)))) (fun _ _ _ _ _ => by exact pts_nil) (fun _ _ _ _ _ => by exact (pe_callB (call_max2 rfl) rfl T.b_max (by decide +kernel) (pa_cons (pe_op op_sub (pv 2) (pv 3)) (pa_cons pe_int pa_nil))))) pa_nil)))))), run_pure (N := n_transfer) (fun ds k d hp => ?_) h⟩)
  obtain ⟨ns, ms, v, b, rfl, hn, hm, h1, h5, hb, rfl, rfl⟩ := hp
  have hl := hn.len
  refine q_drop (d_call (a_cons (d_var rfl) (a_cons d_str a_nil)) ⟨ns, v, b, "first", rfl, hn, h1, h5, hb, rfl, rfl⟩) ?_
  refine q_drop (d_call (a_cons (d_var rfl) (a_cons (d_var rfl) (a_cons d_str a_nil))) ⟨ms, ns, v, b, "second", rfl, hm, hn, by omega, rfl, rfl⟩) ?_
  exact s_ret (e_sumL (d_lcI (l := ns.zip ms) (en := zipI) (fun p => if 0 > p.1 - p.2 then 0 else p.1 - p.2) (i_zipTI (a_consV (d_var rfl) (a_consV (d_var rfl) a_nil))) (by simp; omega) fun p _ => ⟨_, _, g_tup rfl (g_cons g_name (g_cons g_name g_nil)), fun j hj => hj, .v, e_max2 (d_sub (d_var rfl) (d_var rfl)) d_int⟩)) (.inr ⟨rfl, rfl⟩) (.inl rfl)

theorem ok_is_assignment {P : Program} {w : World} {K : PySem.W.Frag} {mg : Str → Option Value} {base : Heap} {f : Addr} {fd : FuncData} (F : Fun K "is_assignment" "is_assignment" s_is_assignment f fd) (T : Txt mg) (c_are_integers : Cal P w K mg base CX0 2 "are_integers" p_are_integers (sp_are_integers K)) :
    FnOk P w K mg base CX0 3 f fd p_is_assignment (sp_is_assignment K) := by
  refine F.ok sc_is_assignment (fun vs H Q E h => spD_len h (by rintro ds k d ⟨x, v, b, rfl, _⟩; rfl)) (fun cdv A outer s H vs Q E hr h => ⟨_, (pss_one (ps_ret (pe_and (pe_cal c_are_integers (hr.mono (by decide)) rfl pass0 (pa_cons (pv 0) (pa_cons pe_int (pa_cons (pe_op op_sub (pv 1) pe_int) pa_nil)))) (pe_one (pe_cmpR (k_eq (K := K) rfl (rUnits hr)) (pe_callB (k_len (K := K) rfl) rfl T.b_len (by decide +kernel) (pa_cons (pv 0) pa_nil)) (pv 2) (nomark _)))))), run_pure (N := n_is_assignment) (fun ds k d hp => ?_) h⟩)
  obtain ⟨x, v, b, rfl, hx, rfl, rfl⟩ := hp
  refine s_ret (d_andV (d_call (a_cons (d_var rfl) (a_cons d_int (a_cons (d_sub (d_var rfl) d_int) a_nil))) ⟨x, 0, v - 1, rfl, hx, rfl, rfl⟩) fun h => ?_) (.inr ⟨rfl, rfl⟩) (.inl rfl)
  obtain ⟨ns, rfl, _⟩ := areInts_ints h
  exact (e_eqI (d_lenT (d_var rfl)) (d_var rfl)).to (by rw [lenT_ints, List.length_map])

theorem ok_is_bounded_assignment {P : Program} {w : World} {K : PySem.W.Frag} {mg : Str → Option Value} {base : Heap} {f : Addr} {fd : FuncData} (F : Fun K "is_bounded_assignment" "is_bounded_assignment" s_is_bounded_assignment f fd) (T : Txt mg) (c_are_integers : Cal P w K mg base CX0 2 "are_integers" p_are_integers (sp_are_integers K)) :
    FnOk P w K mg base CX0 3 f fd p_is_bounded_assignment (sp_is_bounded_assignment K) := by
  refine F.ok sc_is_bounded_assignment (fun vs H Q E h => spD_len h (by rintro ds k d ⟨x, v, rfl, _⟩; rfl)) (fun cdv A outer s H vs Q E hr h => ⟨_, (pss_one (ps_ret (pe_and (pe_cal c_are_integers (hr.mono (by decide)) rfl pass0 (pa_cons (pv 0) (pa_cons pe_int (pa_cons (pe_op op_sub (pv 1) pe_int) pa_nil)))) (pe_one (pe_cmpR op_le (pe_callB (k_len (K := K) rfl) rfl T.b_len (by decide +kernel) (pa_cons (pv 0) pa_nil)) (pe_const rfl T.k_MOST_BUCKETS) (nomark _)))))), run_pure (N := n_is_bounded_assignment) (fun ds k d hp => ?_) h⟩)
  obtain ⟨x, v, rfl, hx, rfl, rfl⟩ := hp
  refine s_ret (d_andV (d_call (a_cons (d_var rfl) (a_cons d_int (a_cons (d_sub (d_var rfl) d_int) a_nil))) ⟨x, 0, v - 1, rfl, hx, rfl, rfl⟩) fun h => ?_) (.inr ⟨rfl, rfl⟩) (.inl rfl)
  obtain ⟨ns, rfl, _⟩ := areInts_ints h
  exact (d_le (d_lenT (d_var rfl)) d_int).to (by rw [lenT_ints, List.length_map])

theorem ok_check_assignment {P : Program} {w : World} {K : PySem.W.Frag} {mg : Str → Option Value} {base : Heap} {f : Addr} {fd : FuncData} (F : Fun K "check_assignment" "check_assignment" s_check_assignment f fd) (T : Txt mg) (c_require : Cal P w K mg base CX0 1 "require" p_require (sp_require K)) (c_is_bounded_assignment : Cal P w K mg base CX0 3 "is_bounded_assignment" p_is_bounded_assignment (sp_is_bounded_assignment K)) :
    FnOk P w K mg base CX0 4 f fd p_check_assignment (sp_check_assignment K) := by
  refine F.ok sc_check_assignment (fun vs H Q E h => spD_len h (by rintro ds k d ⟨x, nm, rfl, _⟩; rfl)) (fun cdv A outer s H vs Q E hr h => ⟨_, (pss_one (ps_expr (pe_cal c_require (hr.mono (by decide)) rfl pass0 (pa_cons (pe_cal c_is_bounded_assignment (hr.mono (by decide)) rfl pass0 (pa_cons (pv 0) (pa_cons (pe_const rfl T.k_MOST_VARIANTS) pa_nil))) (pa_cons (pv 1) pa_nil))))), run_pure (N := n_check_assignment) (fun ds k d hp => ?_) h⟩)
  obtain ⟨x, nm, rfl, hx, hb, rfl, rfl⟩ := hp
  refine s_drop (d_call (a_cons (d_call (a_cons (d_var rfl) (a_cons d_int a_nil)) ⟨x, 5, rfl, hx, rfl, rfl⟩) (a_cons (d_var rfl) a_nil)) ⟨nm, by rw [hb], rfl, rfl⟩) (.inr ⟨rfl, rfl, _, rfl⟩)

theorem ok_check_pair {P : Program} {w : World} {K : PySem.W.Frag} {mg : Str → Option Value} {base : Heap} {f : Addr} {fd : FuncData} (F : Fun K "check_pair" "check_pair" s_check_pair f fd) (T : Txt mg) (c_check_assignment : Cal P w K mg base CX0 4 "check_assignment" p_check_assignment (sp_check_assignment K)) (c_require : Cal P w K mg base CX0 1 "require" p_require (sp_require K)) (c_is_assignment : Cal P w K mg base CX0 3 "is_assignment" p_is_assignment (sp_is_assignment K)) :
    FnOk P w K mg base CX0 5 f fd p_check_pair (sp_check_pair K) := by
  refine F.ok sc_check_pair (fun vs H Q E h => spD_len h (by rintro ds k d ⟨ns, ms, rfl, _⟩; rfl)) (fun cdv A outer s H vs Q E hr h => ⟨_, (pss_cons (ps_expr (pe_cal c_check_assignment (hr.mono (by decide)) rfl pass0 (pa_cons (pv 0) (pa_cons pe_str pa_nil))))
      (pss_one (ps_expr (pe_cal c_require (hr.mono (by decide)) rfl pass0 (pa_cons (pe_cal c_is_assignment (hr.mono (by decide)) rfl pass0 (pa_cons (pv 1) (pa_cons (pe_const rfl T.k_MOST_VARIANTS) (pa_cons (pe_callB (k_len (K := K) rfl) rfl T.b_len (by decide +kernel) (pa_cons (pv 0) pa_nil)) pa_nil)))) (pa_cons pe_str pa_nil)))))), run_pure (N := n_check_pair) (fun ds k d hp => ?_) h⟩)
  obtain ⟨ns, ms, rfl, hn, hm, hl, rfl, rfl⟩ := hp
  refine q_drop (d_call (a_cons (d_var rfl) (a_cons d_str a_nil)) ⟨_, _, rfl, hn.small, hn.bAsg (Int.le_refl _), rfl, rfl⟩) ?_
  refine s_drop (d_call (a_cons (d_call (a_cons (d_var rfl) (a_cons d_int (a_cons (d_lenT (d_var rfl)) a_nil))) ⟨.tuple (ms.map .int), 5, _, rfl, hm.small, rfl, rfl⟩) (a_cons d_str a_nil)) ⟨"second", ?_, rfl, rfl⟩) (.inr ⟨rfl, rfl, _, rfl⟩)
  rw [hm.isAsg (by rw [List.length_map, hl])]

theorem ok_one_after_another {P : Program} {w : World} {K : PySem.W.Frag} {mg : Str → Option Value} {base : Heap} {f : Addr} {fd : FuncData} (F : Fun K "one_after_another" "one_after_another" s_one_after_another f fd) (T : Txt mg) :
    FnOk P w K mg base CX0 1 f fd p_one_after_another (sp_one_after_another K) := by
  refine F.ok sc_one_after_another (fun vs H Q E h => spD_len h (by rintro ds k d ⟨as, os, v, b, rfl, _⟩; rfl)) (fun cdv A outer s H vs Q E hr h => ⟨_, (pss_cons (ps_set (i := 2) sc_one_after_another.nd rfl (Or.inl rfl) (pe_lst pa_nil))
      (pss_cons (ps_for PassesOwn.never rfl (k_seq (K := K) rfl (pv 1)) (pg_name (i := 3) sc_one_after_another.nd rfl (Or.inl rfl)) (pss_one (ps_expr (k_bm (K := K) rfl PySem.F.plainAttrs_list PySem.F.slot_list_extend PySem.F.type_list_extend mt_extend (pv 2) (pa_cons (pe_op op_mulA (pe_lst (pa_cons (pv 3) pa_nil)) (pe_ix (k_ix (K := K) rfl) (pv 0) (pv 3) (fun _ _ => rfl))) pa_nil)))))
      (pss_one (ps_ret (pe_callTy (k_tuple (K := K) rfl) rfl T.b_tuple (by decide +kernel) (pa_cons (pv 2) pa_nil)))))), run_pure (N := n_one_after_another) (fun ds k d hp => ?_) h⟩)
  obtain ⟨as, os, v, b, rfl, h, o, hv, hb, rfl, rfl⟩ := hp
  have hl := h.len
  have ol := o.len
  have rl := runL_length h o
  refine q_asgO (d := .list (([] : List Int).map .int)) (d_lst (kv := false) (ds := []) a_nil rfl (by decide)) ?_
  refine q_for (i_seqTI (ns := os) (d_var rfl) kv_ne)
    (fun n Γ1 => ∃ t3, Γ1 = [some (.v (.tuple (as.map .int))), some (.v (.tuple (os.map .int))), some (.o (.list ((runL as (os.take n)).map .int))), t3]) ⟨_, rfl⟩ (fun n a Γ1 hn' hI => ?_) (fun Γ1 hI => ?_)
  · obtain ⟨t3, rfl⟩ := hI
    obtain ⟨hn, j, hj, e, rfl⟩ := ord_at o hn'
    have a0 := h.nn _ (gd_mem (l := as) (j := j) (by omega))
    have a1 := h.le _ (gd_mem (l := as) (j := j) (by omega))
    have tl := runL_take (as := as) (os := os) n
    refine ⟨_, _, g_name, s_ext rfl ((e_rep (d_lst (kv := false) (ds := [.int (j : Int)]) (a_cons (d_var rfl) a_nil) rfl (by simp)) rfl (e_ixT (d_var rfl) (d_var rfl) (at_ints (show j < as.length by omega)) rfl) (by omega) (by omega) (by show 1 * _ ≤ _; omega)).to (by rw [rep_int])) (flatAll_ints _) (by rw [List.length_map, List.length_map, List.length_replicate]; omega) (.inl ⟨_, .inl rfl, some (.v (.int (j : Int))), ?_⟩)⟩
    rw [take_one hn, runL_snoc, e, List.map_append]
    rfl
  · obtain ⟨t3, rfl⟩ := hI
    have e : os.take (os.map imI).length = os := List.take_of_length_le (by simp)
    rw [e]
    exact s_ret (d_tuple (d_varO rfl) (flatAll_ints _)) (.inr ⟨rfl, flatT _⟩) (.inl rfl)

theorem ok_churn {P : Program} {w : World} {K : PySem.W.Frag} {mg : Str → Option Value} {base : Heap} {f : Addr} {fd : FuncData} (F : Fun K "churn" "churn" s_churn f fd) (T : Txt mg) (c_moves : Cal P w K mg base CX0 6 "moves" p_moves (sp_moves K)) :
    FnOk P w K mg base CX0 7 f fd p_churn (sp_churn K) := by
  refine F.ok sc_churn (fun vs H Q E h => spD_len h (by rintro ds k d ⟨ns, ms, rfl, _⟩; rfl)) (fun cdv A outer s H vs Q E hr h => ⟨_, (pss_one (ps_ret (pe_callB (k_len (K := K) rfl) rfl T.b_len (by decide +kernel) (pa_cons (pe_cal c_moves (hr.mono (by decide)) rfl pass0 (pa_cons (pv 0) (pa_cons (pv 1) pa_nil))) pa_nil)))), run_pure (N := n_churn) (fun ds k d hp => ?_) h⟩)
  obtain ⟨ns, ms, rfl, hn, hm, hl, rfl, rfl⟩ := hp
  exact s_ret ((d_lenL (d_call (k := .o) (d := .list (movesD ns ms)) (a_cons (d_var rfl) (a_cons (d_var rfl) a_nil)) ⟨ns, ms, rfl, hn, hm, hl, rfl, rfl⟩)).to (by rw [movesD_len hl])) (.inr ⟨rfl, rfl⟩) (.inl rfl)

theorem ok_moves {P : Program} {w : World} {K : PySem.W.Frag} {mg : Str → Option Value} {base : Heap} {f : Addr} {fd : FuncData} (F : Fun K "moves" "moves" s_moves f fd) (T : Txt mg) (c_check_pair : Cal P w K mg base CX0 5 "check_pair" p_check_pair (sp_check_pair K)) :
    FnOk P w K mg base CX0 6 f fd p_moves (sp_moves K) := by
  refine F.ok sc_moves (fun vs H Q E h => spD_len h (by rintro ds k d ⟨ns, ms, rfl, _⟩; rfl)) (fun cdv A outer s H vs Q E hr h => ⟨_, (pss_cons (ps_expr (pe_cal c_check_pair (hr.mono (by decide)) rfl pass0 (pa_cons (pv 0) (pa_cons (pv 1) pa_nil))))
      (pss_one (ps_ret (pe_lc rfl sc_moves.nd (k_enumZ (K := K) rfl rfl T.b_enumerate rfl T.b_zip (pa_cons (pv 0) (pa_cons (pv 1) pa_nil))) (blkOk_by (own := [("bucket", 2), ("old", 3), ("new", 4)]) (N := n_moves) (sc := defScope s_moves) (by decide +kernel)) (fun _ _ _ _ _ => by exact (k_tup (K := K) (n := 2) rfl rfl (pgs_cons (pg_name (i := 2) sc_moves.nd rfl (Or.inl rfl)) (pgs_cons (k_tup (K := K) (n := 2) rfl rfl (pgs_cons (pg_name (i := 3) sc_moves.nd rfl (Or.inl rfl)) (pgs_cons (pg_name (i := 4) sc_moves.nd rfl (Or.inl rfl)) pgs_nil))) pgs_nil)))) (fun _ _ _ _ _ => by exact (pts_one (pt_cmpR (k_ne (K := K) rfl (rUnits hr)) (pv 3) (pv 4) (nomark _)))) (fun _ _ _ _ _ => by exact (pe_tupN (pa_cons (pv 2) (pa_cons (pv 3) (pa_cons (pv 4) pa_nil))))))))), run_pure (N := n_moves) (fun ds k d hp => ?_) h⟩)
  obtain ⟨ns, ms, rfl, hn, hm, hl, rfl, rfl⟩ := hp
  refine q_drop (d_call (a_cons (d_var rfl) (a_cons (d_var rfl) a_nil)) ⟨ns, ms, rfl, hn, hm, hl, rfl, rfl⟩) ?_
  exact s_ret (d_lc (l := (ns.zip ms).zipIdx) (en := ezI) (fun p => !decide (p.1.1 = p.1.2)) mvT (i_enumZ hl (a_consV (d_var rfl) (a_consV (d_var rfl) a_nil))) (by simp; have := hn.len; omega) fun p _ => ⟨_, _, g_tup rfl (g_cons g_name (g_cons (g_tup rfl (g_cons g_name (g_cons g_name g_nil))) g_nil)), fun j hj => hj, t_test (e_neI (d_var rfl) (d_var rfl)), fun _ => (d_tup (a_consV (d_var rfl) (a_consV (d_var rfl) (a_consV (d_var rfl) a_nil))) (by simp)).fo rfl⟩) (.inl rfl) (.inl rfl)

theorem ok_check_steps {P : Program} {w : World} {K : PySem.W.Frag} {mg : Str → Option Value} {base : Heap} {f : Addr} {fd : FuncData} (F : Fun K "check_steps" "check_steps" s_check_steps f fd) (T : Txt mg) (c_require : Cal P w K mg base CX0 1 "require" p_require (sp_require K)) (c_are_allocations : Cal P w K mg base CX0 4 "are_allocations" p_are_allocations (sp_are_allocations74 K)) :
    FnOk P w K mg base CX0 5 f fd p_check_steps (sp_check_steps K) := by
  refine F.ok sc_check_steps (fun vs H Q E h => spD_len h (by rintro ds k d ⟨A, v, b, rfl, _⟩; rfl)) (fun cdv A outer s H vs Q E hr h => ⟨_, (pss_one (ps_expr (pe_cal c_require (hr.mono (by decide)) rfl pass0 (pa_cons (pe_cal c_are_allocations (hr.mono (by decide)) rfl pass0 (pa_cons (pv 0) (pa_cons (pe_const rfl T.k_MOST_ALLOCATIONS_histories) pa_nil))) (pa_cons pe_str pa_nil))))), run_pure (N := n_check_steps) (fun ds k d hp => ?_) h⟩)
  obtain ⟨A, v, b, rfl, h, rfl, rfl⟩ := hp
  exact s_drop (d_call (k := .v) (d := .none) (a_cons (d_call (k := .v) (d := .bool true) (a_cons (d_var rfl) (a_cons d_int a_nil)) ⟨.tuple (A.map tupD), 10, rfl, by decide, rfl, .inl ⟨A, v, b, rfl, h, by have := h.l2; omega, rfl⟩⟩) (a_cons d_str a_nil)) ⟨_, rfl, rfl, rfl⟩) (.inr ⟨rfl, rfl, _, rfl⟩)

theorem ok_steps_of {P : Program} {w : World} {K : PySem.W.Frag} {mg : Str → Option Value} {base : Heap} {f : Addr} {fd : FuncData} (F : Fun K "steps_of" "steps_of" s_steps_of f fd) (T : Txt mg) :
    FnOk P w K mg base CX0 1 f fd p_steps_of (sp_steps_of K) := by
  refine F.ok sc_steps_of (fun vs H Q E h => spD_len h (by rintro ds k d ⟨es, h | h, _⟩ <;> subst h <;> rfl)) (fun cdv A outer s H vs Q E hr h => ⟨_, (pss_one (ps_ret (k_listZip (K := K) rfl rfl rfl T.b_list rfl T.b_zip (pa_cons (pv 0) (pa_cons (pe_slice (k_slU (K := K) rfl) (pv 0) (po_some pe_int) po_none) pa_nil))))), run_pure (N := n_steps_of) (fun ds k d hp => ?_) h⟩)
  obtain ⟨es, h, hf, h1, h2, rfl, rfl⟩ := hp
  have c1 : cutD es (some 1) none = es.drop 1 := cutD_lo (t := 1) h1
  have hf2 : flatAll (es.drop 1) = true := flatAll_mem fun d hd => flatAll_one hf (List.mem_of_mem_drop hd)
  rcases h with rfl | rfl
  · exact s_ret (e_listZip (a_consV (d_var rfl) (a_consV ((e_slU (d_var rfl) (o_some d_int) o_none).to (by rw [c1])) a_nil)) hf hf2 (.inr (by simp; omega)) (by omega)) (.inl rfl) (.inl rfl)
  · exact s_ret (e_listZipL (a_cons (d_var rfl) (a_cons ((e_slL (d_var rfl) (o_some d_int) o_none hf).to (by rw [c1])) a_nil)) hf hf2 (.inr (by simp; omega)) (by omega)) (.inl rfl) (.inl rfl)

theorem ok_total {P : Program} {w : World} {K : PySem.W.Frag} {mg : Str → Option Value} {base : Heap} {f : Addr} {fd : FuncData} (F : Fun K "total" "total" s_total f fd) (T : Txt mg) (c_check_steps : Cal P w K mg base CX0 5 "check_steps" p_check_steps (sp_check_steps K)) (c_transfer : Cal P w K mg base CX0 5 "transfer" p_transfer (sp_transfer K)) (c_steps_of : Cal P w K mg base CX0 1 "steps_of" p_steps_of (sp_steps_of K)) :
    FnOk P w K mg base CX0 6 f fd p_total (sp_total K) := by
  refine F.ok sc_total (fun vs H Q E h => spD_len h (by rintro ds k d ⟨A, v, b, rfl, _⟩; rfl)) (fun cdv A outer s H vs Q E hr h => ⟨_, (pss_cons (ps_expr (pe_cal c_check_steps (hr.mono (by decide)) rfl pass0 (pa_cons (pv 0) pa_nil)))
      (pss_one (ps_ret (pe_callB (k_sum (K := K) rfl rfl) rfl T.b_sum (by decide +kernel) (pa_cons (pe_lc rfl sc_total.nd (k_seq (K := K) rfl (pe_cal c_steps_of (hr.mono (by decide)) rfl pass0 (pa_cons (pv 0) pa_nil))) (blkOk_by (own := [("before", 1), ("after", 2)]) (N := n_total) (sc := defScope s_total) (by decide +kernel)) (fun _ _ _ _ _ => by exact (k_tup (K := K) (n := 2) rfl rfl (pgs_cons (pg_name (i := 1) sc_total.nd rfl (Or.inl rfl)) (pgs_cons (pg_name (i := 2) sc_total.nd rfl (Or.inl rfl)) pgs_nil)))) (fun _ _ _ _ _ => by exact pts_nil) (fun _ _ _ _ _ => by exact (pe_cal c_transfer (hr.mono (by decide)) rfl pass0 (pa_cons (pv 1) (pa_cons (pv 2) pa_nil))))) pa_nil))))), run_pure (N := n_total) (fun ds k d hp => ?_) h⟩)
  obtain ⟨A, v, b, rfl, h, rfl, rfl⟩ := hp
  have h1 := h.l1
  have h2 := h.l2
  refine q_drop (d_call (k := .v) (d := .none) (a_cons (d_var rfl) a_nil) ⟨A, v, b, rfl, h, rfl, rfl⟩) ?_
  refine s_ret (e_sumL (d_lcI (l := prs A) (en := fun p => .d (.tuple [tupD p.1, tupD p.2])) (fun p => trI p.1 p.2) (i_seqL' (d_call (k := .o) (a_cons (d_var rfl) a_nil) ⟨A.map tupD, .inl rfl, fl_rows A, by simpa using h1, by simp; omega, rfl, rfl⟩) ko_ne ?_) (by rw [prs_len]; omega) fun p hp => ⟨_, _, g_tupD rfl (g_cons g_name (g_cons g_name g_nil)), fun j hj => hj, .v, d_call (k := .v) (a_cons (d_var rfl) (a_cons (d_var rfl) a_nil)) ⟨p.1, p.2, v, b, rfl, h.alc _ (prs_mem hp).1, h.alc _ (prs_mem hp).2, h.v1, h.v5, h.b20, rfl, rfl⟩⟩)) (.inr ⟨rfl, rfl⟩) (.inl rfl)
  rw [zipTs_rows, List.map_map]
  rfl

theorem ok_check_order {P : Program} {w : World} {K : PySem.W.Frag} {mg : Str → Option Value} {base : Heap} {f : Addr} {fd : FuncData} (F : Fun K "check_order" "check_order" s_check_order f fd) (T : Txt mg) (c_require : Cal P w K mg base CX0 1 "require" p_require (sp_require K)) (c_is_order : Cal P w K mg base CX0 3 "is_order" p_is_order (sp_is_orderD K)) :
    FnOk P w K mg base CX0 4 f fd p_check_order (sp_check_order K) := by
  refine F.ok sc_check_order (fun vs H Q E h => spD_len h (by rintro ds k d ⟨as, os, v, rfl, _⟩; rfl)) (fun cdv A outer s H vs Q E hr h => ⟨_, (pss_one (ps_expr (pe_cal c_require (hr.mono (by decide)) rfl pass0 (pa_cons (pe_cal c_is_order (hr.mono (by decide)) rfl pass0 (pa_cons (pv 0) (pa_cons (pe_callB (k_len (K := K) rfl) rfl T.b_len (by decide +kernel) (pa_cons (pv 1) pa_nil)) pa_nil))) (pa_cons pe_str pa_nil))))), run_pure (N := n_check_order) (fun ds k d hp => ?_) h⟩)
  obtain ⟨as, os, v, rfl, o, hl, hv, rfl, rfl⟩ := hp
  exact s_drop (d_call (k := .v) (d := .none) (a_cons (d_call (k := .v) (d := .bool true) (a_cons (d_var rfl) (a_cons ((d_lenT (d_var rfl)).to (y := .int v) (by rw [List.length_map, hl])) a_nil)) ⟨tupD os, v, rfl, small_ints (by have := o.len; omega), hv, rfl, by rw [o.isB]⟩) (a_cons d_str a_nil)) ⟨_, rfl, rfl, rfl⟩) (.inr ⟨rfl, rfl, _, rfl⟩)

theorem ok_check_ordered {P : Program} {w : World} {K : PySem.W.Frag} {mg : Str → Option Value} {base : Heap} {f : Addr} {fd : FuncData} (F : Fun K "check_ordered" "check_ordered" s_check_ordered f fd) (T : Txt mg) (c_check_allocation : Cal P w K mg base CX0 4 "check_allocation" p_check_allocation (sp_check_allocation K)) (c_check_order : Cal P w K mg base CX0 4 "check_order" p_check_order (sp_check_order K)) :
    FnOk P w K mg base CX0 5 f fd p_check_ordered (sp_check_ordered K) := by
  refine F.ok sc_check_ordered (fun vs H Q E h => spD_len h (by rintro ds k d ⟨as, os, v, b, rfl, _⟩; rfl)) (fun cdv A outer s H vs Q E hr h => ⟨_, (pss_cons (ps_expr (pe_cal c_check_allocation (hr.mono (by decide)) rfl pass0 (pa_cons (pv 0) (pa_cons pe_str pa_nil))))
      (pss_one (ps_expr (pe_cal c_check_order (hr.mono (by decide)) rfl pass0 (pa_cons (pv 1) (pa_cons (pv 0) pa_nil)))))), run_pure (N := n_check_ordered) (fun ds k d hp => ?_) h⟩)
  obtain ⟨as, os, v, b, rfl, h, o, h1, h5, hb, rfl, rfl⟩ := hp
  refine q_drop (d_call (k := .v) (d := .none) (a_cons (d_var rfl) (a_cons d_str a_nil)) ⟨as, v, b, "allocation", rfl, h, h1, h5, hb, rfl, rfl⟩) ?_
  exact s_drop (d_call (k := .v) (d := .none) (a_cons (d_var rfl) (a_cons (d_var rfl) a_nil)) ⟨as, os, v, rfl, o, h.len, by omega, rfl, rfl⟩) (.inr ⟨rfl, rfl, _, rfl⟩)

theorem ok_both_by_intervals {P : Program} {w : World} {K : PySem.W.Frag} {mg : Str → Option Value} {base : Heap} {f : Addr} {fd : FuncData} (F : Fun K "both_by_intervals" "both_by_intervals" s_both_by_intervals f fd) (T : Txt mg) (c_check_allocation : Cal P w K mg base CX0 4 "check_allocation" p_check_allocation (sp_check_allocation K)) (c_check_alike : Cal P w K mg base CX0 4 "check_alike" p_check_alike (sp_check_alike K)) (c_check_order : Cal P w K mg base CX0 4 "check_order" p_check_order (sp_check_order K)) (c_one_after_another : Cal P w K mg base CX0 1 "one_after_another" p_one_after_another (sp_one_after_another K)) :
    FnOk P w K mg base CX0 5 f fd p_both_by_intervals (sp_both_by_intervals K) := by
  refine F.ok sc_both_by_intervals (fun vs H Q E h => spD_len h (by rintro ds k d ⟨as, cs, os, v, b, rfl, _⟩; rfl)) (fun cdv A outer s H vs Q E hr h => ⟨_, (pss_cons (ps_expr (pe_cal c_check_allocation (hr.mono (by decide)) rfl pass0 (pa_cons (pv 0) (pa_cons pe_str pa_nil))))
      (pss_cons (ps_expr (pe_cal c_check_alike (hr.mono (by decide)) rfl pass0 (pa_cons (pv 1) (pa_cons (pv 0) (pa_cons pe_str pa_nil)))))
      (pss_cons (ps_expr (pe_cal c_check_order (hr.mono (by decide)) rfl pass0 (pa_cons (pv 2) (pa_cons (pv 0) pa_nil))))
      (pss_one (ps_ret (pe_tupN (pa_cons (pe_cal c_one_after_another (hr.mono (by decide)) rfl pass0 (pa_cons (pv 0) (pa_cons (pv 2) pa_nil))) (pa_cons (pe_cal c_one_after_another (hr.mono (by decide)) rfl pass0 (pa_cons (pv 1) (pa_cons (pv 2) pa_nil))) pa_nil)))))))), run_pure (N := n_both_by_intervals) (fun ds k d hp => ?_) h⟩)
  obtain ⟨as, cs, os, v, b, rfl, h, g, o, h1, h5, hb, rfl, rfl⟩ := hp
  refine q_drop (d_call (k := .v) (d := .none) (a_cons (d_var rfl) (a_cons d_str a_nil)) ⟨as, v, b, "first", rfl, h, h1, h5, hb, rfl, rfl⟩) ?_
  refine q_drop (d_call (k := .v) (d := .none) (a_cons (d_var rfl) (a_cons (d_var rfl) (a_cons d_str a_nil))) ⟨cs, as, v, b, "second", rfl, g, h, by omega, rfl, rfl⟩) ?_
  refine q_drop (d_call (k := .v) (d := .none) (a_cons (d_var rfl) (a_cons (d_var rfl) a_nil)) ⟨as, os, v, rfl, o, h.len, by omega, rfl, rfl⟩) ?_
  exact s_ret (d_tup (a_consV (d_call (k := .v) (a_cons (d_var rfl) (a_cons (d_var rfl) a_nil)) ⟨as, os, v, b, rfl, h, o, by omega, by omega, rfl, rfl⟩) (a_consV (d_call (k := .v) (a_cons (d_var rfl) (a_cons (d_var rfl) a_nil)) ⟨cs, os, v, b, rfl, g, o, by omega, by omega, rfl, rfl⟩) a_nil)) (by simp)) (.inr ⟨rfl, by simp [flatD, flatAll, flatAll_ints]⟩) (.inl rfl)

theorem ok_by_intervals {P : Program} {w : World} {K : PySem.W.Frag} {mg : Str → Option Value} {base : Heap} {f : Addr} {fd : FuncData} (F : Fun K "by_intervals" "by_intervals" s_by_intervals f fd) (T : Txt mg) (c_check_ordered : Cal P w K mg base CX0 5 "check_ordered" p_check_ordered (sp_check_ordered K)) (c_one_after_another : Cal P w K mg base CX0 1 "one_after_another" p_one_after_another (sp_one_after_another K)) :
    FnOk P w K mg base CX0 6 f fd p_by_intervals (sp_by_intervals K) := by
  refine F.ok sc_by_intervals (fun vs H Q E h => spD_len h (by rintro ds k d ⟨as, os, v, b, rfl, _⟩; rfl)) (fun cdv A outer s H vs Q E hr h => ⟨_, (pss_cons (ps_expr (pe_cal c_check_ordered (hr.mono (by decide)) rfl pass0 (pa_cons (pv 0) (pa_cons (pv 1) pa_nil))))
      (pss_one (ps_ret (pe_cal c_one_after_another (hr.mono (by decide)) rfl pass0 (pa_cons (pv 0) (pa_cons (pv 1) pa_nil)))))), run_pure (N := n_by_intervals) (fun ds k d hp => ?_) h⟩)
  obtain ⟨as, os, v, b, rfl, h, o, h1, h5, hb, rfl, rfl⟩ := hp
  refine q_drop (d_call (k := .v) (d := .none) (a_cons (d_var rfl) (a_cons (d_var rfl) a_nil)) ⟨as, os, v, b, rfl, h, o, h1, h5, hb, rfl, rfl⟩) ?_
  exact s_ret (d_call (k := .v) (a_cons (d_var rfl) (a_cons (d_var rfl) a_nil)) ⟨as, os, v, b, rfl, h, o, by omega, by omega, rfl, rfl⟩) (.inr ⟨rfl, flatT _⟩) (.inl rfl)

theorem ok_boundaries {P : Program} {w : World} {K : PySem.W.Frag} {mg : Str → Option Value} {base : Heap} {f : Addr} {fd : FuncData} (F : Fun K "boundaries" "boundaries" s_boundaries f fd) (T : Txt mg) (c_check_ordered : Cal P w K mg base CX0 5 "check_ordered" p_check_ordered (sp_check_ordered K)) :
    FnOk P w K mg base CX0 6 f fd p_boundaries (sp_boundaries K) := by
  refine F.ok sc_boundaries (fun vs H Q E h => spD_len h (by rintro ds k d ⟨as, os, v, b, rfl, _⟩; rfl)) (fun cdv A outer s H vs Q E hr h => ⟨_, (pss_cons (ps_expr (pe_cal c_check_ordered (hr.mono (by decide)) rfl pass0 (pa_cons (pv 0) (pa_cons (pv 1) pa_nil))))
      (pss_cons (ps_set (i := 2) sc_boundaries.nd rfl (Or.inl rfl) (pe_lst pa_nil))
      (pss_cons (ps_set (i := 3) sc_boundaries.nd rfl (Or.inl rfl) pe_int)
      (pss_cons (ps_for PassesOwn.never rfl (k_seq (K := K) rfl (pe_slice (k_slT (K := K) rfl) (pv 1) po_none (po_some (pe_un un_neg pe_int)))) (pg_name (i := 4) sc_boundaries.nd rfl (Or.inl rfl)) (pss_cons (ps_aug (i := 3) sc_boundaries.nd rfl (Or.inl rfl) (pe_ix (k_ix (K := K) rfl) (pv 0) (pv 4) (fun _ _ => rfl)) ip_add)
      (pss_one (ps_expr (k_bm (K := K) rfl PySem.F.plainAttrs_list PySem.F.slot_list_append PySem.F.type_list_append mt_append (pv 2) (pa_cons (pv 3) pa_nil))))))
      (pss_one (ps_ret (pe_callTy (k_tuple (K := K) rfl) rfl T.b_tuple (by decide +kernel) (pa_cons (pv 2) pa_nil)))))))), run_pure (N := n_boundaries) (fun ds k d hp => ?_) h⟩)
  obtain ⟨as, os, v, b, rfl, h, o, h1, h5, hb, rfl, rfl⟩ := hp
  have hl := h.len
  have ol := o.len
  refine q_drop (d_call (k := .v) (d := .none) (a_cons (d_var rfl) (a_cons (d_var rfl) a_nil)) ⟨as, os, v, b, rfl, h, o, h1, h5, hb, rfl, rfl⟩) ?_
  refine q_asgO (d := .list (([] : List Int).map .int)) (d_lst (kv := false) (ds := []) a_nil rfl (by decide)) ?_
  refine q_asg d_int ?_
  refine q_for (i_seqTI (ns := os.dropLast) ((e_sl (d_var rfl) o_none (o_some (e_neg d_int))).to (by rw [cutD_last, List.map_dropLast])) kv_ne)
    (fun n Γ1 => ∃ t4, Γ1 = [some (.v (.tuple (as.map .int))), some (.v (.tuple (os.map .int))), some (.o (.list ((accL 0 (shL as (os.dropLast.take n))).map .int))), some (.v (.int (shL as (os.dropLast.take n)).sum)), t4]) ⟨_, rfl⟩ (fun n a Γ1 hn' hI => ?_) (fun Γ1 hI => ?_)
  · obtain ⟨t4, rfl⟩ := hI
    have hn : n < os.dropLast.length := by have := (List.getElem?_eq_some_iff.mp hn').1; simpa using this
    have hn2 : n < os.length := by simp at hn; omega
    have hd : (os.map imI)[n]? = some a := by
      rw [List.getElem?_map, List.getElem?_dropLast] at hn'
      rw [if_pos (by simp at hn; omega)] at hn'
      rw [List.getElem?_map]; exact hn'
    obtain ⟨_, j, hj, e, rfl⟩ := ord_at o hd
    have e2 : os.dropLast.getD n 0 = (j : Int) := by
      rw [← e, List.getD_eq_getElem?_getD, List.getD_eq_getElem?_getD, List.getElem?_dropLast, if_pos (by simp at hn; omega)]
    refine ⟨_, _, g_name, q_aug rfl (e_ixT (d_var rfl) (d_var rfl) (at_ints (show j < as.length by omega)) rfl) ?_⟩
    have sh : shL as (os.dropLast.take (n + 1)) = shL as (os.dropLast.take n) ++ [as.getD j 0] := by
      rw [take_one hn, e2]
      unfold shL
      rw [List.map_append]; simp [gI]
    refine s_app rfl (d_var rfl) rfl (by simp [accL_len, shL]; omega) (.inl ⟨_, .inl rfl, some (.v (.int (j : Int))), ?_⟩)
    rw [sh, accL_snoc, List.sum_append, List.map_append]
    simp
  · obtain ⟨t4, rfl⟩ := hI
    have e : os.dropLast.take (os.dropLast.map imI).length = os.dropLast := List.take_of_length_le (by simp)
    rw [e]
    exact s_ret (d_tuple (d_varO rfl) (flatAll_ints _)) (.inr ⟨rfl, flatT _⟩) (.inl rfl)

theorem ok_interval_churn {P : Program} {w : World} {K : PySem.W.Frag} {mg : Str → Option Value} {base : Heap} {f : Addr} {fd : FuncData} (F : Fun K "interval_churn" "interval_churn" s_interval_churn f fd) (T : Txt mg) (c_both_by_intervals : Cal P w K mg base CX0 5 "both_by_intervals" p_both_by_intervals (sp_both_by_intervals K)) (c_churn : Cal P w K mg base CX0 7 "churn" p_churn (sp_churn K)) :
    FnOk P w K mg base CX0 8 f fd p_interval_churn (sp_interval_churn K) := by
  refine F.ok sc_interval_churn (fun vs H Q E h => spD_len h (by rintro ds k d ⟨as, cs, os, v, b, rfl, _⟩; rfl)) (fun cdv A outer s H vs Q E hr h => ⟨_, (pss_cons (ps_asg (pe_cal c_both_by_intervals (hr.mono (by decide)) rfl pass0 (pa_cons (pv 0) (pa_cons (pv 1) (pa_cons (pv 2) pa_nil)))) (k_tupA (K := K) (n := 2) rfl rfl (pgs_cons (pg_name (i := 3) sc_interval_churn.nd rfl (Or.inl rfl)) (pgs_cons (pg_name (i := 4) sc_interval_churn.nd rfl (Or.inl rfl)) pgs_nil))))
      (pss_one (ps_ret (pe_cal c_churn (hr.mono (by decide)) rfl pass0 (pa_cons (pv 3) (pa_cons (pv 4) pa_nil)))))), run_pure (N := n_interval_churn) (fun ds k d hp => ?_) h⟩)
  obtain ⟨as, cs, os, v, b, rfl, h, g, o, h1, h5, hb, rfl, rfl⟩ := hp
  have a5 : Asg (runL as os) 5 := (runL_asg h o hb).up (by omega)
  have c5 : Asg (runL cs os) 5 := (runL_asg g o hb).up (by omega)
  have l1 := runL_length h o
  have l2 := runL_length g o
  refine q_unp (fun d => d = .tuple [.tuple ((runL as os).map .int), .tuple ((runL cs os).map .int)]) (Ev.n (d_call (k := .v) (a_cons (d_var rfl) (a_cons (d_var rfl) (a_cons (d_var rfl) a_nil))) ⟨as, cs, os, v, b, rfl, h, g, o, h1, h5, hb, rfl, rfl⟩)) ?_
  rintro d rfl
  refine ⟨_, _, _, .inl rfl, by simp [flatAll, flatD, flatAll_ints], rfl, g_cons g_name (g_cons g_name g_nil), ?_⟩
  exact s_ret (d_call (k := .v) (a_cons (d_var rfl) (a_cons (d_var rfl) a_nil)) ⟨runL as os, runL cs os, rfl, a5, c5, by omega, rfl, rfl⟩) (.inr ⟨rfl, rfl⟩) (.inl rfl)

theorem ok_waste {P : Program} {w : World} {K : PySem.W.Frag} {mg : Str → Option Value} {base : Heap} {f : Addr} {fd : FuncData} (F : Fun K "waste" "waste" s_waste f fd) (T : Txt mg) (c_interval_churn : Cal P w K mg base CX0 8 "interval_churn" p_interval_churn (sp_interval_churn K)) (c_transfer : Cal P w K mg base CX0 5 "transfer" p_transfer (sp_transfer K)) :
    FnOk P w K mg base CX0 9 f fd p_waste (sp_waste K) := by
  refine F.ok sc_waste (fun vs H Q E h => spD_len h (by rintro ds k d ⟨as, cs, os, v, b, rfl, _⟩; rfl)) (fun cdv A outer s H vs Q E hr h => ⟨_, (pss_cons (ps_set (i := 3) sc_waste.nd rfl (Or.inl rfl) (pe_cal c_interval_churn (hr.mono (by decide)) rfl pass0 (pa_cons (pv 0) (pa_cons (pv 1) (pa_cons (pv 2) pa_nil)))))
      (pss_one (ps_ret (pe_op op_sub (pv 3) (pe_cal c_transfer (hr.mono (by decide)) rfl pass0 (pa_cons (pv 0) (pa_cons (pv 1) pa_nil))))))), run_pure (N := n_waste) (fun ds k d hp => ?_) h⟩)
  obtain ⟨as, cs, os, v, b, rfl, h, g, o, h1, h5, hb, rfl, rfl⟩ := hp
  refine q_asg (d_call (k := .v) (a_cons (d_var rfl) (a_cons (d_var rfl) (a_cons (d_var rfl) a_nil))) ⟨as, cs, os, v, b, rfl, h, g, o, h1, h5, hb, rfl, rfl⟩) ?_
  exact s_ret (d_sub (d_var rfl) (d_call (k := .v) (a_cons (d_var rfl) (a_cons (d_var rfl) a_nil)) ⟨as, cs, v, b, rfl, h, g, h1, h5, hb, rfl, rfl⟩)) (.inr ⟨rfl, rfl⟩) (.inl rfl)

theorem ok_interval_moves {P : Program} {w : World} {K : PySem.W.Frag} {mg : Str → Option Value} {base : Heap} {f : Addr} {fd : FuncData} (F : Fun K "interval_moves" "interval_moves" s_interval_moves f fd) (T : Txt mg) (c_both_by_intervals : Cal P w K mg base CX0 5 "both_by_intervals" p_both_by_intervals (sp_both_by_intervals K)) (c_moves : Cal P w K mg base CX0 6 "moves" p_moves (sp_moves K)) :
    FnOk P w K mg base CX0 7 f fd p_interval_moves (sp_interval_moves K) := by
  refine F.ok sc_interval_moves (fun vs H Q E h => spD_len h (by rintro ds k d ⟨as, cs, os, v, b, rfl, _⟩; rfl)) (fun cdv A outer s H vs Q E hr h => ⟨_, (pss_cons (ps_asg (pe_cal c_both_by_intervals (hr.mono (by decide)) rfl pass0 (pa_cons (pv 0) (pa_cons (pv 1) (pa_cons (pv 2) pa_nil)))) (k_tupA (K := K) (n := 2) rfl rfl (pgs_cons (pg_name (i := 3) sc_interval_moves.nd rfl (Or.inl rfl)) (pgs_cons (pg_name (i := 4) sc_interval_moves.nd rfl (Or.inl rfl)) pgs_nil))))
    (pss_cons (ps_set (i := 5) sc_interval_moves.nd rfl (Or.inl rfl) pe_dnewT)
    (pss_cons (ps_for PassesOwn.never rfl (k_seq (K := K) rfl (pe_cal c_moves (hr.mono (by decide)) rfl pass0 (pa_cons (pv 3) (pa_cons (pv 4) pa_nil)))) (k_tup (K := K) (n := 3) rfl rfl (pgs_cons (pg_name (i := 6) sc_interval_moves.nd rfl (Or.inl rfl)) (pgs_cons (pg_name (i := 7) sc_interval_moves.nd rfl (Or.inl rfl)) (pgs_cons (pg_name (i := 8) sc_interval_moves.nd rfl (Or.inl rfl)) pgs_nil)))) (pss_one (ps_expr (k_bm (K := K) rfl PySem.F.plainAttrs_list PySem.F.slot_list_append PySem.F.type_list_append mt_append (k_bm (K := K) rfl PySem.F.plainAttrs_dict PySem.F.slot_dict_setdefault PySem.F.type_dict_setdefault (mt_setdT (rUnits1 hr)) (pv 5) (pa_cons (pe_tup (pa_cons (pv 7) (pa_cons (pv 8) pa_nil))) (pa_cons (pe_lst pa_nil) pa_nil))) (pa_cons (pv 6) pa_nil)))))
    (pss_one (ps_ret (pe_lock (pe_lc rfl sc_interval_moves.nd (pi_itemsT (pv 5)) (blkOk_by (own := [("buckets", 9), ("old", 7), ("new", 8)]) (N := n_interval_moves) (sc := defScope s_interval_moves) (by decide +kernel)) (fun _ _ _ _ _ => by exact (k_tup (K := K) (n := 2) rfl rfl (pgs_cons (k_tup (K := K) (n := 2) rfl rfl (pgs_cons (pg_name (i := 7) sc_interval_moves.nd rfl (Or.inl rfl)) (pgs_cons (pg_name (i := 8) sc_interval_moves.nd rfl (Or.inl rfl)) pgs_nil))) (pgs_cons (pg_name (i := 9) sc_interval_moves.nd rfl (Or.inl rfl)) pgs_nil)))) (fun _ _ _ _ _ => by exact pts_nil) (fun _ _ _ _ _ => by exact (pe_tupN (pa_cons (pv 7) (pa_cons (pv 8) (pa_cons (pe_ix (k_ix (K := K) rfl) (pv 9) pe_int (fun _ _ => rfl)) (pa_cons (pe_callB (k_len (K := K) rfl) rfl T.b_len (by decide +kernel) (pa_cons (pv 9) pa_nil)) pa_nil))))))))))))), run_pure (N := n_interval_moves) (fun ds k d hp => ?_) h⟩)
  obtain ⟨as, cs, os, v, b, rfl, h, g, o, h1, h5, hb, rfl, rfl⟩ := hp
  have a5 : Asg (runL as os) 5 := (runL_asg h o hb).up (by omega)
  have c5 : Asg (runL cs os) 5 := (runL_asg g o hb).up (by omega)
  have l1 := runL_length h o
  have l2 := runL_length g o
  refine q_unp (fun d => d = .tuple [.tuple ((runL as os).map .int), .tuple ((runL cs os).map .int)]) (Ev.n (d_call (k := .v) (a_cons (d_var rfl) (a_cons (d_var rfl) (a_cons (d_var rfl) a_nil))) ⟨as, cs, os, v, b, rfl, h, g, o, h1, h5, hb, rfl, rfl⟩)) ?_
  rintro d rfl
  refine ⟨_, _, _, .inl rfl, by simp [flatAll, flatD, flatAll_ints], rfl, g_cons g_name (g_cons g_name g_nil), ?_⟩
  refine q_group (R := mvR (runL as os) (runL cs os)) rfl (fun s hs => ?_) (fun u => EvI.to (i_seqL (d_call (k := .o) (a_cons (d_var rfl) (a_cons (d_var rfl) a_nil)) ⟨runL as os, runL cs os, rfl, a5, c5, by omega, rfl, rfl⟩) ko_ne) mvR_im) (by have := mvR_len (ns := runL as os) (ms := runL cs os); omega) (.inl rfl)
  simp only [argsG, List.map_cons, List.map_nil, List.length_cons, List.length_nil, List.replicate, List.cons_append, List.nil_append, List.set_cons_succ, List.set_cons_zero, List.mem_cons, List.not_mem_nil, or_false] at hs
  rcases hs with rfl | rfl | rfl | rfl | rfl | rfl | rfl | rfl | rfl | rfl <;> first | exact trivial | exact flatT _

theorem ok_best_order {P : Program} {w : World} {K : PySem.W.Frag} {mg : Str → Option Value} {base : Heap} {f : Addr} {fd : FuncData} (F : Fun K "best_order" "best_order" s_best_order f fd) (T : Txt mg) (c_require : Cal P w K mg base CX0 1 "require" p_require (sp_require K)) (c_steps_of : Cal P w K mg base CX0 1 "steps_of" p_steps_of (sp_steps_of K)) (c_are_allocations : Cal P w K mg base CX0 4 "are_allocations" p_are_allocations (sp_are_allocations74 K)) (c_total : Cal P w K mg base CX0 6 "total" p_total (sp_total K)) (c_interval_churn : Cal P w K mg base CX0 8 "interval_churn" p_interval_churn (sp_interval_churn K)) :
    FnOk P w K mg base CX0 9 f fd p_best_order (sp_best_order K) := by
  refine F.ok sc_best_order (fun vs H Q E h => spD_len h (by rintro ds k d ⟨A, v, b, rfl, _⟩; rfl)) (fun cdv A outer s H vs Q E hr h => ⟨_, (pss_cons (ps_expr (pe_cal c_require (hr.mono (by decide)) rfl pass0 (pa_cons (pe_cal c_are_allocations (hr.mono (by decide)) rfl pass0 (pa_cons (pv 0) (pa_cons (pe_const rfl T.k_MOST_ALLOCATIONS_thresholds) pa_nil))) (pa_cons pe_str pa_nil))))
      (pss_cons (ps_set (i := 1) sc_best_order.nd rfl (Or.inr rfl) (pe_cal c_steps_of (hr.mono (by decide)) rfl pass0 (pa_cons (pv 0) pa_nil)))
      (pss_cons (ps_set (i := 2) sc_best_order.nd rfl (Or.inl rfl) (pe_listPrm rfl rfl T.b_list rfl T.i_permutations (pa_cons (pe_callTy cr_rng1 rfl T.b_range (by decide +kernel) (pa_cons (pe_callB (k_len (K := K) rfl) rfl T.b_len (by decide +kernel) (pa_cons (pe_ix (k_ix (K := K) rfl) (pv 0) pe_int (fun _ _ => rfl)) pa_nil)) pa_nil)) pa_nil)))
      (pss_cons (ps_setLc (i := 3) rfl sc_best_order.nd rfl rfl (sw_true rfl rfl rfl (by decide +kernel)) (k_seq (K := K) rfl (pv 2)) (blkOk_by (own := [("order", 6)]) (N := n_best_order) (sc := defScope s_best_order) (by decide +kernel)) (fun _ _ _ _ _ => by exact (pg_name (i := 6) sc_best_order.nd rfl (Or.inr rfl))) (fun _ _ _ _ _ => by exact pts_nil) (fun _ _ _ _ _ => by exact (pe_callB (k_sum (K := K) rfl rfl) rfl T.b_sum (by decide +kernel) (pa_cons (pe_lc rfl sc_best_order.nd (k_seq (K := K) rfl (pv 1)) (show BlkOk n_best_order (L2.relS _ (defScope s_best_order)) _ [("before", 4), ("after", 5)] from blkOk_by (by decide +kernel)) (fun _ _ _ _ _ => by exact (k_tup (K := K) (n := 2) rfl rfl (pgs_cons (pg_name (i := 4) sc_best_order.nd rfl (Or.inl rfl)) (pgs_cons (pg_name (i := 5) sc_best_order.nd rfl (Or.inl rfl)) pgs_nil)))) (fun _ _ _ _ _ => by exact pts_nil) (fun _ _ _ _ _ => by exact (pe_cal c_interval_churn (hr.mono (by decide)) rfl pass0 (pa_cons (pv 4) (pa_cons (pv 5) (pa_cons (pv 6) pa_nil)))))) pa_nil))))
      (pss_cons (ps_set (i := 7) sc_best_order.nd rfl (Or.inl rfl) (pe_callB (k_min (K := K) rfl rfl) rfl T.b_min (by decide +kernel) (pa_cons (pv 3) pa_nil)))
      (pss_one (ps_ret (pe_tupN (pa_cons (pe_ix (k_ix (K := K) rfl) (pv 2) (k_bm (K := K) rfl PySem.F.plainAttrs_list PySem.F.slot_list_index PySem.F.type_list_index (k_lindex (K := K) rfl (rUnits5 hr)) (pv 3) (pa_cons (pv 7) pa_nil)) (fun _ _ => rfl)) (pa_cons (pv 7) (pa_cons (pe_cal c_total (hr.mono (by decide)) rfl pass0 (pa_cons (pv 0) pa_nil)) pa_nil))))))))))), run_pure (N := n_best_order) (fun ds k d hp => ?_) h⟩)
  obtain ⟨A, v, b, rfl, h, l6, v5', rfl, rfl⟩ := hp
  have v1 := h.v1
  have b20 := h.b20
  have h1 := h.l1
  have l0 := h.len _ (gL_mem (Ls := A) (i := 0) (by omega))
  obtain ⟨n, en⟩ : ∃ n, n = v.toNat := ⟨_, rfl⟩
  rw [← en] at l0 ⊢
  have n6 : n ≤ 6 := by omega
  have sm : (difL n n).length ≤ 46656 := Nat.le_trans (dif_small n6 n6) (Nat.le_trans (Nat.pow_le_pow_right (by decide) n6) (by decide))
  refine q_drop (d_call (k := .v) (d := .none) (a_cons (d_call (k := .v) (d := .bool true) (a_cons (d_var rfl) (a_cons d_int a_nil)) ⟨.tuple (A.map tupD), 6, rfl, by decide, rfl, .inl ⟨A, v, b, rfl, h, by omega, rfl⟩⟩) (a_cons d_str a_nil)) ⟨_, rfl, rfl, rfl⟩) ?_
  refine q_asgO (d := .list ((prs A).map fun p => .tuple [tupD p.1, tupD p.2])) (d_call (k := .o) (a_cons (d_var rfl) a_nil) ⟨A.map tupD, .inl rfl, fl_rows A, by simp; omega, by simp; omega, rfl, (by rw [zipTs_rows])⟩) ?_
  refine q_asgO (d := .list ((difL n n).map plcD)) (e_listPrm (n := n) ((d_lenT (e_ixT (d_var rfl) d_int (at_tup (j := 0) (by omega)) (flatT _))).to (by rw [List.length_map, l0])) n6) ?_
  refine s_freeze (n := 1) rfl ?_
  refine s_freeze (n := 2) rfl ?_
  refine q_asgO (d := .list (((difL n n).map (totO A)).map .int)) (d_lcI (l := difL n n) (en := fun s => Im.d (plcD s)) (totO A) (i_plcs (d_var rfl) kv_ne) (by omega) fun ks hk => ⟨_, _, g_name, fun j hj => hj, .v, ?_⟩) ?_
  · have o := dif_ord hk
    rw [show ((n : Nat) : Int) = v by omega] at o
    exact e_sumL (d_lcI (l := prs A) (en := fun p => .d (.tuple [tupD p.1, tupD p.2])) (fun p => zs ne1 (runL p.1 (castL ks)) (runL p.2 (castL ks))) (i_seqB' (d_var rfl) (fl_prs A) (by rw [List.map_map]; rfl)) (by rw [prs_len]; omega) fun p hp => ⟨_, _, g_tupD rfl (g_cons g_name (g_cons g_name g_nil)), fun j hj => hj, .v, d_call (k := .v) (a_cons (d_var rfl) (a_cons (d_var rfl) (a_cons (d_var rfl) a_nil))) ⟨p.1, p.2, castL ks, v, b, rfl, h.alc _ (prs_mem hp).1, h.alc _ (prs_mem hp).2, o, v1, by omega, b20, rfl, rfl⟩⟩)
  have ne : difL n n ≠ [] := fun z => by
    have := mem_dif (n := n) (k := n) (r := List.range n) (by simp) List.nodup_range fun x hx => List.mem_range.mp hx
    rw [z] at this; cases this
  rcases fmn_spec (totO A) (difL n n) with ⟨_, z⟩ | ⟨j, ks, ef, hj, lt, le⟩
  · exact absurd z ne
  have jl := (List.getElem?_eq_some_iff.mp hj).1
  have hk : ks ∈ difL n n := List.mem_of_getElem? hj
  have mn : mnL ((difL n n).map (totO A)) = totO A ks := mn_is (List.mem_map_of_mem hk) fun x hx => by
    obtain ⟨y, hy, rfl⟩ := List.mem_map.mp hx
    exact le y hy
  refine q_asg (d := .int (totO A ks)) ((e_minL (d_varO rfl) (by rw [List.length_map]; omega)).to (by rw [mn])) ?_
  have eb : bstD A n = .tuple [plcD ks, .int (totO A ks), .int (totA A)] := by unfold bstD; rw [ef]
  rw [eb]
  refine s_ret (d_tup (a_consV (e_ixL (d := plcD ks) (i := (j : Int)) (d_var rfl) (e_indexL (m := j) (z := .int (totO A ks)) (d_varO rfl) (d_var rfl) (shapedL _) (by rfl) (by rw [List.getElem?_map, List.getElem?_map, hj]; rfl) (eqv_rf rfl) fun i z hi hz => ?_) ?_ (flatT _)) (a_consV (d_var rfl) (a_consV (d_call (k := .v) (d := .int (totA A)) (a_cons (d_var rfl) a_nil) ⟨A, v, b, rfl, h, rfl, rfl⟩) a_nil))) (by simp)) (.inr ⟨rfl, ?_⟩) (.inl rfl)
  · rw [List.getElem?_map, List.getElem?_map] at hz
    cases q : (difL n n)[i]? with
    | none => rw [q] at hz; cases hz
    | some x =>
      rw [q] at hz
      have ez : z = .int (totO A x) := (Option.some.inj hz).symm
      subst ez
      rw [Bool.eq_false_iff]
      intro ez
      have := PyData.int.inj ((eqv_pl rfl rfl).mp ez)
      have := lt i hi x q
      omega
  · exact atI_nat (by rw [List.getElem?_map, hj]; rfl)
  · show (flatD (plcD ks) && _) = true
    rw [show flatD (plcD ks) = true from flatT _]
    rfl

theorem ok__law_stream {P : Program} {w : World} {K : PySem.W.Frag} {mg : Str → Option Value} {base : Heap} {f : Addr} {fd : FuncData} (F : Fun K "_law_stream" "_law_stream" s__law_stream f fd) (T : Txt mg) :
    FnOk P w K mg base CX0 1 f fd p__law_stream (sp__law_stream K) := by
  refine F.ok sc__law_stream (fun vs H Q E h => by obtain ⟨a, ns, rfl, _⟩ := h; rfl) (fun cdv A outer s H vs Q E hr h => ⟨_, (pss_one (ps_ret (pe_lst (pa_cons (pe_callTy (k_list (K := K) rfl) rfl T.b_list (by decide +kernel) (pa_cons (pv 0) pa_nil)) (pa_cons pe_int (pa_cons pe_int pa_nil)))))), ?_⟩)
  obtain ⟨a, ns, rfl, hS, hl, k⟩ := h
  refine ⟨_, rfl, a, _, rfl, .inl hS, fun l hl => ⟨(by show 3 ≤ sizeLine; decide), fun st hst => ?_⟩⟩
  have nls : l ≠ st := fun z => by rw [z, upd_same] at hst; cases hst
  have hs0 : H st = none := by rw [← upd_ne (H := H) (o := .lst (ns.map V.int)) nls.symm]; exact hst
  refine k st l _ (fun b o z => ?_) hs0 ⟨ns, 0, 0, upd_same, by rw [upd_ne nls, upd_same], nls, by decide⟩
  rw [upd_ne (ne_of_none z hs0), upd_ne (ne_of_none z hl)]
  exact z

theorem ok__law_next {P : Program} {w : World} {K : PySem.W.Frag} {mg : Str → Option Value} {base : Heap} {f : Addr} {fd : FuncData} (F : Fun K "_law_next" "_law_next" s__law_next f fd) (T : Txt mg) :
    FnOk P w K mg base CX0 1 f fd p__law_next (sp__law_next K) := by
  refine F.ok sc__law_next (fun vs H Q E h => spS_len h (by rintro ds k P ⟨m, rfl, _⟩; rfl)) (fun cdv A outer s H vs Q E hr h => ⟨_, (Evl.pss_cut (ps_if (pt_cmpR (k_eq (K := K) rfl (rUnits hr)) (pe_ix (k_ix (K := K) rfl) (pv 0) pe_int (fun _ _ => rfl)) pe_int (nomark _)) (pss_cons (ps_set (i := 2) sc__law_next.nd rfl (Or.inl rfl) (pe_ix (k_ix (K := K) rfl) (pv 0) pe_int (fun _ _ => rfl)))
      (pss_cons (ps_set (i := 3) sc__law_next.nd rfl (Or.inl rfl) (pe_op (k_add (K := K) rfl) pe_int (pv 2)))
      (Evl.pss_cut (ps_if (pt_cmpR op_lt (pv 2) (pe_callB (k_len (K := K) rfl) rfl T.b_len (by decide +kernel) (pa_cons (pe_ix (k_ix (K := K) rfl) (pv 0) pe_int (fun _ _ => rfl)) pa_nil)) (nomark _)) (pss_one (ps_set (i := 3) sc__law_next.nd rfl (Or.inl rfl) (pe_callB call_abs rfl T.b_abs (by decide +kernel) (pa_cons (pe_ix (k_ix (K := K) rfl) (pe_ix (k_ix (K := K) rfl) (pv 0) pe_int (fun _ _ => rfl)) (pv 2) (fun _ _ => rfl)) pa_nil)))) pss_nil)
      (Evl.pss_cut (ps_if (pt_cmpR op_lt (pv 3) (pe_op op_pow pe_int pe_int) (nomark _)) (pss_cons (ps_set (i := 3) sc__law_next.nd rfl (Or.inl rfl) (pe_op op_mod (pe_callTy call_int1 rfl T.b_int (by decide +kernel) (pa_cons (pe_op (k_add (K := K) rfl) (pe_op (k_add (K := K) rfl) (pe_op op_mulA (pv 3) pe_int) (pe_op op_mulA (pv 2) pe_int)) pe_int) pa_nil)) pe_int))
      (pss_one (ps_set (i := 3) sc__law_next.nd rfl (Or.inl rfl) (pe_op (k_add (K := K) rfl) (pe_op op_mulA (pe_op op_mod (pe_callTy call_int1 rfl T.b_int (by decide +kernel) (pa_cons (pe_op (k_add (K := K) rfl) (pe_op op_mulA (pv 3) pe_int) pe_int) pa_nil)) pe_int) pe_int) (pv 3))))) pss_nil)
      (pss_cons (ps_asg (pv 3) (pg_sub (pv 0) pe_int set_list))
      (pss_one (ps_asg (pe_op (k_add (K := K) rfl) (pv 2) pe_int) (pg_sub (pv 0) pe_int set_list)))))))) pss_nil)
      (pss_cons (ps_set (i := 4) sc__law_next.nd rfl (Or.inl rfl) (pe_op op_mod (pe_callTy call_int1 rfl T.b_int (by decide +kernel) (pa_cons (pe_ix (k_ix (K := K) rfl) (pv 0) pe_int (fun _ _ => rfl)) pa_nil)) (pv 1)))
      (pss_cons (ps_asg (pe_op op_fdiv (pe_ix (k_ix (K := K) rfl) (pv 0) pe_int (fun _ _ => rfl)) (pv 1)) (pg_sub (pv 0) pe_int set_list))
      (pss_one (ps_ret (pv 4)))))), ?_⟩)
  obtain ⟨st, l, vs', ds, kd, P', rfl, hst, hb, ⟨m, rfl, hm, hm2, rfl, rfl⟩, hq⟩ := h
  obtain ⟨mv, rfl, bm⟩ := hb.one
  have em := bm.int'
  subst em
  obtain ⟨ns, x, k, h1, h2, h3, h4⟩ := hst
  -- behind the first if the stream's cell is any int
  refine ⟨fun σ H1 => ∃ (a b c : Option V) (x k : Int), σ = [some (.ref st), some (.int m), a, b, c] ∧ H1 st = some (.lst [.ref l, .int x, .int k]) ∧ H1 l = some (.lst (ns.map V.int)) ∧ 0 ≤ k ∧ ∀ a o, a ≠ st → H a = some o → H1 a = some o, ?_, ?_⟩
  · refine ⟨_, rfl, .inl ⟨st, _, 1, .int x, rfl, rfl, .inl (.inl h1), rfl, .inl ⟨rfl, _, rfl, ?_⟩⟩⟩
    refine ite2 (fun _ => ?_) (fun _ => ⟨_, _, _, x, k, rfl, h1, h2, h4, fun _ _ _ z => z⟩)
    refine ⟨_, rfl, .inl ⟨st, _, 2, .int k, rfl, rfl, .inl (.inl h1), rfl, ?_⟩⟩
    refine ⟨_, rfl, .inl ⟨7, k, rfl, rfl, ?_⟩⟩
    refine ⟨fun σ H1 => H1 = H ∧ ∃ z : Int, σ = [some (.ref st), some (.int m), some (.int k), some (.int z), none], ?_, ?_⟩
    · refine ⟨_, rfl, _, rfl, .inl ⟨st, _, 0, .ref l, rfl, rfl, .inl (.inl h1), rfl, ⟨l, _, rfl, .inl (.inl (.inl h2)), k, _, rfl, rfl, _, rfl, ?_⟩⟩⟩
      refine ite2 (fun hk => ?_) (fun _ => ⟨rfl, _, rfl⟩)
      have hk' : k < (ns.length : Int) := by simpa using of_decide_eq_true hk
      obtain ⟨j, rfl⟩ := Int.eq_ofNat_of_zero_le h4
      have hj : j < ns.length := by omega
      have hat : atI (ns.map V.int) (j : Int) = some (.int ns[j]) := atI_nat (by simp [hj])
      exact ⟨_, rfl, .inl ⟨st, _, 0, .ref l, rfl, rfl, .inl (.inl h1), rfl, _, rfl, .inl ⟨l, _, (j : Int), _, rfl, rfl, .inl (.inl h2), hat, _, rfl, rfl, _, rfl⟩⟩⟩
    · rintro σ H1 ⟨rfl, z, rfl⟩
      refine ⟨fun σ H1' => H1' = H1 ∧ ∃ z : Int, σ = [some (.ref st), some (.int m), some (.int k), some (.int z), none], ?_, ?_⟩
      · refine ⟨_, rfl, 10, 18, rfl, rfl, ⟨by decide, by decide, by decide⟩, z, _, rfl, rfl, _, rfl, ?_⟩
        refine ite2 (fun _ => ?_) (fun _ => ⟨rfl, _, rfl⟩)
        refine ⟨_, rfl, .inl ⟨z, 48271, rfl, rfl, .inr ⟨by decide, by decide⟩, _, rfl, .inl ⟨k, 69621, rfl, rfl, .inr ⟨by decide, by decide⟩, .inl ⟨_, _, rfl, rfl, .inl ⟨_, _, rfl, rfl, .inl ⟨_, rfl, _, _, rfl, rfl, (by show (0 : Int) < 2147483647; decide), ?_⟩⟩⟩⟩⟩⟩
        refine ⟨_, rfl, .inl ⟨_, 16807, rfl, rfl, .inr ⟨by decide, by decide⟩, .inl ⟨_, _, rfl, rfl, .inl ⟨_, rfl, _, _, rfl, rfl, (by show (0 : Int) < 2147483647; decide), .inl ⟨_, 65537, rfl, rfl, .inr ⟨by decide, by decide⟩, _, rfl, .inl ⟨_, _, rfl, rfl, rfl, _, rfl⟩⟩⟩⟩⟩⟩
      · rintro σ H1' ⟨rfl, z, rfl⟩
        refine ⟨_, rfl, _, rfl, st, _, 1, 1, rfl, rfl, h1, rfl, ?_⟩
        refine ⟨_, rfl, .inl ⟨k, 1, rfl, rfl, _, rfl, st, _, 2, 2, rfl, rfl, upd_same, rfl, ?_⟩⟩
        refine ⟨_, _, _, z, k + 1, rfl, upd_same, by rw [upd_ne h3, upd_ne h3]; exact h2, by omega, fun a o na ha => by rw [upd_ne na, upd_ne na]; exact ha⟩
  · rintro σ H1 ⟨a, b, c, x, k, rfl, g1, g2, g4, g5⟩
    refine ⟨_, rfl, .inl ⟨st, _, 1, .int x, rfl, rfl, .inl (.inl g1), rfl, .inl ⟨x, rfl, _, rfl, x, m, rfl, rfl, hm, ?_⟩⟩⟩
    refine ⟨_, rfl, .inl ⟨st, _, 1, .int x, rfl, rfl, .inl (.inl g1), rfl, _, rfl, x, m, rfl, rfl, ⟨hm, hm2⟩, _, rfl, st, _, 1, 1, rfl, rfl, g1, rfl, ?_⟩⟩
    refine ⟨_, rfl, hq _ (.int (x % m)) _ ⟨x % m, rfl, Int.emod_nonneg _ (by omega), Int.emod_lt_of_pos _ hm⟩ ⟨fun a o na ha => ?_, fun _ st' l' e => ?_⟩ ⟨rfl, .int _⟩⟩
    · have : a ≠ st := na st l rfl
      rw [upd_ne this]
      exact g5 a o this ha
    · cases e
      exact Str1.put g2 h3 g4

theorem ok__law_allocation {P : Program} {w : World} {K : PySem.W.Frag} {mg : Str → Option Value} {base : Heap} {f : Addr} {fd : FuncData} (F : Fun K "_law_allocation" "_law_allocation" s__law_allocation f fd) (T : Txt mg) (c__law_next : Cal P w K mg base CX0 1 "_law_next" p__law_next (sp__law_next K)) :
    FnOk P w K mg base CX0 2 f fd p__law_allocation (sp__law_allocation K) := by
  refine F.ok sc__law_allocation (fun vs H Q E h => spS_len h (by rintro ds k P ⟨v, b, rfl, _⟩; rfl)) (fun cdv A outer s H vs Q E hr h => ⟨_, (pss_cons (ps_setLc (i := 3) rfl sc__law_allocation.nd rfl rfl (sw_true rfl rfl rfl (by decide +kernel)) (pi_range1 rfl T.b_range (pa_cons (pv 1) pa_nil)) (blkOk_by (own := [("variant", 4)]) (N := n__law_allocation) (sc := defScope s__law_allocation) (by decide +kernel)) (fun _ _ _ _ _ => by exact (pg_name (i := 4) sc__law_allocation.nd rfl (Or.inl rfl))) (fun _ _ _ _ _ => by exact pts_nil) (fun _ _ _ _ _ => by exact pe_int))
      (pss_cons (ps_for PassesOwn.never rfl (pi_range1 rfl T.b_range (pa_cons (pv 2) pa_nil)) (pg_name (i := 5) sc__law_allocation.nd rfl (Or.inl rfl)) (pss_cons (ps_set (i := 4) sc__law_allocation.nd rfl (Or.inl rfl) (pe_cal c__law_next (hr.mono (by decide)) rfl pass0 (pa_cons (pv 0) (pa_cons (pv 1) pa_nil))))
      (pss_one (ps_asg (pe_op (k_add (K := K) rfl) (pe_ix (k_ix (K := K) rfl) (pv 3) (pv 4) (fun _ _ => rfl)) pe_int) (pg_sub (pv 3) (pv 4) set_list)))))
      (pss_one (ps_ret (pe_callTy (k_tuple (K := K) rfl) rfl T.b_tuple (by decide +kernel) (pa_cons (pv 3) pa_nil)))))), run_str (N := n__law_allocation) (fun st l ds k P' hp => ?_) h⟩)
  obtain ⟨v, b, rfl, h1, h2, h3, h4, rfl, rfl⟩ := hp
  refine q_asgO (d_lcI (fun _ => 0) (i_rng1 (a_cons (d_var rfl) a_nil) (by omega) (by omega)) (by simp [upI]; omega) fun i _ => ⟨_, _, g_name, fun j hj => hj, .v, d_int⟩) ?_
  refine q_for (i_rng1 (a_cons (d_var rfl) a_nil) (by omega) (by omega))
    (fun n Γ1 => ∃ ns t4 t5, Γ1 = [some (.r (.ref st)), some (.v (.int v)), some (.v (.int b)), some (.o (.list (ns.map .int))), t4, t5] ∧ Alc ns v n) ⟨_, _, _, rfl, alc0 (by omega)⟩ (fun n a Γ1 hn' hI => ?_) (fun Γ1 hI => ?_)
  · obtain ⟨ns, t4, t5, rfl, ha⟩ := hI
    obtain ⟨i, rfl, hi1, hi2⟩ := upI_get hn'
    refine ⟨_, _, g_name, q_asgN _ (n_call (st := st) (l := l) rfl rfl (a_cons (d_var rfl) a_nil) ⟨v, rfl, by omega, by omega, rfl, rfl⟩) ?_⟩
    rintro d ⟨x, rfl, hx0, hx1⟩
    obtain ⟨m, rfl⟩ := Int.eq_ofNat_of_zero_le hx0
    have hm : m < ns.length := by have := ha.len; omega
    have hg : (ns.map PyData.int)[m]? = some (.int (ns.getD m 0)) := by simp [hm]
    exact s_setII rfl (e_add (e_ixL (d_varO rfl) (d_var rfl) (atI_nat hg) rfl) d_int) (d_var rfl) rfl hm (.inl ⟨_, .inl rfl, ns.set m (ns.getD m 0 + 1), _, _, rfl, ha.one hm⟩)
  · obtain ⟨ns, t4, t5, rfl, ha⟩ := hI
    have hb : (b.toNat : Int) = b := by omega
    refine s_ret (d_tuple (d_varO rfl) (flatAll_ints _)) (.inr ⟨rfl, flatT _⟩) ⟨_, rfl, ns, rfl, ?_⟩
    simpa [upI, hb] using ha

theorem ok__law_order {P : Program} {w : World} {K : PySem.W.Frag} {mg : Str → Option Value} {base : Heap} {f : Addr} {fd : FuncData} (F : Fun K "_law_order" "_law_order" s__law_order f fd) (T : Txt mg) (c__law_next : Cal P w K mg base CX0 1 "_law_next" p__law_next (sp__law_next K)) :
    FnOk P w K mg base CX0 2 f fd p__law_order (sp__law_order K) := by
  refine F.ok sc__law_order (fun vs H Q E h => spS_len h (by rintro ds k P ⟨m, rfl, _⟩; rfl)) (fun cdv A outer s H vs Q E hr h => ⟨_, (pss_cons (ps_set (i := 2) sc__law_order.nd rfl (Or.inl rfl) (pe_listRg rfl rfl T.b_list (prg_1 rfl T.b_range (pv 1))))
      (pss_cons (ps_set (i := 3) sc__law_order.nd rfl (Or.inl rfl) (pe_lst pa_nil))
      (pss_cons (ps_for PassesOwn.never rfl (pi_range1 rfl T.b_range (pa_cons (pv 1) pa_nil)) (pg_name (i := 4) sc__law_order.nd rfl (Or.inl rfl)) (pss_one (ps_expr (k_bm (K := K) rfl PySem.F.plainAttrs_list PySem.F.slot_list_append PySem.F.type_list_append mt_append (pv 3) (pa_cons (k_bm (K := K) rfl PySem.F.plainAttrs_list PySem.F.slot_list_pop PySem.F.type_list_pop mt_popAt (pv 2) (pa_cons (pe_cal c__law_next (hr.mono (by decide)) rfl pass0 (pa_cons (pv 0) (pa_cons (pe_callB (k_len (K := K) rfl) rfl T.b_len (by decide +kernel) (pa_cons (pv 2) pa_nil)) pa_nil))) pa_nil)) pa_nil)))))
      (pss_one (ps_ret (pe_callTy (k_tuple (K := K) rfl) rfl T.b_tuple (by decide +kernel) (pa_cons (pv 3) pa_nil))))))), run_str (N := n__law_order) (fun st l ds k P' hp => ?_) h⟩)
  obtain ⟨m, rfl, h0, h1, rfl, rfl⟩ := hp
  refine q_asgO (e_listRg (d_var rfl) h0 (by omega)) ?_
  refine q_asgO (d_lst (kv := false) (ds := []) a_nil rfl (by decide)) ?_
  refine q_for (i_rng1 (a_cons (d_var rfl) a_nil) (by omega) (by omega))
    (fun n Γ1 => ∃ (left acc : List Int) (t4 : Option Rs), Γ1 = [some (.r (.ref st)), some (.v (.int m)), some (.o (.list (left.map .int))), some (.o (.list (acc.map .int))), t4] ∧ acc.length = n ∧ (acc ++ left).Perm (upI 0 m.toNat)) ⟨upI 0 m.toNat, [], _, rfl, rfl, by simp⟩ (fun n a Γ1 hn' hI => ?_) (fun Γ1 hI => ?_)
  · obtain ⟨left, acc, t4, rfl, hl, hp⟩ := hI
    obtain ⟨hnm, rfl⟩ := upI_at hn'
    have pl := hp.length_eq
    rw [List.length_append] at pl
    simp [upI] at pl
    refine ⟨_, _, g_name, s_popApp (Q := fun i => 0 ≤ i ∧ i < ((left.map PyData.int).length : Nat)) rfl rfl (by decide) (flatAll_ints _) (flatAll_ints _) (n_call (st := st) (l := l) rfl rfl (a_cons (d_lenL (d_varO rfl)) a_nil) ⟨_, rfl, by simp; omega, by simp; omega, rfl, rfl⟩) (fun i hi => hi) (by simp; omega) (by simp; omega) fun i d qi hd => ?_⟩
    obtain ⟨i0, i1⟩ := qi
    have hk : i.toNat < left.length := by simp at i1; omega
    rw [List.getElem?_map, List.getElem?_eq_getElem hk] at hd
    have e := (Option.some.inj hd).symm
    subst e
    refine .inl ⟨_, .inl rfl, left.eraseIdx i.toNat, acc ++ [left[i.toNat]], some (.v (.int (n : Int))), ?_, by simp [hl], ?_⟩
    · rw [List.map_append, erase_map]
      rfl
    · rw [List.append_assoc]
      exact (List.Perm.append_left acc (erase_perm left i.toNat hk)).trans hp
  · obtain ⟨left, acc, t4, rfl, hl, hp⟩ := hI
    have e : ((upI 0 m.toNat).map fun i => Im.d (.int i)).length = m.toNat := by simp [upI]
    rw [e] at hl
    have pl := hp.length_eq
    rw [List.length_append] at pl
    simp [upI] at pl
    have : left = [] := List.eq_nil_of_length_eq_zero (by omega)
    subst this
    rw [List.append_nil] at hp
    exact s_ret (d_tuple (d_varO rfl) (flatAll_ints _)) (.inr ⟨rfl, flatT _⟩) ⟨_, rfl, acc, rfl, ord_of_perm h0 hp⟩

theorem ok__law_wrong_first {P : Program} {w : World} {K : PySem.W.Frag} {mg : Str → Option Value} {base : Heap} {f : Addr} {fd : FuncData} (F : Fun K "_law_wrong_first" "_law_wrong_first" s__law_wrong_first f fd) (T : Txt mg) (c__law_next : Cal P w K mg base CX0 1 "_law_next" p__law_next (sp__law_next K)) :
    FnOk P w K mg base CX0 2 f fd p__law_wrong_first (sp__law_wrong_first K) := by
  refine F.ok sc__law_wrong_first (fun vs H Q E h => spS_len h (by rintro ds k P ⟨rfl, _⟩; rfl)) (fun cdv A outer s H vs Q E hr h => ⟨_, (pss_cons (ps_set (i := 1) sc__law_wrong_first.nd rfl (Or.inl rfl) (pe_lst (pa_cons pe_non (pa_cons (pe_tupN pa_nil) (pa_cons (pe_tupN (pa_cons pe_int pa_nil)) (pa_cons (pe_tupN (pa_cons pe_int (pa_cons pe_int pa_nil))) (pa_cons (pe_op (k_repU (K := K) rfl) (pe_tupN (pa_cons pe_int pa_nil)) pe_int) (pa_cons (pe_tupN (pa_cons pe_int (pa_cons (pe_un un_neg pe_int) pa_nil))) (pa_cons (pe_tupN (pa_cons pe_bl (pa_cons pe_int pa_nil))) (pa_cons (pe_lst (pa_cons pe_int (pa_cons pe_int pa_nil))) (pa_cons (pe_tupN (pa_cons pe_int (pa_cons pe_str pa_nil))) (pa_cons pe_int pa_nil))))))))))))
      (pss_one (ps_ret (pe_ix (k_ix (K := K) rfl) (pv 1) (pe_cal c__law_next (hr.mono (by decide)) rfl pass0 (pa_cons (pv 0) (pa_cons (pe_callB (k_len (K := K) rfl) rfl T.b_len (by decide +kernel) (pa_cons (pv 1) pa_nil)) pa_nil))) (fun _ _ => rfl))))), run_str (N := n__law_wrong_first) (fun st l ds k P' hp => ?_) h⟩)
  obtain ⟨rfl, rfl, rfl⟩ := hp
  refine q_asg (e_lstV (ds := [.none, .tuple [], tupD [21], tupD [11, 10], tupD [1, 1, 1, 1, 1, 1], tupD [1, -1], .tuple [.bool true, .int 1], .list [.int 1, .int 1], .tuple [.int 1, .str (Str.ofString "1")], .int 3])
    (a_consV d_non (a_consV (d_tup (ds := []) a_nil (by simp)) (a_consV (d_tup (ds := [21].map .int) (a_consV d_int a_nil) (by simp)) (a_consV (d_tup (ds := [11, 10].map .int) (a_consV d_int (a_consV d_int a_nil)) (by simp)) (a_consV (Ev.to (e_repT (d_tup (a_consV d_int a_nil) (by simp)) (by simp) d_int (by decide) (by decide) (by simp)) rfl) (a_consV (d_tup (ds := [1, -1].map .int) (a_consV d_int (a_consV (e_neg d_int) a_nil)) (by simp)) (a_consV (d_tup (a_consV d_bl (a_consV d_int a_nil)) (by simp)) (a_consV (e_lstV (a_consV d_int (a_consV d_int a_nil)) (by simp)) (a_consV (d_tup (a_consV d_int (a_consV d_str a_nil)) (by simp)) (a_consV d_int a_nil)))))))))) (by simp)) ?_
  refine s_retB (x := (st, l)) (fun d => SmallT d ∧ balB d = false) rfl (n_ixLV (Q := fun i => 0 ≤ i ∧ i < ((10 : Nat) : Int)) (d_var rfl) (n_call (st := st) (l := l) rfl rfl (a_cons (d_lenL (d_var rfl)) a_nil) ⟨10, rfl, by decide, by decide, rfl, rfl⟩) (pickL rfl fun d hd => ?_)) (fun d hd => ⟨d, rfl, hd⟩)
  simp only [List.mem_cons, List.not_mem_nil, or_false] at hd
  exact wr1 hd

theorem ok__law_wrong_second {P : Program} {w : World} {K : PySem.W.Frag} {mg : Str → Option Value} {base : Heap} {f : Addr} {fd : FuncData} (F : Fun K "_law_wrong_second" "_law_wrong_second" s__law_wrong_second f fd) (T : Txt mg) (c__law_next : Cal P w K mg base CX0 1 "_law_next" p__law_next (sp__law_next K)) :
    FnOk P w K mg base CX0 2 f fd p__law_wrong_second (sp__law_wrong_second K) := by
  refine F.ok sc__law_wrong_second (fun vs H Q E h => spS_len h (by rintro ds k P ⟨as, v, rfl, _⟩; rfl)) (fun cdv A outer s H vs Q E hr h => ⟨_, (pss_cons (ps_set (i := 2) sc__law_wrong_second.nd rfl (Or.inl rfl) (pe_lst (pa_cons pe_non (pa_cons (pe_tupN pa_nil) (pa_cons (pe_op (k_add (K := K) rfl) (pv 1) (pe_tupN (pa_cons pe_int pa_nil))) (pa_cons (pe_op (k_add (K := K) rfl) (pe_slice (k_slT (K := K) rfl) (pv 1) po_none (po_some (pe_un un_neg pe_int))) (pe_tupN (pa_cons (pe_op (k_add (K := K) rfl) (pe_ix (k_ix (K := K) rfl) (pv 1) (pe_un un_neg pe_int) (fun _ _ => rfl)) pe_int) pa_nil))) (pa_cons (pe_callTy (k_list (K := K) rfl) rfl T.b_list (by decide +kernel) (pa_cons (pv 1) pa_nil)) (pa_cons (pe_op (k_add (K := K) rfl) (pe_tupN (pa_cons (pe_op (k_add (K := K) rfl) (pe_callB (k_sum (K := K) rfl rfl) rfl T.b_sum (by decide +kernel) (pa_cons (pv 1) pa_nil)) pe_int) (pa_cons (pe_un un_neg pe_int) pa_nil))) (pe_op (k_repU (K := K) rfl) (pe_tupN (pa_cons pe_int pa_nil)) (pe_op op_sub (pe_callB (k_len (K := K) rfl) rfl T.b_len (by decide +kernel) (pa_cons (pv 1) pa_nil)) pe_int))) pa_nil))))))))
      (pss_one (ps_ret (pe_ix (k_ix (K := K) rfl) (pv 2) (pe_cal c__law_next (hr.mono (by decide)) rfl pass0 (pa_cons (pv 0) (pa_cons (pe_callB (k_len (K := K) rfl) rfl T.b_len (by decide +kernel) (pa_cons (pv 2) pa_nil)) pa_nil))) (fun _ _ => rfl))))), run_str (N := n__law_wrong_second) (fun st l ds k P' hp => ?_) h⟩)
  obtain ⟨as, v, rfl, ha, v3, v5, rfl, rfl⟩ := hp
  have la := ha.len
  obtain ⟨ini, z, rfl⟩ : ∃ ini z, as = ini ++ [z] := by
    rcases List.eq_nil_or_concat as with e | ⟨ini, z, e⟩
    · rw [e] at la; simp at la; omega
    · exact ⟨ini, z, by rw [e, List.concat_eq_append]⟩
  have ha2 := ha
  have cut : ∀ {Γ : List (Option Rs)}, Γ[1]? = some (some (.v (tupD (ini ++ [z])))) → Ev (sc K st l) (tSl (rSlN K) (tVar 1) tNoPart (tPart (tUn (rU fun i => .int (-i)) (tC (.int 1))))) Γ .v (.tuple (ini.map .int)) := fun h => Ev.to (e_sl (d_var h) o_none (o_some (e_neg d_int))) (by rw [show (-(1 : Int)) = -1 from rfl, cutD_last, List.map_append]; simp)
  have lst : ∀ {Γ : List (Option Rs)}, Γ[1]? = some (some (.v (tupD (ini ++ [z])))) → Ev (sc K st l) (tOp (rIx K) (tVar 1) (tUn (rU fun i => .int (-i)) (tC (.int 1)))) Γ .v (.int z) := fun h => e_ixT (d_var h) (e_neg d_int) (by rw [List.map_append]; exact at_lastI _ _) rfl
  refine q_asg (e_lstV (ds := [.none, .tuple [], tupD (ini ++ [z] ++ [0]), tupD (ini ++ [z + 1]), .list ((ini ++ [z]).map .int), tupD ([21, -1] ++ zr (v - 2))])
    (a_consV d_non (a_consV (d_tup (ds := []) a_nil (by simp)) (a_consV (Ev.to (e_catT (d_var rfl) (d_tup (a_consV d_int a_nil) (by simp)) (by simp at la ⊢; omega)) (by rw [show [PyData.int 0] = [(0 : Int)].map PyData.int from rfl, ← List.map_append])) (a_consV (Ev.to (e_catT (cut rfl) (d_tup (a_consV (e_add (lst rfl) d_int) a_nil) (by simp)) (by simp at la ⊢; omega)) (by rw [show [PyData.int (z + 1)] = [z + 1].map PyData.int from rfl, ← List.map_append])) (a_consV (Ev.frz (e_listT (d_var rfl) (flatAll_ints _))) (a_consV (Ev.to (e_catT (d_tup (ds := [.int 21, .int (-1)]) (a_consV (Ev.to (e_add (e_sumT (d_var rfl)) d_int) (by rw [ha2.sum]; rfl)) (a_consV (e_neg d_int) a_nil)) (by simp)) (e_repT (i := (v : Int) - 2) (d_tup (a_consV d_int a_nil) (by simp)) (by simp) (d_sub (Ev.to (d_lenT (d_var rfl)) (y := .int (v : Int)) (by rw [List.length_map, la])) d_int) (by omega) (by omega) (by simp)) (by rw [rep_flat]; simp; omega)) (by rw [rep_flat, show ((v : Int) - 2).toNat = v - 2 by omega]; simp [zr])) a_nil)))))) (by simp)) ?_
  refine s_retB (x := (st, l)) (fun d => SmallT d ∧ isAlloc d (v : Int) 20 = false) rfl (n_ixLV (Q := fun i => 0 ≤ i ∧ i < ((6 : Nat) : Int)) (d_var rfl) (n_call (st := st) (l := l) rfl rfl (a_cons (d_lenL (d_var rfl)) a_nil) ⟨6, rfl, by decide, by decide, rfl, rfl⟩) (pickL rfl fun d hd => ?_)) (fun d hd => ⟨d, rfl, hd⟩)
  simp only [List.mem_cons, List.not_mem_nil, or_false] at hd
  exact wr2 ha v3 v5 hd

theorem ok__law_wrong_order {P : Program} {w : World} {K : PySem.W.Frag} {mg : Str → Option Value} {base : Heap} {f : Addr} {fd : FuncData} (F : Fun K "_law_wrong_order" "_law_wrong_order" s__law_wrong_order f fd) (T : Txt mg) (c__law_next : Cal P w K mg base CX0 1 "_law_next" p__law_next (sp__law_next K)) :
    FnOk P w K mg base CX0 2 f fd p__law_wrong_order (sp__law_wrong_order K) := by
  refine F.ok sc__law_wrong_order (fun vs H Q E h => spS_len h (by rintro ds k P ⟨v, rfl, _⟩; rfl)) (fun cdv A outer s H vs Q E hr h => ⟨_, (pss_cons (ps_set (i := 2) sc__law_wrong_order.nd rfl (Or.inl rfl) (pe_tupRn rfl rfl T.b_tuple (prg_1 rfl T.b_range (pv 1))))
      (pss_cons (ps_set (i := 3) sc__law_wrong_order.nd rfl (Or.inl rfl) (pe_lst (pa_cons pe_non (pa_cons (pe_slice (k_slT (K := K) rfl) (pv 2) po_none (po_some (pe_un un_neg pe_int))) (pa_cons (pe_op (k_add (K := K) rfl) (pv 2) (pe_tupN (pa_cons (pv 1) pa_nil))) (pa_cons (pe_op (k_add (K := K) rfl) (pe_tupN (pa_cons pe_int pa_nil)) (pe_slice (k_slT (K := K) rfl) (pv 2) po_none (po_some (pe_un un_neg pe_int)))) (pa_cons (pe_op (k_add (K := K) rfl) (pe_slice (k_slT (K := K) rfl) (pv 2) po_none (po_some (pe_un un_neg pe_int))) (pe_tupN (pa_cons (pv 1) pa_nil))) (pa_cons (pe_callTy (k_list (K := K) rfl) rfl T.b_list (by decide +kernel) (pa_cons (pv 2) pa_nil)) (pa_cons (pe_op (k_add (K := K) rfl) (pe_slice (k_slT (K := K) rfl) (pv 2) po_none (po_some (pe_un un_neg pe_int))) (pe_tupN (pa_cons pe_bl pa_nil))) (pa_cons (pe_op (k_add (K := K) rfl) (pe_tupN (pa_cons (pe_un un_neg pe_int) pa_nil)) (pe_slice (k_slT (K := K) rfl) (pv 2) (po_some pe_int) po_none)) pa_nil))))))))))
      (pss_one (ps_ret (pe_ix (k_ix (K := K) rfl) (pv 3) (pe_cal c__law_next (hr.mono (by decide)) rfl pass0 (pa_cons (pv 0) (pa_cons (pe_callB (k_len (K := K) rfl) rfl T.b_len (by decide +kernel) (pa_cons (pv 3) pa_nil)) pa_nil))) (fun _ _ => rfl)))))), run_str (N := n__law_wrong_order) (fun st l ds k P' hp => ?_) h⟩)
  obtain ⟨v, rfl, v3, v5, rfl, rfl⟩ := hp
  refine q_asg (d := tupD (upI 0 v)) (Ev.to (e_tupRg (i := (v : Int)) (d_var rfl) (by omega) (by omega)) (by rw [Int.toNat_natCast])) ?_
  have ul : ∀ n, (upI 0 n).length = n := fun n => by simp [upI]
  have eu : upI 0 v = upI 0 (v - 1) ++ [((v - 1 : Nat) : Int)] := by
    have : v = (v - 1) + 1 := by omega
    unfold upI
    rw [this, List.range_succ, List.map_append]
    simp
  have cut : ∀ {Γ : List (Option Rs)}, Γ[2]? = some (some (.v (tupD (upI 0 v)))) → Ev (sc K st l) (tSl (rSlN K) (tVar 2) tNoPart (tPart (tUn (rU fun i => .int (-i)) (tC (.int 1))))) Γ .v (.tuple ((upI 0 (v - 1)).map .int)) := fun h => Ev.to (e_sl (d_var h) o_none (o_some (e_neg d_int))) (by rw [show (-(1 : Int)) = -1 from rfl, cutD_last, eu, List.map_append]; simp)
  have drp : ∀ {Γ : List (Option Rs)}, Γ[2]? = some (some (.v (tupD (upI 0 v)))) → Ev (sc K st l) (tSl (rSlN K) (tVar 2) (tPart (tC (.int 1))) tNoPart) Γ .v (.tuple (((upI 0 v).drop 1).map .int)) := fun h => Ev.to (e_sl (d_var h) (o_some d_int) o_none) (by rw [show (some (1 : Int)) = some ((1 : Nat) : Int) from rfl, cutD_lo (by rw [List.length_map, ul]; omega), List.map_drop])
  refine q_asg (e_lstV (ds := [.none, tupD (upI 0 (v - 1)), tupD (upI 0 v ++ [(v : Int)]), tupD (0 :: upI 0 (v - 1)), tupD (upI 0 (v - 1) ++ [(v : Int)]), .list ((upI 0 v).map .int), .tuple ((upI 0 (v - 1)).map .int ++ [.bool true]), tupD (-1 :: (upI 0 v).drop 1)])
    (a_consV d_non (a_consV (cut rfl) (a_consV (Ev.to (e_catT (d_var rfl) (d_tup (a_consV (d_var rfl) a_nil) (by simp)) (by simp [upI]; omega)) (by rw [show [PyData.int (v : Int)] = [(v : Int)].map PyData.int from rfl, ← List.map_append])) (a_consV (Ev.to (e_catT (d_tup (a_consV d_int a_nil) (by simp)) (cut rfl) (by simp [upI]; omega)) rfl) (a_consV (Ev.to (e_catT (cut rfl) (d_tup (a_consV (d_var rfl) a_nil) (by simp)) (by simp [upI]; omega)) (by rw [show [PyData.int (v : Int)] = [(v : Int)].map PyData.int from rfl, ← List.map_append])) (a_consV (Ev.frz (e_listT (d_var rfl) (flatAll_ints _))) (a_consV (e_catT (cut rfl) (d_tup (a_consV d_bl a_nil) (by simp)) (by simp [upI]; omega)) (a_consV (Ev.to (e_catT (d_tup (a_consV (e_neg d_int) a_nil) (by simp)) (drp rfl) (by simp [upI]; omega)) rfl) a_nil)))))))) (by simp)) ?_
  refine s_retB (x := (st, l)) (fun d => SmallT d ∧ isOrdB d (v : Int) = false) rfl (n_ixLV (Q := fun i => 0 ≤ i ∧ i < ((8 : Nat) : Int)) (d_var rfl) (n_call (st := st) (l := l) rfl rfl (a_cons (d_lenL (d_var rfl)) a_nil) ⟨8, rfl, by decide, by decide, rfl, rfl⟩) (pickL rfl fun d hd => ?_)) (fun d hd => ⟨d, rfl, hd⟩)
  simp only [List.mem_cons, List.not_mem_nil, or_false] at hd
  exact wr3 v3 v5 hd

theorem ok__law_wrong_series {P : Program} {w : World} {K : PySem.W.Frag} {mg : Str → Option Value} {base : Heap} {f : Addr} {fd : FuncData} (F : Fun K "_law_wrong_series" "_law_wrong_series" s__law_wrong_series f fd) (T : Txt mg) (c__law_next : Cal P w K mg base CX0 1 "_law_next" p__law_next (sp__law_next K)) :
    FnOk P w K mg base CX0 2 f fd p__law_wrong_series (sp__law_wrong_series K) := by
  refine F.ok sc__law_wrong_series (fun vs H Q E h => spS_len h (by rintro ds k P ⟨as, v, rfl, _⟩; rfl)) (fun cdv A outer s H vs Q E hr h => ⟨_, (pss_cons (ps_set (i := 2) sc__law_wrong_series.nd rfl (Or.inl rfl) (pe_lst (pa_cons pe_non (pa_cons (pe_tupN pa_nil) (pa_cons (pe_lst (pa_cons (pv 1) pa_nil)) (pa_cons (pe_op (k_repU (K := K) rfl) (pe_tupN (pa_cons (pv 1) pa_nil)) pe_int) (pa_cons (pe_tupN (pa_cons (pv 1) (pa_cons (pe_op (k_add (K := K) rfl) (pv 1) (pe_tupN (pa_cons pe_int pa_nil))) pa_nil))) (pa_cons (pe_tupN (pa_cons (pv 1) (pa_cons (pe_op (k_add (K := K) rfl) (pe_slice (k_slT (K := K) rfl) (pv 1) po_none (po_some (pe_un un_neg pe_int))) (pe_tupN (pa_cons (pe_op (k_add (K := K) rfl) (pe_ix (k_ix (K := K) rfl) (pv 1) (pe_un un_neg pe_int) (fun _ _ => rfl)) pe_int) pa_nil))) pa_nil))) (pa_cons (pe_tupN (pa_cons (pe_tupN (pa_cons pe_int pa_nil)) pa_nil)) (pa_cons (pe_tupN (pa_cons (pe_tupN pa_nil) pa_nil)) (pa_cons (pv 1) (pa_cons (pe_tupN (pa_cons (pe_lst (pa_cons pe_int (pa_cons pe_int pa_nil))) pa_nil)) pa_nil))))))))))))
      (pss_one (ps_ret (pe_ix (k_ix (K := K) rfl) (pv 2) (pe_cal c__law_next (hr.mono (by decide)) rfl pass0 (pa_cons (pv 0) (pa_cons (pe_callB (k_len (K := K) rfl) rfl T.b_len (by decide +kernel) (pa_cons (pv 2) pa_nil)) pa_nil))) (fun _ _ => rfl))))), run_str (N := n__law_wrong_series) (fun st l ds k P' hp => ?_) h⟩)
  obtain ⟨as, v, rfl, ha, v3, v5, rfl, rfl⟩ := hp
  have la := ha.len
  obtain ⟨ini, z, rfl⟩ : ∃ ini z, as = ini ++ [z] := by
    rcases List.eq_nil_or_concat as with e | ⟨ini, z, e⟩
    · rw [e] at la; simp at la; omega
    · exact ⟨ini, z, by rw [e, List.concat_eq_append]⟩
  have cut : ∀ {Γ : List (Option Rs)}, Γ[1]? = some (some (.v (tupD (ini ++ [z])))) → Ev (sc K st l) (tSl (rSlN K) (tVar 1) tNoPart (tPart (tUn (rU fun i => .int (-i)) (tC (.int 1))))) Γ .v (.tuple (ini.map .int)) := fun h => Ev.to (e_sl (d_var h) o_none (o_some (e_neg d_int))) (by rw [show (-(1 : Int)) = -1 from rfl, cutD_last, List.map_append]; simp)
  have lst : ∀ {Γ : List (Option Rs)}, Γ[1]? = some (some (.v (tupD (ini ++ [z])))) → Ev (sc K st l) (tOp (rIx K) (tVar 1) (tUn (rU fun i => .int (-i)) (tC (.int 1)))) Γ .v (.int z) := fun h => e_ixT (d_var h) (e_neg d_int) (by rw [List.map_append]; exact at_lastI _ _) rfl
  refine q_asg (e_lstV (ds := [.none, .tuple [], .list [tupD (ini ++ [z])], .tuple (List.replicate 7 (tupD (ini ++ [z]))), .tuple [tupD (ini ++ [z]), tupD (ini ++ [z] ++ [0])], .tuple [tupD (ini ++ [z]), tupD (ini ++ [z + 1])], .tuple [tupD [21]], .tuple [.tuple []], tupD (ini ++ [z]), .tuple [.list [.int 1, .int 1]]])
    (a_consV d_non (a_consV (d_tup (ds := []) a_nil (by simp)) (a_consV (e_lstV (a_consV (d_var rfl) a_nil) (by simp)) (a_consV (Ev.to (e_repT (d_tup (a_consV (d_var rfl) a_nil) (by simp)) (by simp) d_int (by decide) (by decide) (by simp)) (by rw [rep_flat]; rfl)) (a_consV (d_tup (a_consV (d_var rfl) (a_consV (Ev.to (e_catT (d_var rfl) (d_tup (a_consV d_int a_nil) (by simp)) (by simp at la ⊢; omega)) (by rw [show [PyData.int 0] = [(0 : Int)].map PyData.int from rfl, ← List.map_append])) a_nil)) (by simp)) (a_consV (d_tup (a_consV (d_var rfl) (a_consV (Ev.to (e_catT (cut rfl) (d_tup (a_consV (e_add (lst rfl) d_int) a_nil) (by simp)) (by simp at la ⊢; omega)) (by rw [show [PyData.int (z + 1)] = [z + 1].map PyData.int from rfl, ← List.map_append])) a_nil)) (by simp)) (a_consV (d_tup (a_consV (d_tup (ds := [21].map .int) (a_consV d_int a_nil) (by simp)) a_nil) (by simp)) (a_consV (d_tup (a_consV (d_tup (ds := []) a_nil (by simp)) a_nil) (by simp)) (a_consV (d_var rfl) (a_consV (d_tup (a_consV (e_lstV (a_consV d_int (a_consV d_int a_nil)) (by simp)) a_nil) (by simp)) a_nil)))))))))) (by simp)) ?_
  refine s_retB (x := (st, l)) (fun d => NoSr d 6) rfl (n_ixLV (Q := fun i => 0 ≤ i ∧ i < ((10 : Nat) : Int)) (d_var rfl) (n_call (st := st) (l := l) rfl rfl (a_cons (d_lenL (d_var rfl)) a_nil) ⟨10, rfl, by decide, by decide, rfl, rfl⟩) (pickL rfl fun d hd => ?_)) (fun d hd => ⟨d, rfl, hd⟩)
  simp only [List.mem_cons, List.not_mem_nil, or_false] at hd
  exact wr4 ha v3 v5 hd

theorem ok_ini_BadValue {P : Program} {w : World} {K : PySem.W.Frag} {mg : Str → Option Value} {base : Heap} {f C cc cda : Addr} {kV doc pm ct oc cl ccl : Value} {an od cdd cld : Option Addr} {osl csl ccs : Array (Option Value)} {vs : Array Value} {file : Str} {tf : Tok}
    (lk : K.lookup f = some ⟨oc, od, .func (PySem.W.ksFn "__init__" "BadValue.__init__" (defArgs s_ini_BadValue) (defBody s_ini_BadValue) (defScope s_ini_BadValue) .none kV doc pm an (.ref cda) ct cc), osl⟩)
    (hcd : PySem.W.codeIn K (.ref cda) "BadValue.__init__" = true) (hcode : K.lookup cda = some ⟨ccl, cdd, .fields vs, ccs⟩) (hvs : vs[2]? = some (.str file tf)) (hfile : ((P.main.file : Str) == file) = true) (hcell : K.lookup cc = some ⟨cl, cld, .cell (some (.ref C)), csl⟩)
    (O : OexC K C) (hno : PySem.W.findIn K (.ref C) "name" = some none) (hsuper : mg "super" = none) (hsub : PySem.W.subIn K (.ref C) (.type "ValueError") = some true) (hop : PySem.W.nsIn K cStatics "thirdparty.any" = some none)
    (hm : PySem.W.ks_superIn K C C "__init__" = some (some (.builtin "ValueError.__init__"))) (htop : (P.main.scope.names.lookup ("super" : Str)).isSome = false) :
    FnOk P w K mg base (L2.CX P w) 1 f (PySem.W.ksFn "__init__" "BadValue.__init__" (defArgs s_ini_BadValue) (defBody s_ini_BadValue) (defScope s_ini_BadValue) .none kV doc pm an (.ref cda) ct cc) ["self", "name"] (spIni C "name") :=
  fn_super (k := 0) (N := ["self", "name"]) (ps := ["self", "name"]) lk hcd ⟨rfl, rfl, rfl, by decide +kernel, rfl, by decide +kernel, by decide +kernel, by decide +kernel, rfl, rfl⟩ rfl rfl hcode hvs hfile hcell O hsuper hsub hop hm htop (fun vs H Q E h => by obtain ⟨a, nm, rfl, _⟩ := h; rfl)
    (fun A outer s H vs Q E hr h => by
      obtain ⟨a, nm, rfl, hz, ha, hq⟩ := h
      exact ⟨a, [.str nm], _, _, rfl, ha, pe_joined (PJ.cons pe_str (PJ.cons (pe_fmt (pv 1)) PJ.nil)), pss_one (ps_ost (pv 0) (pv 1)), run_ini (Q := Q) (by decide) hz O hno rfl rfl ha hq⟩)
end W

namespace W
open PySem PySem.Spec PyProof.Rows L2 Lm
theorem ok_requireX {P : Program} {w : World} {K : PySem.W.Frag} {mg : Str → Option Value} {base : Heap} {f C : Addr} {fd : FuncData} (F : Fun K "require" "require" s_require f fd) (T : Txt mg) (X : Exc1 P w K mg base "BadValue" "name" C) :
    FnOk P w K mg base (L2.CX P w) 4 f fd p_require (spReq C) := by
  obtain ⟨fI, fdI, iC, tI, F1, hb⟩ := X.ini
  refine F.okX sc_require (fun vs H Q E h => by obtain ⟨b, nm, rfl, _⟩ := h; rfl) (fun cdv A outer s H vs Q E hr h => ⟨_, (pss_one (ps_if (pt_not (pt_val (pv 0))) (pss_one (ps_raise rfl (takes_of rfl rfl rfl rfl) (pmk_oex X.O iC tI F1 (hr.mono (by decide)) hb .nil passL rfl X.hC (pa_cons (pv 1) pa_nil)))) pss_nil)), ?_⟩)
  obtain ⟨b, nm, rfl, hz, h1, h2⟩ := h
  cases b with
  | true => exact ⟨.bl true, rfl, true, rfl, h1 rfl⟩
  | false => exact ⟨.bl false, rfl, false, rfl, mkO_req hz (fun Q' q => ⟨_, rfl, q⟩) (h2 rfl)⟩

theorem ok_check_allocationX {P : Program} {w : World} {K : PySem.W.Frag} {mg : Str → Option Value} {base : Heap} {f C : Addr} {fd : FuncData} (F : Fun K "check_allocation" "check_allocation" s_check_allocation f fd) (T : Txt mg) (c_is_bounded_allocation : Cal P w K mg base CX0 3 "is_bounded_allocation" p_is_bounded_allocation (sp_is_bounded_allocationX K)) {fx_require : Addr} {fdx_require : FuncData} (X_require : FnOk P w K mg base (L2.CX P w) 4 fx_require fdx_require p_require (spReq C)) (m_require : mg "require" = some (.ref fx_require)) (k_require : PySem.W.keepIn K (.ref fx_require) = true) (b_require : Binds K fdx_require p_require []) :
    FnOk P w K mg base (L2.CX P w) 5 f fd p_check_allocation (spRef K C RcAl) := by
  refine F.okX sc_check_allocation (fun vs H Q E h => by obtain ⟨ds, nm, hb, hd, _⟩ := h; rw [hb.len, RcAl_len hd]; rfl) (fun cdv A outer s H vs Q E hr h => ⟨_, (pss_one (ps_expr (pe_call X_require (hr.mono (by decide)) rfl m_require k_require b_require .nil (passes_call (E := E) (takes_of rfl rfl rfl rfl) (fun _ _ _ _ h => h)) (pa_cons (pe_cal (cal_up0 c_is_bounded_allocation) (hr.mono (by decide)) rfl passL (pa_cons (pv 0) pa_nil)) (pa_cons (pv 1) pa_nil))))), run_ref (N := n_check_allocation) (C := C) (fun ds nm hd hE => ?_) h⟩)
  obtain ⟨x, rfl, hz, hs, hb⟩ := hd
  exact xl_reqE hz hE (d_call (k := .v) (d := .bool false) (a_cons (d_var rfl) a_nil) ⟨x, rfl, hs, rfl, by rw [hb]⟩) (d_var rfl)

theorem ok_check_alikeX {P : Program} {w : World} {K : PySem.W.Frag} {mg : Str → Option Value} {base : Heap} {f C : Addr} {fd : FuncData} (F : Fun K "check_alike" "check_alike" s_check_alike f fd) (T : Txt mg) (c_is_allocation : Cal P w K mg base CX0 3 "is_allocation" p_is_allocation (sp_is_allocation K)) {fx_require : Addr} {fdx_require : FuncData} (X_require : FnOk P w K mg base (L2.CX P w) 4 fx_require fdx_require p_require (spReq C)) (m_require : mg "require" = some (.ref fx_require)) (k_require : PySem.W.keepIn K (.ref fx_require) = true) (b_require : Binds K fdx_require p_require []) :
    FnOk P w K mg base (L2.CX P w) 5 f fd p_check_alike (spRef K C RcLk) := by
  refine F.okX sc_check_alike (fun vs H Q E h => by obtain ⟨ds, nm, hb, hd, _⟩ := h; rw [hb.len, RcLk_len hd]; rfl) (fun cdv A outer s H vs Q E hr h => ⟨_, (pss_one (ps_expr (pe_call X_require (hr.mono (by decide)) rfl m_require k_require b_require .nil (passes_call (E := E) (takes_of rfl rfl rfl rfl) (fun _ _ _ _ h => h)) (pa_cons (pe_cal (cal_up0 c_is_allocation) (hr.mono (by decide)) rfl passL (pa_cons (pv 0) (pa_cons (pe_callB (k_len (K := K) rfl) rfl T.b_len (by decide +kernel) (pa_cons (pv 1) pa_nil)) (pa_cons (pe_callB (k_sum (K := K) rfl rfl) rfl T.b_sum (by decide +kernel) (pa_cons (pv 1) pa_nil)) pa_nil)))) (pa_cons (pv 2) pa_nil))))), run_ref (N := n_check_alike) (C := C) (fun ds nm hd hE => ?_) h⟩)
  obtain ⟨x, as, v, b, rfl, hz, ha, hs, hb⟩ := hd
  exact xl_reqE hz hE (d_call (k := .v) (d := .bool false) (a_cons (d_var rfl) (a_cons ((d_lenT (d_var rfl)).to (y := .int v) (by rw [List.length_map, ha.len])) (a_cons ((e_sumT (d_var rfl)).to (y := .int b) (by rw [ha.sum])) a_nil))) ⟨x, v, b, rfl, hs, rfl, by rw [hb]⟩) (d_var rfl)

theorem ok_check_orderX {P : Program} {w : World} {K : PySem.W.Frag} {mg : Str → Option Value} {base : Heap} {f C : Addr} {fd : FuncData} (F : Fun K "check_order" "check_order" s_check_order f fd) (T : Txt mg) (c_is_order : Cal P w K mg base CX0 3 "is_order" p_is_order (sp_is_orderD K)) {fx_require : Addr} {fdx_require : FuncData} (X_require : FnOk P w K mg base (L2.CX P w) 4 fx_require fdx_require p_require (spReq C)) (m_require : mg "require" = some (.ref fx_require)) (k_require : PySem.W.keepIn K (.ref fx_require) = true) (b_require : Binds K fdx_require p_require []) :
    FnOk P w K mg base (L2.CX P w) 5 f fd p_check_order (spRef K C RcOr) := by
  refine F.okX sc_check_order (fun vs H Q E h => by obtain ⟨ds, nm, hb, hd, _⟩ := h; rw [hb.len, RcOr_len hd]; rfl) (fun cdv A outer s H vs Q E hr h => ⟨_, (pss_one (ps_expr (pe_call X_require (hr.mono (by decide)) rfl m_require k_require b_require .nil (passes_call (E := E) (takes_of rfl rfl rfl rfl) (fun _ _ _ _ h => h)) (pa_cons (pe_cal (cal_up0 c_is_order) (hr.mono (by decide)) rfl passL (pa_cons (pv 0) (pa_cons (pe_callB (k_len (K := K) rfl) rfl T.b_len (by decide +kernel) (pa_cons (pv 1) pa_nil)) pa_nil))) (pa_cons pe_str pa_nil))))), run_ref (N := n_check_order) (C := C) (fun ds nm hd hE => ?_) h⟩)
  obtain ⟨x, as, v, rfl, hl, hv, hs, hb, rfl⟩ := hd
  exact xl_req (by decide) hE (d_call (k := .v) (d := .bool false) (a_cons (d_var rfl) (a_cons ((d_lenT (d_var rfl)).to (y := .int v) (by rw [List.length_map, hl])) a_nil)) ⟨x, v, rfl, hs, hv, rfl, by rw [hb]⟩)

theorem ok_check_orderedX {P : Program} {w : World} {K : PySem.W.Frag} {mg : Str → Option Value} {base : Heap} {f C : Addr} {fd : FuncData} (F : Fun K "check_ordered" "check_ordered" s_check_ordered f fd) (T : Txt mg) {fx_check_allocation : Addr} {fdx_check_allocation : FuncData} (X_check_allocation : FnOk P w K mg base (L2.CX P w) 5 fx_check_allocation fdx_check_allocation p_check_allocation (spDR K C (sp_check_allocation K) RcAl)) (m_check_allocation : mg "check_allocation" = some (.ref fx_check_allocation)) (k_check_allocation : PySem.W.keepIn K (.ref fx_check_allocation) = true) (b_check_allocation : Binds K fdx_check_allocation p_check_allocation []) {fx_check_order : Addr} {fdx_check_order : FuncData} (X_check_order : FnOk P w K mg base (L2.CX P w) 5 fx_check_order fdx_check_order p_check_order (spDR K C (sp_check_order K) RcOr)) (m_check_order : mg "check_order" = some (.ref fx_check_order)) (k_check_order : PySem.W.keepIn K (.ref fx_check_order) = true) (b_check_order : Binds K fdx_check_order p_check_order []) :
    FnOk P w K mg base (L2.CX P w) 6 f fd p_check_ordered (spRef K C RcOd) := by
  refine F.okX sc_check_ordered (fun vs H Q E h => by obtain ⟨ds, nm, hb, hd, _⟩ := h; rw [hb.len, RcOd_len hd]; rfl) (fun cdv A outer s H vs Q E hr h => ⟨_, (pss_cons (ps_expr (pe_call X_check_allocation (hr.mono (by decide)) rfl m_check_allocation k_check_allocation b_check_allocation .nil (passes_call (E := E) (takes_of rfl rfl rfl rfl) (fun _ _ _ _ h => h)) (pa_cons (pv 0) (pa_cons pe_str pa_nil))))
      (pss_one (ps_expr (pe_call X_check_order (hr.mono (by decide)) rfl m_check_order k_check_order b_check_order .nil (passes_call (E := E) (takes_of rfl rfl rfl rfl) (fun _ _ _ _ h => h)) (pa_cons (pv 1) (pa_cons (pv 0) pa_nil)))))), run_ref (N := n_check_ordered) (C := C) (fun ds nm hd hE => ?_) h⟩)
  obtain ⟨a, x, rfl, ⟨hs, hb, rfl⟩ | ⟨as, v, b, rfl, ha, v1, v5, b20, hs, hb, rfl⟩⟩ := hd
  · exact x_seq (x_dropE (x_ref (ds := [a, .str "allocation"]) (nm := "allocation") (a_cons (d_var rfl) (a_cons d_str a_nil)) ⟨a, rfl, by decide, hs, hb⟩ hE))
  · refine x_drop (x_good (k := .v) (d := .none) (a_cons (d_var rfl) (a_cons d_str a_nil)) ⟨as, v, b, "allocation", rfl, ha, v1, v5, b20, rfl, rfl⟩) ?_
    exact x_dropE (x_ref (ds := [x, tupD as]) (nm := "order") (a_cons (d_var rfl) (a_cons (d_var rfl) a_nil)) ⟨x, as, v, rfl, ha.len, by omega, hs, hb, rfl⟩ hE)

theorem ok_both_by_intervalsX {P : Program} {w : World} {K : PySem.W.Frag} {mg : Str → Option Value} {base : Heap} {f C : Addr} {fd : FuncData} (F : Fun K "both_by_intervals" "both_by_intervals" s_both_by_intervals f fd) (T : Txt mg) (c_one_after_another : Cal P w K mg base CX0 1 "one_after_another" p_one_after_another (sp_one_after_another K)) {fx_check_allocation : Addr} {fdx_check_allocation : FuncData} (X_check_allocation : FnOk P w K mg base (L2.CX P w) 5 fx_check_allocation fdx_check_allocation p_check_allocation (spDR K C (sp_check_allocation K) RcAl)) (m_check_allocation : mg "check_allocation" = some (.ref fx_check_allocation)) (k_check_allocation : PySem.W.keepIn K (.ref fx_check_allocation) = true) (b_check_allocation : Binds K fdx_check_allocation p_check_allocation []) {fx_check_alike : Addr} {fdx_check_alike : FuncData} (X_check_alike : FnOk P w K mg base (L2.CX P w) 5 fx_check_alike fdx_check_alike p_check_alike (spDR K C (sp_check_alike K) RcLk)) (m_check_alike : mg "check_alike" = some (.ref fx_check_alike)) (k_check_alike : PySem.W.keepIn K (.ref fx_check_alike) = true) (b_check_alike : Binds K fdx_check_alike p_check_alike []) {fx_check_order : Addr} {fdx_check_order : FuncData} (X_check_order : FnOk P w K mg base (L2.CX P w) 5 fx_check_order fdx_check_order p_check_order (spDR K C (sp_check_order K) RcOr)) (m_check_order : mg "check_order" = some (.ref fx_check_order)) (k_check_order : PySem.W.keepIn K (.ref fx_check_order) = true) (b_check_order : Binds K fdx_check_order p_check_order []) :
    FnOk P w K mg base (L2.CX P w) 6 f fd p_both_by_intervals (spRef K C RcBt) := by
  refine F.okX sc_both_by_intervals (fun vs H Q E h => by obtain ⟨ds, nm, hb, hd, _⟩ := h; rw [hb.len, RcBt_len hd]; rfl) (fun cdv A outer s H vs Q E hr h => ⟨_, (pss_cons (ps_expr (pe_call X_check_allocation (hr.mono (by decide)) rfl m_check_allocation k_check_allocation b_check_allocation .nil (passes_call (E := E) (takes_of rfl rfl rfl rfl) (fun _ _ _ _ h => h)) (pa_cons (pv 0) (pa_cons pe_str pa_nil))))
      (pss_cons (ps_expr (pe_call X_check_alike (hr.mono (by decide)) rfl m_check_alike k_check_alike b_check_alike .nil (passes_call (E := E) (takes_of rfl rfl rfl rfl) (fun _ _ _ _ h => h)) (pa_cons (pv 1) (pa_cons (pv 0) (pa_cons pe_str pa_nil)))))
      (pss_cons (ps_expr (pe_call X_check_order (hr.mono (by decide)) rfl m_check_order k_check_order b_check_order .nil (passes_call (E := E) (takes_of rfl rfl rfl rfl) (fun _ _ _ _ h => h)) (pa_cons (pv 2) (pa_cons (pv 0) pa_nil))))
      (pss_one (ps_ret (pe_tupN (pa_cons (pe_cal (cal_up0 c_one_after_another) (hr.mono (by decide)) rfl passL (pa_cons (pv 0) (pa_cons (pv 2) pa_nil))) (pa_cons (pe_cal (cal_up0 c_one_after_another) (hr.mono (by decide)) rfl passL (pa_cons (pv 1) (pa_cons (pv 2) pa_nil))) pa_nil)))))))), run_ref (N := n_both_by_intervals) (C := C) (fun ds nm hd hE => ?_) h⟩)
  obtain ⟨a, s, x, rfl, ⟨hs, hb, rfl⟩ | ⟨as, v, b, rfl, ha, v1, v5, b20, ⟨hs, hb, rfl⟩ | ⟨cs, rfl, hc, hs, hb, rfl⟩⟩⟩ := hd
  · exact x_seq (x_dropE (x_ref (ds := [a, .str "first"]) (nm := "first") (a_cons (d_var rfl) (a_cons d_str a_nil)) ⟨a, rfl, by decide, hs, hb⟩ hE))
  · refine x_drop (x_good (k := .v) (d := .none) (a_cons (d_var rfl) (a_cons d_str a_nil)) ⟨as, v, b, "first", rfl, ha, v1, v5, b20, rfl, rfl⟩) ?_
    exact x_seq (x_dropE (x_ref (ds := [s, tupD as, .str "second"]) (nm := "second") (a_cons (d_var rfl) (a_cons (d_var rfl) (a_cons d_str a_nil))) ⟨s, as, v, b, rfl, by decide, ha, hs, hb⟩ hE))
  · refine x_drop (x_good (k := .v) (d := .none) (a_cons (d_var rfl) (a_cons d_str a_nil)) ⟨as, v, b, "first", rfl, ha, v1, v5, b20, rfl, rfl⟩) ?_
    refine x_drop (x_good (k := .v) (d := .none) (a_cons (d_var rfl) (a_cons (d_var rfl) (a_cons d_str a_nil))) ⟨cs, as, v, b, "second", rfl, hc, ha, by omega, rfl, rfl⟩) ?_
    exact x_seq (x_dropE (x_ref (ds := [x, tupD as]) (nm := "order") (a_cons (d_var rfl) (a_cons (d_var rfl) a_nil)) ⟨x, as, v, rfl, ha.len, by omega, hs, hb, rfl⟩ hE))

theorem ok_by_intervalsX {P : Program} {w : World} {K : PySem.W.Frag} {mg : Str → Option Value} {base : Heap} {f C : Addr} {fd : FuncData} (F : Fun K "by_intervals" "by_intervals" s_by_intervals f fd) (T : Txt mg) (c_one_after_another : Cal P w K mg base CX0 1 "one_after_another" p_one_after_another (sp_one_after_another K)) {fx_check_ordered : Addr} {fdx_check_ordered : FuncData} (X_check_ordered : FnOk P w K mg base (L2.CX P w) 6 fx_check_ordered fdx_check_ordered p_check_ordered (spDR K C (sp_check_ordered K) RcOd)) (m_check_ordered : mg "check_ordered" = some (.ref fx_check_ordered)) (k_check_ordered : PySem.W.keepIn K (.ref fx_check_ordered) = true) (b_check_ordered : Binds K fdx_check_ordered p_check_ordered []) :
    FnOk P w K mg base (L2.CX P w) 7 f fd p_by_intervals (spRef K C RcOd) := by
  refine F.okX sc_by_intervals (fun vs H Q E h => by obtain ⟨ds, nm, hb, hd, _⟩ := h; rw [hb.len, RcOd_len hd]; rfl) (fun cdv A outer s H vs Q E hr h => ⟨_, (pss_cons (ps_expr (pe_call X_check_ordered (hr.mono (by decide)) rfl m_check_ordered k_check_ordered b_check_ordered .nil (passes_call (E := E) (takes_of rfl rfl rfl rfl) (fun _ _ _ _ h => h)) (pa_cons (pv 0) (pa_cons (pv 1) pa_nil))))
      (pss_one (ps_ret (pe_cal (cal_up0 c_one_after_another) (hr.mono (by decide)) rfl passL (pa_cons (pv 0) (pa_cons (pv 1) pa_nil)))))), run_ref (N := n_by_intervals) (C := C) (fun ds nm hd hE => ?_) h⟩)
  obtain ⟨a, x, e, _⟩ := id hd
  subst e
  exact x_seq (x_dropE (x_ref (a_cons (d_var rfl) (a_cons (d_var rfl) a_nil)) hd hE))

theorem ok_boundariesX {P : Program} {w : World} {K : PySem.W.Frag} {mg : Str → Option Value} {base : Heap} {f C : Addr} {fd : FuncData} (F : Fun K "boundaries" "boundaries" s_boundaries f fd) (T : Txt mg) {fx_check_ordered : Addr} {fdx_check_ordered : FuncData} (X_check_ordered : FnOk P w K mg base (L2.CX P w) 6 fx_check_ordered fdx_check_ordered p_check_ordered (spDR K C (sp_check_ordered K) RcOd)) (m_check_ordered : mg "check_ordered" = some (.ref fx_check_ordered)) (k_check_ordered : PySem.W.keepIn K (.ref fx_check_ordered) = true) (b_check_ordered : Binds K fdx_check_ordered p_check_ordered []) :
    FnOk P w K mg base (L2.CX P w) 7 f fd p_boundaries (spRef K C RcOd) := by
  refine F.okX sc_boundaries (fun vs H Q E h => by obtain ⟨ds, nm, hb, hd, _⟩ := h; rw [hb.len, RcOd_len hd]; rfl) (fun cdv A outer s H vs Q E hr h => ⟨_, (pss_cons (ps_expr (pe_call X_check_ordered (hr.mono (by decide)) rfl m_check_ordered k_check_ordered b_check_ordered .nil (passes_call (E := E) (takes_of rfl rfl rfl rfl) (fun _ _ _ _ h => h)) (pa_cons (pv 0) (pa_cons (pv 1) pa_nil))))
      (pss_cons (ps_set (i := 2) sc_boundaries.nd rfl (Or.inl rfl) (pe_lst pa_nil))
      (pss_cons (ps_set (i := 3) sc_boundaries.nd rfl (Or.inl rfl) pe_int)
      (pss_cons (ps_for (passes_of rfl) rfl (k_seq (K := K) rfl (pe_slice (k_slT (K := K) rfl) (pv 1) po_none (po_some (pe_un un_neg pe_int)))) (pg_name (i := 4) sc_boundaries.nd rfl (Or.inl rfl)) (pss_cons (ps_aug (i := 3) sc_boundaries.nd rfl (Or.inl rfl) (pe_ix (k_ix (K := K) rfl) (pv 0) (pv 4) (fun _ _ => rfl)) ip_add)
      (pss_one (ps_expr (k_bm (K := K) rfl PySem.F.plainAttrs_list PySem.F.slot_list_append PySem.F.type_list_append mt_append (pv 2) (pa_cons (pv 3) pa_nil))))))
      (pss_one (ps_ret (pe_callTy (k_tuple (K := K) rfl) rfl T.b_tuple (by decide +kernel) (pa_cons (pv 2) pa_nil)))))))), run_ref (N := n_boundaries) (C := C) (fun ds nm hd hE => ?_) h⟩)
  obtain ⟨a, x, e, _⟩ := id hd
  subst e
  exact x_seq (x_dropE (x_ref (a_cons (d_var rfl) (a_cons (d_var rfl) a_nil)) hd hE))

theorem ok_interval_churnX {P : Program} {w : World} {K : PySem.W.Frag} {mg : Str → Option Value} {base : Heap} {f C : Addr} {fd : FuncData} (F : Fun K "interval_churn" "interval_churn" s_interval_churn f fd) (T : Txt mg) (c_churn : Cal P w K mg base CX0 7 "churn" p_churn (sp_churn K)) {fx_both_by_intervals : Addr} {fdx_both_by_intervals : FuncData} (X_both_by_intervals : FnOk P w K mg base (L2.CX P w) 6 fx_both_by_intervals fdx_both_by_intervals p_both_by_intervals (spDR K C (sp_both_by_intervals K) RcBt)) (m_both_by_intervals : mg "both_by_intervals" = some (.ref fx_both_by_intervals)) (k_both_by_intervals : PySem.W.keepIn K (.ref fx_both_by_intervals) = true) (b_both_by_intervals : Binds K fdx_both_by_intervals p_both_by_intervals []) :
    FnOk P w K mg base (L2.CX P w) 8 f fd p_interval_churn (spRef K C RcBt) := by
  refine F.okX sc_interval_churn (fun vs H Q E h => by obtain ⟨ds, nm, hb, hd, _⟩ := h; rw [hb.len, RcBt_len hd]; rfl) (fun cdv A outer s H vs Q E hr h => ⟨_, (pss_cons (ps_asg (pe_call X_both_by_intervals (hr.mono (by decide)) rfl m_both_by_intervals k_both_by_intervals b_both_by_intervals .nil (passes_call (E := E) (takes_of rfl rfl rfl rfl) (fun _ _ _ _ h => h)) (pa_cons (pv 0) (pa_cons (pv 1) (pa_cons (pv 2) pa_nil)))) (k_tupA (K := K) (n := 2) rfl rfl (pgs_cons (pg_name (i := 3) sc_interval_churn.nd rfl (Or.inl rfl)) (pgs_cons (pg_name (i := 4) sc_interval_churn.nd rfl (Or.inl rfl)) pgs_nil))))
      (pss_one (ps_ret (pe_cal (cal_up0 c_churn) (hr.mono (by decide)) rfl passL (pa_cons (pv 3) (pa_cons (pv 4) pa_nil)))))), run_ref (N := n_interval_churn) (C := C) (fun ds nm hd hE => ?_) h⟩)
  obtain ⟨a, s, x, e, _⟩ := id hd
  subst e
  exact x_seq (x_asgE (x_ref (a_cons (d_var rfl) (a_cons (d_var rfl) (a_cons (d_var rfl) a_nil))) hd hE))

theorem ok_wasteX {P : Program} {w : World} {K : PySem.W.Frag} {mg : Str → Option Value} {base : Heap} {f C : Addr} {fd : FuncData} (F : Fun K "waste" "waste" s_waste f fd) (T : Txt mg) (c_transfer : Cal P w K mg base CX0 5 "transfer" p_transfer (sp_transfer K)) {fx_interval_churn : Addr} {fdx_interval_churn : FuncData} (X_interval_churn : FnOk P w K mg base (L2.CX P w) 8 fx_interval_churn fdx_interval_churn p_interval_churn (spDR K C (sp_interval_churn K) RcBt)) (m_interval_churn : mg "interval_churn" = some (.ref fx_interval_churn)) (k_interval_churn : PySem.W.keepIn K (.ref fx_interval_churn) = true) (b_interval_churn : Binds K fdx_interval_churn p_interval_churn []) :
    FnOk P w K mg base (L2.CX P w) 9 f fd p_waste (spRef K C RcBt) := by
  refine F.okX sc_waste (fun vs H Q E h => by obtain ⟨ds, nm, hb, hd, _⟩ := h; rw [hb.len, RcBt_len hd]; rfl) (fun cdv A outer s H vs Q E hr h => ⟨_, (pss_cons (ps_set (i := 3) sc_waste.nd rfl (Or.inl rfl) (pe_call X_interval_churn (hr.mono (by decide)) rfl m_interval_churn k_interval_churn b_interval_churn .nil (passes_call (E := E) (takes_of rfl rfl rfl rfl) (fun _ _ _ _ h => h)) (pa_cons (pv 0) (pa_cons (pv 1) (pa_cons (pv 2) pa_nil)))))
      (pss_one (ps_ret (pe_op op_sub (pv 3) (pe_cal (cal_up0 c_transfer) (hr.mono (by decide)) rfl passL (pa_cons (pv 0) (pa_cons (pv 1) pa_nil))))))), run_ref (N := n_waste) (C := C) (fun ds nm hd hE => ?_) h⟩)
  obtain ⟨a, s, x, e, _⟩ := id hd
  subst e
  exact x_seq (x_asgE (x_ref (a_cons (d_var rfl) (a_cons (d_var rfl) (a_cons (d_var rfl) a_nil))) hd hE))

theorem ok_interval_movesX {P : Program} {w : World} {K : PySem.W.Frag} {mg : Str → Option Value} {base : Heap} {f C : Addr} {fd : FuncData} (F : Fun K "interval_moves" "interval_moves" s_interval_moves f fd) (T : Txt mg) (c_moves : Cal P w K mg base CX0 6 "moves" p_moves (sp_moves K)) {fx_both_by_intervals : Addr} {fdx_both_by_intervals : FuncData} (X_both_by_intervals : FnOk P w K mg base (L2.CX P w) 6 fx_both_by_intervals fdx_both_by_intervals p_both_by_intervals (spDR K C (sp_both_by_intervals K) RcBt)) (m_both_by_intervals : mg "both_by_intervals" = some (.ref fx_both_by_intervals)) (k_both_by_intervals : PySem.W.keepIn K (.ref fx_both_by_intervals) = true) (b_both_by_intervals : Binds K fdx_both_by_intervals p_both_by_intervals []) :
    FnOk P w K mg base (L2.CX P w) 7 f fd p_interval_moves (spRef K C RcBt) := by
  refine F.okX sc_interval_moves (fun vs H Q E h => by obtain ⟨ds, nm, hb, hd, _⟩ := h; rw [hb.len, RcBt_len hd]; rfl) (fun cdv A outer s H vs Q E hr h => ⟨_, (pss_cons (ps_asg (pe_call X_both_by_intervals (hr.mono (by decide)) rfl m_both_by_intervals k_both_by_intervals b_both_by_intervals .nil (passes_call (E := E) (takes_of rfl rfl rfl rfl) (fun _ _ _ _ h => h)) (pa_cons (pv 0) (pa_cons (pv 1) (pa_cons (pv 2) pa_nil)))) (k_tupA (K := K) (n := 2) rfl rfl (pgs_cons (pg_name (i := 3) sc_interval_moves.nd rfl (Or.inl rfl)) (pgs_cons (pg_name (i := 4) sc_interval_moves.nd rfl (Or.inl rfl)) pgs_nil))))
    (pss_cons (ps_set (i := 5) sc_interval_moves.nd rfl (Or.inl rfl) pe_dnewT)
    (pss_cons (ps_for (passes_of rfl) rfl (k_seq (K := K) rfl (pe_cal (cal_up0 c_moves) (hr.mono (by decide)) rfl passL (pa_cons (pv 3) (pa_cons (pv 4) pa_nil)))) (k_tup (K := K) (n := 3) rfl rfl (pgs_cons (pg_name (i := 6) sc_interval_moves.nd rfl (Or.inl rfl)) (pgs_cons (pg_name (i := 7) sc_interval_moves.nd rfl (Or.inl rfl)) (pgs_cons (pg_name (i := 8) sc_interval_moves.nd rfl (Or.inl rfl)) pgs_nil)))) (pss_one (ps_expr (k_bm (K := K) rfl PySem.F.plainAttrs_list PySem.F.slot_list_append PySem.F.type_list_append mt_append (k_bm (K := K) rfl PySem.F.plainAttrs_dict PySem.F.slot_dict_setdefault PySem.F.type_dict_setdefault (mt_setdT (rUnits1 hr)) (pv 5) (pa_cons (pe_tup (pa_cons (pv 7) (pa_cons (pv 8) pa_nil))) (pa_cons (pe_lst pa_nil) pa_nil))) (pa_cons (pv 6) pa_nil)))))
    (pss_one (ps_ret (pe_lock (pe_lc rfl sc_interval_moves.nd (pi_itemsT (pv 5)) (blkOk_by (own := [("buckets", 9), ("old", 7), ("new", 8)]) (N := n_interval_moves) (sc := defScope s_interval_moves) (by decide +kernel)) (fun _ _ _ _ _ => by exact (k_tup (K := K) (n := 2) rfl rfl (pgs_cons (k_tup (K := K) (n := 2) rfl rfl (pgs_cons (pg_name (i := 7) sc_interval_moves.nd rfl (Or.inl rfl)) (pgs_cons (pg_name (i := 8) sc_interval_moves.nd rfl (Or.inl rfl)) pgs_nil))) (pgs_cons (pg_name (i := 9) sc_interval_moves.nd rfl (Or.inl rfl)) pgs_nil)))) (fun _ _ _ _ _ => by exact pts_nil) (fun _ _ _ _ _ => by exact (pe_tupN (pa_cons (pv 7) (pa_cons (pv 8) (pa_cons (pe_ix (k_ix (K := K) rfl) (pv 9) pe_int (fun _ _ => rfl)) (pa_cons (pe_callB (k_len (K := K) rfl) rfl T.b_len (by decide +kernel) (pa_cons (pv 9) pa_nil)) pa_nil))))))))))))), run_ref (N := n_interval_moves) (C := C) (fun ds nm hd hE => ?_) h⟩)
  obtain ⟨a, s, x, e, _⟩ := id hd
  subst e
  exact x_seq (x_asgE (x_ref (a_cons (d_var rfl) (a_cons (d_var rfl) (a_cons (d_var rfl) a_nil))) hd hE))

theorem ok_best_orderX {P : Program} {w : World} {K : PySem.W.Frag} {mg : Str → Option Value} {base : Heap} {f C : Addr} {fd : FuncData} (F : Fun K "best_order" "best_order" s_best_order f fd) (T : Txt mg) (c_steps_of : Cal P w K mg base CX0 1 "steps_of" p_steps_of (sp_steps_of K)) (c_are_allocations : Cal P w K mg base CX0 4 "are_allocations" p_are_allocations (sp_are_allocations74 K)) (c_total : Cal P w K mg base CX0 6 "total" p_total (sp_total K)) (c_interval_churn : Cal P w K mg base CX0 8 "interval_churn" p_interval_churn (sp_interval_churn K)) {fx_require : Addr} {fdx_require : FuncData} (X_require : FnOk P w K mg base (L2.CX P w) 4 fx_require fdx_require p_require (spReq C)) (m_require : mg "require" = some (.ref fx_require)) (k_require : PySem.W.keepIn K (.ref fx_require) = true) (b_require : Binds K fdx_require p_require []) :
    FnOk P w K mg base (L2.CX P w) 9 f fd p_best_order (spRef K C RcBo) := by
  refine F.okX sc_best_order (fun vs H Q E h => by obtain ⟨ds, nm, hb, hd, _⟩ := h; rw [hb.len, RcBo_len hd]; rfl) (fun cdv A outer s H vs Q E hr h => ⟨_, (pss_cons (ps_expr (pe_call X_require (hr.mono (by decide)) rfl m_require k_require b_require .nil (passes_call (E := E) (takes_of rfl rfl rfl rfl) (fun _ _ _ _ h => h)) (pa_cons (pe_cal (cal_up0 c_are_allocations) (hr.mono (by decide)) rfl passL (pa_cons (pv 0) (pa_cons (pe_const rfl T.k_MOST_ALLOCATIONS_thresholds) pa_nil))) (pa_cons pe_str pa_nil))))
      (pss_cons (ps_set (i := 1) sc_best_order.nd rfl (Or.inr rfl) (pe_cal (cal_up0 c_steps_of) (hr.mono (by decide)) rfl passL (pa_cons (pv 0) pa_nil)))
      (pss_cons (ps_set (i := 2) sc_best_order.nd rfl (Or.inl rfl) (pe_listPrm rfl rfl T.b_list rfl T.i_permutations (pa_cons (pe_callTy cr_rng1 rfl T.b_range (by decide +kernel) (pa_cons (pe_callB (k_len (K := K) rfl) rfl T.b_len (by decide +kernel) (pa_cons (pe_ix (k_ix (K := K) rfl) (pv 0) pe_int (fun _ _ => rfl)) pa_nil)) pa_nil)) pa_nil)))
      (pss_cons (ps_setLc (i := 3) rfl sc_best_order.nd rfl rfl (sw_true rfl rfl rfl (by decide +kernel)) (k_seq (K := K) rfl (pv 2)) (blkOk_by (own := [("order", 6)]) (N := n_best_order) (sc := defScope s_best_order) (by decide +kernel)) (fun _ _ _ _ _ => by exact (pg_name (i := 6) sc_best_order.nd rfl (Or.inr rfl))) (fun _ _ _ _ _ => by exact pts_nil) (fun _ _ _ _ _ => by exact (pe_callB (k_sum (K := K) rfl rfl) rfl T.b_sum (by decide +kernel) (pa_cons (pe_lc rfl sc_best_order.nd (k_seq (K := K) rfl (pv 1)) (show BlkOk n_best_order (L2.relS _ (defScope s_best_order)) _ [("before", 4), ("after", 5)] from blkOk_by (by decide +kernel)) (fun _ _ _ _ _ => by exact (k_tup (K := K) (n := 2) rfl rfl (pgs_cons (pg_name (i := 4) sc_best_order.nd rfl (Or.inl rfl)) (pgs_cons (pg_name (i := 5) sc_best_order.nd rfl (Or.inl rfl)) pgs_nil)))) (fun _ _ _ _ _ => by exact pts_nil) (fun _ _ _ _ _ => by exact (pe_cal (cal_up0 c_interval_churn) (hr.mono (by decide)) rfl passL (pa_cons (pv 4) (pa_cons (pv 5) (pa_cons (pv 6) pa_nil)))))) pa_nil))))
      (pss_cons (ps_set (i := 7) sc_best_order.nd rfl (Or.inl rfl) (pe_callB (k_min (K := K) rfl rfl) rfl T.b_min (by decide +kernel) (pa_cons (pv 3) pa_nil)))
      (pss_one (ps_ret (pe_tupN (pa_cons (pe_ix (k_ix (K := K) rfl) (pv 2) (k_bm (K := K) rfl PySem.F.plainAttrs_list PySem.F.slot_list_index PySem.F.type_list_index (k_lindex (K := K) rfl (rUnits5 hr)) (pv 3) (pa_cons (pv 7) pa_nil)) (fun _ _ => rfl)) (pa_cons (pv 7) (pa_cons (pe_cal (cal_up0 c_total) (hr.mono (by decide)) rfl passL (pa_cons (pv 0) pa_nil)) pa_nil))))))))))), run_ref (N := n_best_order) (C := C) (fun ds nm hd hE => ?_) h⟩)
  obtain ⟨x, rfl, no, rfl⟩ := hd
  exact x_req (by decide) hE (d_call (k := .v) (d := .bool false) (a_cons (d_var rfl) (a_cons d_int a_nil)) ⟨x, 6, rfl, by decide, rfl, .inr ⟨no, rfl⟩⟩)

theorem ok__law_toldX {P : Program} {w : World} {K : PySem.W.Frag} {mg : Str → Option Value} {base : Heap} {f C : Addr} {fd : FuncData} (F : Fun K "_law_told" "_law_told" s__law_told f fd) (T : Txt mg) (X : Exc1 P w K mg base "BadValue" "name" C) {L1 : Addr} (XH : ExcH K mg C L1) {fx_by_intervals : Addr} {fdx_by_intervals : FuncData} (X_by_intervals : FnOk P w K mg base (L2.CX P w) 7 fx_by_intervals fdx_by_intervals p_by_intervals (spDR K C (sp_by_intervals K) RcOd)) (m_by_intervals : mg "by_intervals" = some (.ref fx_by_intervals)) (k_by_intervals : PySem.W.keepIn K (.ref fx_by_intervals) = true) (b_by_intervals : Binds K fdx_by_intervals p_by_intervals []) {fx_boundaries : Addr} {fdx_boundaries : FuncData} (X_boundaries : FnOk P w K mg base (L2.CX P w) 7 fx_boundaries fdx_boundaries p_boundaries (spDR K C (sp_boundaries K) RcOd)) (m_boundaries : mg "boundaries" = some (.ref fx_boundaries)) (k_boundaries : PySem.W.keepIn K (.ref fx_boundaries) = true) (b_boundaries : Binds K fdx_boundaries p_boundaries []) {fx_interval_churn : Addr} {fdx_interval_churn : FuncData} (X_interval_churn : FnOk P w K mg base (L2.CX P w) 8 fx_interval_churn fdx_interval_churn p_interval_churn (spDR K C (sp_interval_churn K) RcBt)) (m_interval_churn : mg "interval_churn" = some (.ref fx_interval_churn)) (k_interval_churn : PySem.W.keepIn K (.ref fx_interval_churn) = true) (b_interval_churn : Binds K fdx_interval_churn p_interval_churn []) {fx_waste : Addr} {fdx_waste : FuncData} (X_waste : FnOk P w K mg base (L2.CX P w) 9 fx_waste fdx_waste p_waste (spDR K C (sp_waste K) RcBt)) (m_waste : mg "waste" = some (.ref fx_waste)) (k_waste : PySem.W.keepIn K (.ref fx_waste) = true) (b_waste : Binds K fdx_waste p_waste []) {fx_interval_moves : Addr} {fdx_interval_moves : FuncData} (X_interval_moves : FnOk P w K mg base (L2.CX P w) 7 fx_interval_moves fdx_interval_moves p_interval_moves (spDR K C (sp_interval_moves K) RcBt)) (m_interval_moves : mg "interval_moves" = some (.ref fx_interval_moves)) (k_interval_moves : PySem.W.keepIn K (.ref fx_interval_moves) = true) (b_interval_moves : Binds K fdx_interval_moves p_interval_moves []) {fx_best_order : Addr} {fdx_best_order : FuncData} (X_best_order : FnOk P w K mg base (L2.CX P w) 9 fx_best_order fdx_best_order p_best_order (spDR K C (sp_best_order K) RcBo)) (m_best_order : mg "best_order" = some (.ref fx_best_order)) (k_best_order : PySem.W.keepIn K (.ref fx_best_order) = true) (b_best_order : Binds K fdx_best_order p_best_order []) :
    FnOk P w K mg base (L2.CX P w) 10 f fd p__law_told (sp__law_told74 K) := by
  refine F.okX sc__law_told (fun vs H Q E h => spD_len (E := E) h (by rintro ds k d ⟨w, x, y, z, rfl, _⟩; rfl)) (fun cdv A outer s H vs Q E hr h => ⟨_, (pss_cons (ps_try_as (i := 4) (Wout := fun cls d _ H => E cls d H) rfl rfl sc__law_told.nd rfl rfl ⟨rfl, by decide, .inl XH.hL⟩ (takes_of rfl rfl rfl rfl)
    (fun W pn xe tk po => (pss_one (ps_if (pt_cmpR (k_eq (K := K) rfl (rUnits hr)) (pv 0) pe_int (nomark _)) (pss_one (ps_expr (pe_callS X_by_intervals (hr.mono (by decide)) rfl m_by_intervals k_by_intervals b_by_intervals (fun σ => passAt tk σ) (pa_cons (pv 1) (pa_cons (pv 3) pa_nil))))) (pss_one (ps_if (pt_cmpR (k_eq (K := K) rfl (rUnits hr)) (pv 0) pe_int (nomark _)) (pss_one (ps_expr (pe_callS X_boundaries (hr.mono (by decide)) rfl m_boundaries k_boundaries b_boundaries (fun σ => passAt tk σ) (pa_cons (pv 1) (pa_cons (pv 3) pa_nil))))) (pss_one (ps_if (pt_cmpR (k_eq (K := K) rfl (rUnits hr)) (pv 0) pe_int (nomark _)) (pss_one (ps_expr (pe_callS X_interval_churn (hr.mono (by decide)) rfl m_interval_churn k_interval_churn b_interval_churn (fun σ => passAt tk σ) (pa_cons (pv 1) (pa_cons (pv 2) (pa_cons (pv 3) pa_nil)))))) (pss_one (ps_if (pt_cmpR (k_eq (K := K) rfl (rUnits hr)) (pv 0) pe_int (nomark _)) (pss_one (ps_expr (pe_callS X_waste (hr.mono (by decide)) rfl m_waste k_waste b_waste (fun σ => passAt tk σ) (pa_cons (pv 1) (pa_cons (pv 2) (pa_cons (pv 3) pa_nil)))))) (pss_one (ps_if (pt_cmpR (k_eq (K := K) rfl (rUnits hr)) (pv 0) pe_int (nomark _)) (pss_one (ps_expr (pe_callS X_interval_moves (hr.mono (by decide)) rfl m_interval_moves k_interval_moves b_interval_moves (fun σ => passAt tk σ) (pa_cons (pv 1) (pa_cons (pv 2) (pa_cons (pv 3) pa_nil)))))) (pss_one (ps_expr (pe_callS X_best_order (hr.mono (by decide)) rfl m_best_order k_best_order b_best_order (fun σ => passAt tk σ) (pa_cons (pv 1) pa_nil)))))))))))))))
    (fun a oe cls d pn hz hf => (pss_cons (ps_if (PW.pt (pw_and (pt_val (pe_callB (call_isX XH.isC hz hf) rfl T.b_isinstance (by decide +kernel) (pa_cons (pv 4) (pa_cons (pe_glob (v := .ref C) rfl X.hC rfl) pa_nil)))) (pw_and1 (pt_val (pe_callB (call_isX XH.isC hz hf) rfl T.b_isinstance (by decide +kernel) (pa_cons (pv 4) (pa_cons (pe_ty (n := "ValueError") rfl T.b_ValueError (by decide +kernel)) pa_nil))))))) (pss_one (ps_ret (pe_xf X.X X.no hz hf (pv 4)))) pss_nil) (pss_one (ps_ret (pe_tupN (pa_cons pe_str pa_nil))))))) (pss_one (ps_ret pe_str))), ?_⟩)
  obtain ⟨ds, k', d, hb, ⟨w, x, y, z, rfl, rfl, hd⟩, q⟩ := h
  have lv : vs.length = 4 := by rw [hb.len]; rfl
  obtain ⟨a0, a1, a2, a3, rfl⟩ : ∃ a0 a1 a2 a3, vs = [a0, a1, a2, a3] := match vs, lv with | [x, y, z, u], _ => ⟨x, y, z, u, rfl⟩
  rcases hd with ⟨hG, rfl⟩ | ⟨nm, hR, rfl⟩
  · refine run_pure (K := K) (N := n__law_told) (pre := fun ds k d => ds = [.int (w : Int), x, y, z] ∧ k = .v ∧ d = .str "") (E := E) (fun ds k d hp => ?_) ⟨_, _, _, hb, ⟨rfl, rfl, rfl⟩, q⟩
    obtain ⟨rfl, rfl, rfl⟩ := hp
    refine s_seqE (fun Γ1 => Γ1 = argsG [.int (w : Int), x, y, z] n__law_told.length) (fun H0 O Hh σ D e s => ?_) (by rintro Γ1 rfl; exact s_ret d_str (.inr ⟨rfl, rfl⟩) (.inl rfl))
    rcases hG with ⟨hw, as, os, v, b, rfl, rfl, ha, ho, h1, h5, hb'⟩ | ⟨h2, h4, as, cs, os, v, b, rfl, rfl, rfl, ha, hc, ho, h1, h5, hb'⟩ | ⟨rfl, A, v, b, rfl, hS, l6, h5⟩
    · match w, hw with
      | 0, _ => exact (s_yes (EvT.to (t_test (e_eqI (d_var rfl) d_int)) rfl) (s_drop (d_callS (a_cons (d_var rfl) (a_cons (d_var rfl) a_nil)) ⟨as, os, v, b, rfl, ha, ho, h1, h5, hb', rfl, rfl⟩) ⟨_, rfl, rfl⟩) : Sd (pc K) (tIfS _ _ _) _ _) H0 O Hh σ D e s
      | 1, _ => exact (s_no (EvT.to (t_test (e_eqI (d_var rfl) d_int)) rfl) (s_yes (EvT.to (t_test (e_eqI (d_var rfl) d_int)) rfl) (s_drop (d_callS (a_cons (d_var rfl) (a_cons (d_var rfl) a_nil)) ⟨as, os, v, b, rfl, ha, ho, h1, h5, hb', rfl, rfl⟩) ⟨_, rfl, rfl⟩)) : Sd (pc K) (tIfS _ _ _) _ _) H0 O Hh σ D e s
      | w + 2, h => omega
    · match w, h2, h4 with
      | 0, h, _ => omega
      | 1, h, _ => omega
      | 2, _, _ => exact (s_no (EvT.to (t_test (e_eqI (d_var rfl) d_int)) rfl) (s_no (EvT.to (t_test (e_eqI (d_var rfl) d_int)) rfl) (s_yes (EvT.to (t_test (e_eqI (d_var rfl) d_int)) rfl) (s_drop (d_callS (a_cons (d_var rfl) (a_cons (d_var rfl) (a_cons (d_var rfl) a_nil))) ⟨as, cs, os, v, b, rfl, ha, hc, ho, h1, h5, hb', rfl, rfl⟩) ⟨_, rfl, rfl⟩))) : Sd (pc K) (tIfS _ _ _) _ _) H0 O Hh σ D e s
      | 3, _, _ => exact (s_no (EvT.to (t_test (e_eqI (d_var rfl) d_int)) rfl) (s_no (EvT.to (t_test (e_eqI (d_var rfl) d_int)) rfl) (s_no (EvT.to (t_test (e_eqI (d_var rfl) d_int)) rfl) (s_yes (EvT.to (t_test (e_eqI (d_var rfl) d_int)) rfl) (s_drop (d_callS (a_cons (d_var rfl) (a_cons (d_var rfl) (a_cons (d_var rfl) a_nil))) ⟨as, cs, os, v, b, rfl, ha, hc, ho, h1, h5, hb', rfl, rfl⟩) ⟨_, rfl, rfl⟩)))) : Sd (pc K) (tIfS _ _ _) _ _) H0 O Hh σ D e s
      | 4, _, _ => exact (s_no (EvT.to (t_test (e_eqI (d_var rfl) d_int)) rfl) (s_no (EvT.to (t_test (e_eqI (d_var rfl) d_int)) rfl) (s_no (EvT.to (t_test (e_eqI (d_var rfl) d_int)) rfl) (s_no (EvT.to (t_test (e_eqI (d_var rfl) d_int)) rfl) (s_yes (EvT.to (t_test (e_eqI (d_var rfl) d_int)) rfl) (s_drop (d_callS (a_cons (d_var rfl) (a_cons (d_var rfl) (a_cons (d_var rfl) a_nil))) ⟨as, cs, os, v, b, rfl, ha, hc, ho, h1, h5, hb', rfl, rfl⟩) ⟨_, rfl, rfl⟩))))) : Sd (pc K) (tIfS _ _ _) _ _) H0 O Hh σ D e s
      | w + 5, _, h => omega
    · exact (s_no (EvT.to (t_test (e_eqI (d_var rfl) d_int)) rfl) (s_no (EvT.to (t_test (e_eqI (d_var rfl) d_int)) rfl) (s_no (EvT.to (t_test (e_eqI (d_var rfl) d_int)) rfl) (s_no (EvT.to (t_test (e_eqI (d_var rfl) d_int)) rfl) (s_no (EvT.to (t_test (e_eqI (d_var rfl) d_int)) rfl) (s_drop (d_callS (a_cons (d_var rfl) a_nil) ⟨A, v, b, rfl, hS, l6, h5, rfl, rfl⟩) ⟨_, rfl, rfl⟩))))) : Sd (pc K) (tIfS _ _ _) _ _) H0 O Hh σ D e s
  · have env := env_args (N := n__law_told) Ji.pc hb
    have fin : ∀ (dx : Addr) (H1 : Hp), Same H H1 → Q (.str nm) H1 := fun dx H1 sm => q _ _ sm ⟨rfl, .str _⟩
    dsimp only [tSeq]
    refine (?_ : SdY (pc K) H (start n__law_told [a0, a1, a2, a3]) (tIfS _ _ _) _) [] H _ env
    rcases hR with ⟨hw, hR⟩ | ⟨h2, h4, hR⟩ | ⟨rfl, hR⟩
    · match w, hw with
      | 0, _ => exact y_yes (EvT.to (t_test (e_eqI (d_var rfl) d_int)) rfl) (y_drop (a_cons (d_var rfl) (a_cons (d_var rfl) a_nil)) hR fun dx H1 sm hdx => was_leastN X XH (id (by decide : (4 : Nat) < 5)) hdx (fin dx H1 sm))
      | 1, _ => exact y_no (EvT.to (t_test (e_eqI (d_var rfl) d_int)) rfl) (y_yes (EvT.to (t_test (e_eqI (d_var rfl) d_int)) rfl) (y_drop (a_cons (d_var rfl) (a_cons (d_var rfl) a_nil)) hR fun dx H1 sm hdx => was_leastN X XH (id (by decide : (4 : Nat) < 5)) hdx (fin dx H1 sm)))
      | w + 2, h => omega
    · match w, h2, h4 with
      | 0, h, _ => omega
      | 1, h, _ => omega
      | 2, _, _ => exact y_no (EvT.to (t_test (e_eqI (d_var rfl) d_int)) rfl) (y_no (EvT.to (t_test (e_eqI (d_var rfl) d_int)) rfl) (y_yes (EvT.to (t_test (e_eqI (d_var rfl) d_int)) rfl) (y_drop (a_cons (d_var rfl) (a_cons (d_var rfl) (a_cons (d_var rfl) a_nil))) hR fun dx H1 sm hdx => was_leastN X XH (id (by decide : (4 : Nat) < 5)) hdx (fin dx H1 sm))))
      | 3, _, _ => exact y_no (EvT.to (t_test (e_eqI (d_var rfl) d_int)) rfl) (y_no (EvT.to (t_test (e_eqI (d_var rfl) d_int)) rfl) (y_no (EvT.to (t_test (e_eqI (d_var rfl) d_int)) rfl) (y_yes (EvT.to (t_test (e_eqI (d_var rfl) d_int)) rfl) (y_drop (a_cons (d_var rfl) (a_cons (d_var rfl) (a_cons (d_var rfl) a_nil))) hR fun dx H1 sm hdx => was_leastN X XH (id (by decide : (4 : Nat) < 5)) hdx (fin dx H1 sm)))))
      | 4, _, _ => exact y_no (EvT.to (t_test (e_eqI (d_var rfl) d_int)) rfl) (y_no (EvT.to (t_test (e_eqI (d_var rfl) d_int)) rfl) (y_no (EvT.to (t_test (e_eqI (d_var rfl) d_int)) rfl) (y_no (EvT.to (t_test (e_eqI (d_var rfl) d_int)) rfl) (y_yes (EvT.to (t_test (e_eqI (d_var rfl) d_int)) rfl) (y_drop (a_cons (d_var rfl) (a_cons (d_var rfl) (a_cons (d_var rfl) a_nil))) hR fun dx H1 sm hdx => was_leastN X XH (id (by decide : (4 : Nat) < 5)) hdx (fin dx H1 sm))))))
      | w + 5, _, h => omega
    · exact y_no (EvT.to (t_test (e_eqI (d_var rfl) d_int)) rfl) (y_no (EvT.to (t_test (e_eqI (d_var rfl) d_int)) rfl) (y_no (EvT.to (t_test (e_eqI (d_var rfl) d_int)) rfl) (y_no (EvT.to (t_test (e_eqI (d_var rfl) d_int)) rfl) (y_no (EvT.to (t_test (e_eqI (d_var rfl) d_int)) rfl) (y_drop (a_cons (d_var rfl) a_nil) hR fun dx H1 sm hdx => was_leastN X XH (id (by decide : (4 : Nat) < 5)) hdx (fin dx H1 sm))))))

end W

namespace W
open PySem PySem.Spec PyProof.Rows L2 Lm
theorem ok_law {P : Program} {w : World} {K : PySem.W.Frag} {mg : Str → Option Value} {base : Heap} {f : Addr} {fd : FuncData} (F : Fun K "law" "law" s_law f fd) (T : Txt mg) (c__law_stream : Cal P w K mg base CX0 1 "_law_stream" p__law_stream (sp__law_stream K)) (c__law_allocation : Cal P w K mg base CX0 2 "_law_allocation" p__law_allocation (sp__law_allocation K)) (c__law_order : Cal P w K mg base CX0 2 "_law_order" p__law_order (sp__law_order K)) (c__law_next : Cal P w K mg base CX0 1 "_law_next" p__law_next (sp__law_next K)) (c__law_told : Cal P w K mg base CX0 10 "_law_told" p__law_told (sp__law_told74 K)) (c__law_wrong_first : Cal P w K mg base CX0 2 "_law_wrong_first" p__law_wrong_first (sp__law_wrong_first K)) (c__law_wrong_second : Cal P w K mg base CX0 2 "_law_wrong_second" p__law_wrong_second (sp__law_wrong_second K)) (c__law_wrong_order : Cal P w K mg base CX0 2 "_law_wrong_order" p__law_wrong_order (sp__law_wrong_order K)) (c__law_wrong_series : Cal P w K mg base CX0 2 "_law_wrong_series" p__law_wrong_series (sp__law_wrong_series K)) :
    FnOk P w K mg base CX0 11 f fd p_law (spLaw K) := by
  refine F.ok sc_law (fun vs H Q E h => by obtain ⟨a, ns, rfl, _⟩ := h; rfl) (fun cdv A outer s H vs Q E hr h => ⟨_, (pss_cons (ps_set (i := 1) sc_law.nd rfl (Or.inl rfl) (pe_cal c__law_stream (hr.mono (by decide)) rfl pass0 (pa_cons (pv 0) pa_nil)))
      (pss_cons (ps_set (i := 2) sc_law.nd rfl (Or.inl rfl) (pe_op (k_add (K := K) rfl) pe_int (pe_cal c__law_next (hr.mono (by decide)) rfl pass0 (pa_cons (pv 1) (pa_cons pe_int pa_nil)))))
      (pss_cons (ps_set (i := 3) sc_law.nd rfl (Or.inl rfl) (pe_cal c__law_allocation (hr.mono (by decide)) rfl pass0 (pa_cons (pv 1) (pa_cons (pv 2) (pa_cons pe_int pa_nil)))))
      (pss_cons (ps_set (i := 4) sc_law.nd rfl (Or.inl rfl) (pe_cal c__law_allocation (hr.mono (by decide)) rfl pass0 (pa_cons (pv 1) (pa_cons (pv 2) (pa_cons pe_int pa_nil)))))
      (pss_cons (ps_set (i := 5) sc_law.nd rfl (Or.inl rfl) (pe_cal c__law_order (hr.mono (by decide)) rfl pass0 (pa_cons (pv 1) (pa_cons (pv 2) pa_nil))))
      (pss_cons (ps_set (i := 6) sc_law.nd rfl (Or.inl rfl) (pe_cal c__law_next (hr.mono (by decide)) rfl pass0 (pa_cons (pv 1) (pa_cons pe_int pa_nil))))
      (pss_cons (ps_if (pt_cmpR (k_eq (K := K) rfl (rUnits hr)) (pv 6) pe_int (nomark _)) (pss_cons (ps_set (i := 7) sc_law.nd rfl (Or.inl rfl) (pe_tupN (pa_cons (pv 3) (pa_cons (pv 4) (pa_cons (pv 3) (pa_cons (pv 4) (pa_cons (pv 4) (pa_cons (pv 3) pa_nil))))))))
      (pss_cons (ps_if (pt_cmpR (k_ne (K := K) rfl (rUnits hr)) (pe_cal c__law_told (hr.mono (by decide)) rfl pass0 (pa_cons pe_int (pa_cons (pv 7) (pa_cons pe_non (pa_cons pe_non pa_nil))))) pe_str (nomark _)) (pss_one (ps_ret pe_bl)) pss_nil)
      (pss_one (ps_ret (pe_cmpR (k_eq (K := K) rfl (rUnits hr)) (pe_cal c__law_told (hr.mono (by decide)) rfl pass0 (pa_cons pe_int (pa_cons (pe_cal c__law_wrong_series (hr.mono (by decide)) rfl pass0 (pa_cons (pv 1) (pa_cons (pv 3) pa_nil))) (pa_cons pe_non (pa_cons pe_non pa_nil))))) pe_str (nomark _)))))) pss_nil)
      (pss_cons (ps_if (pt_cmpR (k_ne (K := K) rfl (rUnits hr)) (pe_cal c__law_told (hr.mono (by decide)) rfl pass0 (pa_cons (pv 6) (pa_cons (pv 3) (pa_cons (pv 4) (pa_cons (pv 5) pa_nil))))) pe_str (nomark _)) (pss_one (ps_ret pe_bl)) pss_nil)
      (pss_cons (ps_set (i := 8) sc_law.nd rfl (Or.inl rfl) (pe_tupN (pa_cons (pe_cal c__law_wrong_first (hr.mono (by decide)) rfl pass0 (pa_cons (pv 1) pa_nil)) (pa_cons (pe_cal c__law_wrong_second (hr.mono (by decide)) rfl pass0 (pa_cons (pv 1) (pa_cons (pv 3) pa_nil))) (pa_cons (pe_cal c__law_wrong_order (hr.mono (by decide)) rfl pass0 (pa_cons (pv 1) (pa_cons (pv 2) pa_nil))) pa_nil)))))
      (pss_cons (ps_if (pt_cmpR (k_ne (K := K) rfl (rUnits hr)) (pe_cal c__law_told (hr.mono (by decide)) rfl pass0 (pa_cons (pv 6) (pa_cons (pe_ix (k_ix (K := K) rfl) (pv 8) pe_int (fun _ _ => rfl)) (pa_cons (pe_ix (k_ix (K := K) rfl) (pv 8) pe_int (fun _ _ => rfl)) (pa_cons (pe_ix (k_ix (K := K) rfl) (pv 8) pe_int (fun _ _ => rfl)) pa_nil))))) (pe_ix (k_ix (K := K) rfl) (pe_lst (pa_cons pe_str (pa_cons pe_str pa_nil))) (pe_callTy call_int1 rfl T.b_int (by decide +kernel) (pa_cons (pe_cmpR op_gt (pv 6) pe_int (nomark _)) pa_nil)) (fun _ _ => rfl)) (nomark _)) (pss_one (ps_ret pe_bl)) pss_nil)
      (pss_cons (ps_if (PW.pt (pw_and (pt_cmpR op_gt (pv 6) pe_int (nomark _)) (pw_and1 (pt_cmpR (k_ne (K := K) rfl (rUnits hr)) (pe_cal c__law_told (hr.mono (by decide)) rfl pass0 (pa_cons (pv 6) (pa_cons (pv 3) (pa_cons (pe_ix (k_ix (K := K) rfl) (pv 8) pe_int (fun _ _ => rfl)) (pa_cons (pe_ix (k_ix (K := K) rfl) (pv 8) pe_int (fun _ _ => rfl)) pa_nil))))) pe_str (nomark _))))) (pss_one (ps_ret pe_bl)) pss_nil)
      (pss_cons (ps_if (pt_cmpR (k_ne (K := K) rfl (rUnits hr)) (pe_cal c__law_told (hr.mono (by decide)) rfl pass0 (pa_cons (pv 6) (pa_cons (pv 3) (pa_cons (pv 4) (pa_cons (pe_ix (k_ix (K := K) rfl) (pv 8) pe_int (fun _ _ => rfl)) pa_nil))))) pe_str (nomark _)) (pss_one (ps_ret pe_bl)) pss_nil)
      (pss_one (ps_ret (pe_cmpR (k_eq (K := K) rfl (rUnits hr)) (pe_cal c__law_told (hr.mono (by decide)) rfl pass0 (pa_cons (pv 6) (pa_cons (pv 3) (pa_cons (pv 4) (pa_cons (pv 5) pa_nil))))) pe_str (nomark _)))))))))))))))), run_law (N := n_law) (by decide) (fun st l => ?_) h⟩)
  have drw : ∀ {Γ : List (Option Rs)} (m : Int), 0 < m → m < 1073741824 → Γ[1]? = some (some (.r (.ref st))) → EvN (sc K st l) (tCall (sp__law_next K) [] E0 (tCons (tVar 1) (tCons (tC (.int m)) tNil))) Γ .v (SomeI fun i => 0 ≤ i ∧ i < m) := fun m m0 m1 h => n_call (st := st) (l := l) rfl h (a_cons d_int a_nil) ⟨m, rfl, m0, m1, rfl, rfl⟩
  refine q_asgN (SomeI fun i => 3 ≤ i ∧ i < 6) (n_add (d_int.sm (Q := fun m => m = 3) rfl) (drw 3 (by decide) (by decide) rfl) (fun m n hm hn => by omega)) ?_
  rintro d ⟨v0, rfl, v3, v6⟩
  obtain ⟨v, rfl⟩ := Int.eq_ofNat_of_zero_le (show 0 ≤ v0 by omega)
  have v3 : 3 ≤ v := by omega
  have v5 : v ≤ 5 := by omega
  refine q_asgN (fun d => ∃ ns : List Int, d = .tuple (ns.map .int) ∧ Alc ns (v : Int) 20) (n_call (st := st) (l := l) rfl rfl (a_cons (d_var rfl) (a_cons d_int a_nil)) ⟨(v : Int), 20, rfl, by omega, by omega, by decide, by decide, rfl, rfl⟩) ?_
  rintro d ⟨as, rfl, ha⟩
  refine q_asgN (fun d => ∃ ns : List Int, d = .tuple (ns.map .int) ∧ Alc ns (v : Int) 20) (n_call (st := st) (l := l) rfl rfl (a_cons (d_var rfl) (a_cons d_int a_nil)) ⟨(v : Int), 20, rfl, by omega, by omega, by decide, by decide, rfl, rfl⟩) ?_
  rintro d ⟨cs, rfl, hc⟩
  refine q_asgN (fun d => ∃ ns : List Int, d = .tuple (ns.map .int) ∧ IsOrd ns (v : Int)) (n_call (st := st) (l := l) rfl rfl (a_cons (d_var rfl) a_nil) ⟨(v : Int), rfl, by omega, by omega, rfl, rfl⟩) ?_
  rintro d ⟨os, rfl, ho⟩
  refine q_asgN (SomeI fun i => 0 ≤ i ∧ i < 6) (drw 6 (by decide) (by decide) rfl) ?_
  rintro d ⟨w0, rfl, w1, w6⟩
  obtain ⟨w, rfl⟩ := Int.eq_ofNat_of_zero_le w1
  show Sd (sc K st l) _ [none, some (.r (.ref st)), some (.v (.int (v : Int))), some (.v (tupD as)), some (.v (tupD cs)), some (.v (tupD os)), some (.v (.int (w : Int))), none, none] _
  by_cases w5 : w = 5
  · subst w5
    refine q_if (a := true) (EvT.to (t_test (e_eqI (d_var rfl) d_int)) rfl) (fun _ => ?_) fun e => nomatch e
    refine q_asg (d := .tuple ([as, cs, as, cs, cs, as].map tupD)) (d_tup (a_consV (d_var rfl) (a_consV (d_var rfl) (a_consV (d_var rfl) (a_consV (d_var rfl) (a_consV (d_var rfl) (a_consV (d_var rfl) a_nil)))))) (by simp)) ?_
    have hS : Ser [as, cs, as, cs, cs, as] (v : Int) 20 := ⟨by simp, by simp, fun x hx => by
      simp only [List.mem_cons, List.not_mem_nil, or_false] at hx
      rcases hx with rfl | rfl | rfl | rfl | rfl | rfl <;> assumption, by omega, by omega, by decide⟩
    refine q_no (EvT.to (t_test (e_neD (d_call (k := .v) (d := .str "") (a_cons d_int (a_cons (d_var rfl) (a_cons d_non (a_cons d_non a_nil)))) ⟨5, _, _, _, rfl, rfl, .inl ⟨.inr (.inr ⟨rfl, [as, cs, as, cs, cs, as], (v : Int), 20, rfl, hS, by simp, by omega⟩), rfl⟩⟩) d_str shapedS shapedS)) (by rw [eqv_rf rfl]; rfl)) ?_
    exact s_ret (Ev.to (e_eqD (x := .str "allocations") (EvN.det (n_callAP (k := .v) (ap_cons d_int (ap_consN (n_call (st := st) (l := l) rfl rfl (a_cons (d_var rfl) a_nil) ⟨as, v, rfl, ha, v3, v5, rfl, rfl⟩) (ap_cons d_non (ap_cons d_non ap_nil)))) (fun ds hd => by
      obtain ⟨e1, rfl, y, e2, rfl, hy, e3, rfl, e4, rfl, rfl⟩ := hd
      exact ⟨_, ⟨5, y, .none, .none, rfl, rfl, .inr ⟨"allocations", .inr (.inr ⟨rfl, y, rfl, hy, rfl⟩), rfl⟩⟩, rfl⟩))) d_str shapedS shapedS) (by rw [eqv_rf rfl])) (.inr ⟨rfl, rfl⟩) rfl
  have w4 : w ≤ 4 := by omega
  refine q_no (EvT.to (t_test (e_eqI (d_var rfl) d_int)) (decide_eq_false (by omega))) ?_
  have gd : TolG w (tupD as) (tupD cs) (tupD os) := by
    by_cases w1 : w ≤ 1
    · exact .inl ⟨w1, as, os, (v : Int), 20, rfl, rfl, ha, ho, by omega, by omega, by decide⟩
    · exact .inr (.inl ⟨by omega, w4, as, cs, os, (v : Int), 20, rfl, rfl, rfl, ha, hc, ho, by omega, by omega, by decide⟩)
  refine q_no (EvT.to (t_test (e_neD (d_call (k := .v) (d := .str "") (a_cons (d_var rfl) (a_cons (d_var rfl) (a_cons (d_var rfl) (a_cons (d_var rfl) a_nil)))) ⟨w, _, _, _, rfl, rfl, .inl ⟨gd, rfl⟩⟩) d_str shapedS shapedS)) (by rw [eqv_rf rfl]; rfl)) ?_
  refine q_asg0 rfl (ev0_tup (ap_consN (n_call (st := st) (l := l) rfl rfl a_nil ⟨rfl, rfl, rfl⟩) (ap_consN (n_call (st := st) (l := l) rfl rfl (a_cons (d_var rfl) a_nil) ⟨as, v, rfl, ha, v3, v5, rfl, rfl⟩) (ap_consN (n_call (st := st) (l := l) rfl rfl (a_cons (d_var rfl) a_nil) ⟨v, rfl, v3, v5, rfl, rfl⟩) ap_nil))) (fun ds h => by obtain ⟨_, _, rfl, _, _, _, rfl, _, _, _, rfl, _, rfl⟩ := h; simp)) ?_
  rintro _ ⟨_, rfl, x, _, rfl, ⟨hx, hxb⟩, y, _, rfl, ⟨hy, hyb⟩, z, _, rfl, ⟨hz, hzb⟩, rfl⟩
  show Sd (sc K st l) _ [none, some (.r (.ref st)), some (.v (.int (v : Int))), some (.v (tupD as)), some (.v (tupD cs)), some (.v (tupD os)), some (.v (.int (w : Int))), none, some (.v (.tuple [x, y, z]))] _
  have i0 : Ev (sc K st l) (tOp (rIx K) (tVar 8) (tC (.int 0))) [none, some (.r (.ref st)), some (.v (.int (v : Int))), some (.v (tupD as)), some (.v (tupD cs)), some (.v (tupD os)), some (.v (.int (w : Int))), none, some (.v (.tuple [x, y, z]))] .v x := e_ixTv (d_var rfl) d_int rfl
  have i1 : Ev (sc K st l) (tOp (rIx K) (tVar 8) (tC (.int 1))) [none, some (.r (.ref st)), some (.v (.int (v : Int))), some (.v (tupD as)), some (.v (tupD cs)), some (.v (tupD os)), some (.v (.int (w : Int))), none, some (.v (.tuple [x, y, z]))] .v y := e_ixTv (d_var rfl) d_int rfl
  have i2 : Ev (sc K st l) (tOp (rIx K) (tVar 8) (tC (.int 2))) [none, some (.r (.ref st)), some (.v (.int (v : Int))), some (.v (tupD as)), some (.v (tupD cs)), some (.v (tupD os)), some (.v (.int (w : Int))), none, some (.v (.tuple [x, y, z]))] .v z := e_ixTv (d_var rfl) d_int rfl
  by_cases w1 : w ≤ 1
  · refine q_no (EvT.to (t_test (e_neD (d_call (k := .v) (d := .str "allocation") (a_cons (d_var rfl) (a_cons i0 (a_cons i1 (a_cons i2 a_nil)))) ⟨w, x, y, z, rfl, rfl, .inr ⟨"allocation", .inl ⟨w1, x, z, rfl, .inl ⟨hx, hxb, rfl⟩⟩, rfl⟩⟩) (e_ixLv (e_lstV (ds := [.str "allocation", .str "first"]) (a_consV d_str (a_consV d_str a_nil)) (by simp)) (e_intB (b := false) (Ev.to (d_gt (d_var rfl) d_int) (congrArg PyData.bool (decide_eq_false (by omega))))) rfl) shapedS shapedS)) (by rw [eqv_rf rfl]; rfl)) ?_
    refine q_no (EvT.to (t_and (a := false) (b := true) (EvT.to (t_test (d_gt (d_var rfl) d_int)) (decide_eq_false (by omega))) (fun e => nomatch e)) rfl) ?_
    refine q_no (EvT.to (t_test (e_neD (d_call (k := .v) (d := .str "order") (a_cons (d_var rfl) (a_cons (d_var rfl) (a_cons (d_var rfl) (a_cons i2 a_nil)))) ⟨w, _, _, z, rfl, rfl, .inr ⟨"order", .inl ⟨w1, _, z, rfl, .inr ⟨as, (v : Int), 20, rfl, ha, by omega, by omega, by decide, hz, hzb, rfl⟩⟩, rfl⟩⟩) d_str shapedS shapedS)) (by rw [eqv_rf rfl]; rfl)) ?_
    exact s_ret (Ev.to (e_eqD (d_call (k := .v) (d := .str "") (a_cons (d_var rfl) (a_cons (d_var rfl) (a_cons (d_var rfl) (a_cons (d_var rfl) a_nil)))) ⟨w, _, _, _, rfl, rfl, .inl ⟨gd, rfl⟩⟩) d_str shapedS shapedS) (by rw [eqv_rf rfl])) (.inr ⟨rfl, rfl⟩) rfl
  · have w2 : 2 ≤ w := by omega
    refine q_no (EvT.to (t_test (e_neD (d_call (k := .v) (d := .str "first") (a_cons (d_var rfl) (a_cons i0 (a_cons i1 (a_cons i2 a_nil)))) ⟨w, x, y, z, rfl, rfl, .inr ⟨"first", .inr (.inl ⟨w2, w4, x, y, z, rfl, .inl ⟨hx, hxb, rfl⟩⟩), rfl⟩⟩) (e_ixLv (e_lstV (ds := [.str "allocation", .str "first"]) (a_consV d_str (a_consV d_str a_nil)) (by simp)) (e_intB (b := true) (Ev.to (d_gt (d_var rfl) d_int) (congrArg PyData.bool (decide_eq_true (by omega))))) rfl) shapedS shapedS)) (by rw [eqv_rf rfl]; rfl)) ?_
    refine q_no (EvT.to (t_and (t_test (d_gt (d_var rfl) d_int)) (b := false) (fun _ => EvT.to (t_test (e_neD (d_call (k := .v) (d := .str "second") (a_cons (d_var rfl) (a_cons (d_var rfl) (a_cons i1 (a_cons i2 a_nil)))) ⟨w, _, y, z, rfl, rfl, .inr ⟨"second", .inr (.inl ⟨w2, w4, _, y, z, rfl, .inr ⟨as, (v : Int), 20, rfl, ha, by omega, by omega, by decide, .inl ⟨hy, hyb, rfl⟩⟩⟩), rfl⟩⟩) d_str shapedS shapedS)) (by rw [eqv_rf rfl]; rfl))) (by simp)) ?_
    refine q_no (EvT.to (t_test (e_neD (d_call (k := .v) (d := .str "order") (a_cons (d_var rfl) (a_cons (d_var rfl) (a_cons (d_var rfl) (a_cons i2 a_nil)))) ⟨w, _, _, z, rfl, rfl, .inr ⟨"order", .inr (.inl ⟨w2, w4, _, _, z, rfl, .inr ⟨as, (v : Int), 20, rfl, ha, by omega, by omega, by decide, .inr ⟨cs, rfl, hc, hz, hzb, rfl⟩⟩⟩), rfl⟩⟩) d_str shapedS shapedS)) (by rw [eqv_rf rfl]; rfl)) ?_
    exact s_ret (Ev.to (e_eqD (d_call (k := .v) (d := .str "") (a_cons (d_var rfl) (a_cons (d_var rfl) (a_cons (d_var rfl) (a_cons (d_var rfl) a_nil)))) ⟨w, _, _, _, rfl, rfl, .inl ⟨gd, rfl⟩⟩) d_str shapedS shapedS) (by rw [eqv_rf rfl])) (.inr ⟨rfl, rfl⟩) rfl

end W

namespace W
open PySem PySem.Spec PyProof.Rows L2 Lm
theorem all_mk {l : PySem.W.OpenLaw} {w : World} {K : PySem.W.Frag} {h : Heap} {mg : Str → Option Value} {fa : Addr} (X : K.In h) (G : h.Ns mainGlobals mg) (hfa : mg "law" = some (.ref fa))
    {od_is_integer an_is_integer : Option Addr} {sl_is_integer : Array (Option Value)} {oc_is_integer kV_is_integer dc_is_integer pm_is_integer cd_is_integer ct_is_integer : Value} {f_is_integer : Addr}
    (a_is_integer : PySem.W.nsIn K mainGlobals "is_integer" = some (some (.ref f_is_integer))) (l_is_integer : K.lookup f_is_integer = some ⟨oc_is_integer, od_is_integer, .func (PySem.W.fnOf "is_integer" "is_integer" (defArgs s_is_integer) (defBody s_is_integer) (defScope s_is_integer) .none kV_is_integer dc_is_integer pm_is_integer an_is_integer cd_is_integer ct_is_integer), sl_is_integer⟩) (o_is_integer : PySem.W.codeIn K cd_is_integer "is_integer" = true) (k_is_integer : PySem.W.keepIn K (.ref f_is_integer) = true)
    {od_are_integers an_are_integers : Option Addr} {sl_are_integers : Array (Option Value)} {oc_are_integers kV_are_integers dc_are_integers pm_are_integers cd_are_integers ct_are_integers : Value} {f_are_integers : Addr}
    (a_are_integers : PySem.W.nsIn K mainGlobals "are_integers" = some (some (.ref f_are_integers))) (l_are_integers : K.lookup f_are_integers = some ⟨oc_are_integers, od_are_integers, .func (PySem.W.fnOf "are_integers" "are_integers" (defArgs s_are_integers) (defBody s_are_integers) (defScope s_are_integers) .none kV_are_integers dc_are_integers pm_are_integers an_are_integers cd_are_integers ct_are_integers), sl_are_integers⟩) (o_are_integers : PySem.W.codeIn K cd_are_integers "are_integers" = true) (k_are_integers : PySem.W.keepIn K (.ref f_are_integers) = true)
    {od_require an_require : Option Addr} {sl_require : Array (Option Value)} {oc_require kV_require dc_require pm_require cd_require ct_require : Value} {f_require : Addr}
    (a_require : PySem.W.nsIn K mainGlobals "require" = some (some (.ref f_require))) (l_require : K.lookup f_require = some ⟨oc_require, od_require, .func (PySem.W.fnOf "require" "require" (defArgs s_require) (defBody s_require) (defScope s_require) .none kV_require dc_require pm_require an_require cd_require ct_require), sl_require⟩) (o_require : PySem.W.codeIn K cd_require "require" = true) (k_require : PySem.W.keepIn K (.ref f_require) = true)
    {od_is_allocation an_is_allocation : Option Addr} {sl_is_allocation : Array (Option Value)} {oc_is_allocation kV_is_allocation dc_is_allocation pm_is_allocation cd_is_allocation ct_is_allocation : Value} {f_is_allocation : Addr}
    (a_is_allocation : PySem.W.nsIn K mainGlobals "is_allocation" = some (some (.ref f_is_allocation))) (l_is_allocation : K.lookup f_is_allocation = some ⟨oc_is_allocation, od_is_allocation, .func (PySem.W.fnOf "is_allocation" "is_allocation" (defArgs s_is_allocation) (defBody s_is_allocation) (defScope s_is_allocation) .none kV_is_allocation dc_is_allocation pm_is_allocation an_is_allocation cd_is_allocation ct_is_allocation), sl_is_allocation⟩) (o_is_allocation : PySem.W.codeIn K cd_is_allocation "is_allocation" = true) (k_is_allocation : PySem.W.keepIn K (.ref f_is_allocation) = true)
    {od_is_bounded_allocation an_is_bounded_allocation : Option Addr} {sl_is_bounded_allocation : Array (Option Value)} {oc_is_bounded_allocation kV_is_bounded_allocation dc_is_bounded_allocation pm_is_bounded_allocation cd_is_bounded_allocation ct_is_bounded_allocation : Value} {f_is_bounded_allocation : Addr}
    (a_is_bounded_allocation : PySem.W.nsIn K mainGlobals "is_bounded_allocation" = some (some (.ref f_is_bounded_allocation))) (l_is_bounded_allocation : K.lookup f_is_bounded_allocation = some ⟨oc_is_bounded_allocation, od_is_bounded_allocation, .func (PySem.W.fnOf "is_bounded_allocation" "is_bounded_allocation" (defArgs s_is_bounded_allocation) (defBody s_is_bounded_allocation) (defScope s_is_bounded_allocation) .none kV_is_bounded_allocation dc_is_bounded_allocation pm_is_bounded_allocation an_is_bounded_allocation cd_is_bounded_allocation ct_is_bounded_allocation), sl_is_bounded_allocation⟩) (o_is_bounded_allocation : PySem.W.codeIn K cd_is_bounded_allocation "is_bounded_allocation" = true) (k_is_bounded_allocation : PySem.W.keepIn K (.ref f_is_bounded_allocation) = true)
    {od_are_allocations an_are_allocations : Option Addr} {sl_are_allocations : Array (Option Value)} {oc_are_allocations kV_are_allocations dc_are_allocations pm_are_allocations cd_are_allocations ct_are_allocations : Value} {f_are_allocations : Addr}
    (a_are_allocations : PySem.W.nsIn K mainGlobals "are_allocations" = some (some (.ref f_are_allocations))) (l_are_allocations : K.lookup f_are_allocations = some ⟨oc_are_allocations, od_are_allocations, .func (PySem.W.fnOf "are_allocations" "are_allocations" (defArgs s_are_allocations) (defBody s_are_allocations) (defScope s_are_allocations) .none kV_are_allocations dc_are_allocations pm_are_allocations an_are_allocations cd_are_allocations ct_are_allocations), sl_are_allocations⟩) (o_are_allocations : PySem.W.codeIn K cd_are_allocations "are_allocations" = true) (k_are_allocations : PySem.W.keepIn K (.ref f_are_allocations) = true)
    {od_is_order an_is_order : Option Addr} {sl_is_order : Array (Option Value)} {oc_is_order kV_is_order dc_is_order pm_is_order cd_is_order ct_is_order : Value} {f_is_order : Addr}
    (a_is_order : PySem.W.nsIn K mainGlobals "is_order" = some (some (.ref f_is_order))) (l_is_order : K.lookup f_is_order = some ⟨oc_is_order, od_is_order, .func (PySem.W.fnOf "is_order" "is_order" (defArgs s_is_order) (defBody s_is_order) (defScope s_is_order) .none kV_is_order dc_is_order pm_is_order an_is_order cd_is_order ct_is_order), sl_is_order⟩) (o_is_order : PySem.W.codeIn K cd_is_order "is_order" = true) (k_is_order : PySem.W.keepIn K (.ref f_is_order) = true)
    {od_check_allocation an_check_allocation : Option Addr} {sl_check_allocation : Array (Option Value)} {oc_check_allocation kV_check_allocation dc_check_allocation pm_check_allocation cd_check_allocation ct_check_allocation : Value} {f_check_allocation : Addr}
    (a_check_allocation : PySem.W.nsIn K mainGlobals "check_allocation" = some (some (.ref f_check_allocation))) (l_check_allocation : K.lookup f_check_allocation = some ⟨oc_check_allocation, od_check_allocation, .func (PySem.W.fnOf "check_allocation" "check_allocation" (defArgs s_check_allocation) (defBody s_check_allocation) (defScope s_check_allocation) .none kV_check_allocation dc_check_allocation pm_check_allocation an_check_allocation cd_check_allocation ct_check_allocation), sl_check_allocation⟩) (o_check_allocation : PySem.W.codeIn K cd_check_allocation "check_allocation" = true) (k_check_allocation : PySem.W.keepIn K (.ref f_check_allocation) = true)
    {od_check_alike an_check_alike : Option Addr} {sl_check_alike : Array (Option Value)} {oc_check_alike kV_check_alike dc_check_alike pm_check_alike cd_check_alike ct_check_alike : Value} {f_check_alike : Addr}
    (a_check_alike : PySem.W.nsIn K mainGlobals "check_alike" = some (some (.ref f_check_alike))) (l_check_alike : K.lookup f_check_alike = some ⟨oc_check_alike, od_check_alike, .func (PySem.W.fnOf "check_alike" "check_alike" (defArgs s_check_alike) (defBody s_check_alike) (defScope s_check_alike) .none kV_check_alike dc_check_alike pm_check_alike an_check_alike cd_check_alike ct_check_alike), sl_check_alike⟩) (o_check_alike : PySem.W.codeIn K cd_check_alike "check_alike" = true) (k_check_alike : PySem.W.keepIn K (.ref f_check_alike) = true)
    {od_transfer an_transfer : Option Addr} {sl_transfer : Array (Option Value)} {oc_transfer kV_transfer dc_transfer pm_transfer cd_transfer ct_transfer : Value} {f_transfer : Addr}
    (a_transfer : PySem.W.nsIn K mainGlobals "transfer" = some (some (.ref f_transfer))) (l_transfer : K.lookup f_transfer = some ⟨oc_transfer, od_transfer, .func (PySem.W.fnOf "transfer" "transfer" (defArgs s_transfer) (defBody s_transfer) (defScope s_transfer) .none kV_transfer dc_transfer pm_transfer an_transfer cd_transfer ct_transfer), sl_transfer⟩) (o_transfer : PySem.W.codeIn K cd_transfer "transfer" = true) (k_transfer : PySem.W.keepIn K (.ref f_transfer) = true)
    {od_is_assignment an_is_assignment : Option Addr} {sl_is_assignment : Array (Option Value)} {oc_is_assignment kV_is_assignment dc_is_assignment pm_is_assignment cd_is_assignment ct_is_assignment : Value} {f_is_assignment : Addr}
    (a_is_assignment : PySem.W.nsIn K mainGlobals "is_assignment" = some (some (.ref f_is_assignment))) (l_is_assignment : K.lookup f_is_assignment = some ⟨oc_is_assignment, od_is_assignment, .func (PySem.W.fnOf "is_assignment" "is_assignment" (defArgs s_is_assignment) (defBody s_is_assignment) (defScope s_is_assignment) .none kV_is_assignment dc_is_assignment pm_is_assignment an_is_assignment cd_is_assignment ct_is_assignment), sl_is_assignment⟩) (o_is_assignment : PySem.W.codeIn K cd_is_assignment "is_assignment" = true) (k_is_assignment : PySem.W.keepIn K (.ref f_is_assignment) = true)
    {od_is_bounded_assignment an_is_bounded_assignment : Option Addr} {sl_is_bounded_assignment : Array (Option Value)} {oc_is_bounded_assignment kV_is_bounded_assignment dc_is_bounded_assignment pm_is_bounded_assignment cd_is_bounded_assignment ct_is_bounded_assignment : Value} {f_is_bounded_assignment : Addr}
    (a_is_bounded_assignment : PySem.W.nsIn K mainGlobals "is_bounded_assignment" = some (some (.ref f_is_bounded_assignment))) (l_is_bounded_assignment : K.lookup f_is_bounded_assignment = some ⟨oc_is_bounded_assignment, od_is_bounded_assignment, .func (PySem.W.fnOf "is_bounded_assignment" "is_bounded_assignment" (defArgs s_is_bounded_assignment) (defBody s_is_bounded_assignment) (defScope s_is_bounded_assignment) .none kV_is_bounded_assignment dc_is_bounded_assignment pm_is_bounded_assignment an_is_bounded_assignment cd_is_bounded_assignment ct_is_bounded_assignment), sl_is_bounded_assignment⟩) (o_is_bounded_assignment : PySem.W.codeIn K cd_is_bounded_assignment "is_bounded_assignment" = true) (k_is_bounded_assignment : PySem.W.keepIn K (.ref f_is_bounded_assignment) = true)
    {od_check_assignment an_check_assignment : Option Addr} {sl_check_assignment : Array (Option Value)} {oc_check_assignment kV_check_assignment dc_check_assignment pm_check_assignment cd_check_assignment ct_check_assignment : Value} {f_check_assignment : Addr}
    (a_check_assignment : PySem.W.nsIn K mainGlobals "check_assignment" = some (some (.ref f_check_assignment))) (l_check_assignment : K.lookup f_check_assignment = some ⟨oc_check_assignment, od_check_assignment, .func (PySem.W.fnOf "check_assignment" "check_assignment" (defArgs s_check_assignment) (defBody s_check_assignment) (defScope s_check_assignment) .none kV_check_assignment dc_check_assignment pm_check_assignment an_check_assignment cd_check_assignment ct_check_assignment), sl_check_assignment⟩) (o_check_assignment : PySem.W.codeIn K cd_check_assignment "check_assignment" = true) (k_check_assignment : PySem.W.keepIn K (.ref f_check_assignment) = true)
    {od_check_pair an_check_pair : Option Addr} {sl_check_pair : Array (Option Value)} {oc_check_pair kV_check_pair dc_check_pair pm_check_pair cd_check_pair ct_check_pair : Value} {f_check_pair : Addr}
    (a_check_pair : PySem.W.nsIn K mainGlobals "check_pair" = some (some (.ref f_check_pair))) (l_check_pair : K.lookup f_check_pair = some ⟨oc_check_pair, od_check_pair, .func (PySem.W.fnOf "check_pair" "check_pair" (defArgs s_check_pair) (defBody s_check_pair) (defScope s_check_pair) .none kV_check_pair dc_check_pair pm_check_pair an_check_pair cd_check_pair ct_check_pair), sl_check_pair⟩) (o_check_pair : PySem.W.codeIn K cd_check_pair "check_pair" = true) (k_check_pair : PySem.W.keepIn K (.ref f_check_pair) = true)
    {od_one_after_another an_one_after_another : Option Addr} {sl_one_after_another : Array (Option Value)} {oc_one_after_another kV_one_after_another dc_one_after_another pm_one_after_another cd_one_after_another ct_one_after_another : Value} {f_one_after_another : Addr}
    (a_one_after_another : PySem.W.nsIn K mainGlobals "one_after_another" = some (some (.ref f_one_after_another))) (l_one_after_another : K.lookup f_one_after_another = some ⟨oc_one_after_another, od_one_after_another, .func (PySem.W.fnOf "one_after_another" "one_after_another" (defArgs s_one_after_another) (defBody s_one_after_another) (defScope s_one_after_another) .none kV_one_after_another dc_one_after_another pm_one_after_another an_one_after_another cd_one_after_another ct_one_after_another), sl_one_after_another⟩) (o_one_after_another : PySem.W.codeIn K cd_one_after_another "one_after_another" = true) (k_one_after_another : PySem.W.keepIn K (.ref f_one_after_another) = true)
    {od_churn an_churn : Option Addr} {sl_churn : Array (Option Value)} {oc_churn kV_churn dc_churn pm_churn cd_churn ct_churn : Value} {f_churn : Addr}
    (a_churn : PySem.W.nsIn K mainGlobals "churn" = some (some (.ref f_churn))) (l_churn : K.lookup f_churn = some ⟨oc_churn, od_churn, .func (PySem.W.fnOf "churn" "churn" (defArgs s_churn) (defBody s_churn) (defScope s_churn) .none kV_churn dc_churn pm_churn an_churn cd_churn ct_churn), sl_churn⟩) (o_churn : PySem.W.codeIn K cd_churn "churn" = true) (k_churn : PySem.W.keepIn K (.ref f_churn) = true)
    {od_moves an_moves : Option Addr} {sl_moves : Array (Option Value)} {oc_moves kV_moves dc_moves pm_moves cd_moves ct_moves : Value} {f_moves : Addr}
    (a_moves : PySem.W.nsIn K mainGlobals "moves" = some (some (.ref f_moves))) (l_moves : K.lookup f_moves = some ⟨oc_moves, od_moves, .func (PySem.W.fnOf "moves" "moves" (defArgs s_moves) (defBody s_moves) (defScope s_moves) .none kV_moves dc_moves pm_moves an_moves cd_moves ct_moves), sl_moves⟩) (o_moves : PySem.W.codeIn K cd_moves "moves" = true) (k_moves : PySem.W.keepIn K (.ref f_moves) = true)
    {od_check_steps an_check_steps : Option Addr} {sl_check_steps : Array (Option Value)} {oc_check_steps kV_check_steps dc_check_steps pm_check_steps cd_check_steps ct_check_steps : Value} {f_check_steps : Addr}
    (a_check_steps : PySem.W.nsIn K mainGlobals "check_steps" = some (some (.ref f_check_steps))) (l_check_steps : K.lookup f_check_steps = some ⟨oc_check_steps, od_check_steps, .func (PySem.W.fnOf "check_steps" "check_steps" (defArgs s_check_steps) (defBody s_check_steps) (defScope s_check_steps) .none kV_check_steps dc_check_steps pm_check_steps an_check_steps cd_check_steps ct_check_steps), sl_check_steps⟩) (o_check_steps : PySem.W.codeIn K cd_check_steps "check_steps" = true) (k_check_steps : PySem.W.keepIn K (.ref f_check_steps) = true)
    {od_steps_of an_steps_of : Option Addr} {sl_steps_of : Array (Option Value)} {oc_steps_of kV_steps_of dc_steps_of pm_steps_of cd_steps_of ct_steps_of : Value} {f_steps_of : Addr}
    (a_steps_of : PySem.W.nsIn K mainGlobals "steps_of" = some (some (.ref f_steps_of))) (l_steps_of : K.lookup f_steps_of = some ⟨oc_steps_of, od_steps_of, .func (PySem.W.fnOf "steps_of" "steps_of" (defArgs s_steps_of) (defBody s_steps_of) (defScope s_steps_of) .none kV_steps_of dc_steps_of pm_steps_of an_steps_of cd_steps_of ct_steps_of), sl_steps_of⟩) (o_steps_of : PySem.W.codeIn K cd_steps_of "steps_of" = true) (k_steps_of : PySem.W.keepIn K (.ref f_steps_of) = true)
    {od_total an_total : Option Addr} {sl_total : Array (Option Value)} {oc_total kV_total dc_total pm_total cd_total ct_total : Value} {f_total : Addr}
    (a_total : PySem.W.nsIn K mainGlobals "total" = some (some (.ref f_total))) (l_total : K.lookup f_total = some ⟨oc_total, od_total, .func (PySem.W.fnOf "total" "total" (defArgs s_total) (defBody s_total) (defScope s_total) .none kV_total dc_total pm_total an_total cd_total ct_total), sl_total⟩) (o_total : PySem.W.codeIn K cd_total "total" = true) (k_total : PySem.W.keepIn K (.ref f_total) = true)
    {od_check_order an_check_order : Option Addr} {sl_check_order : Array (Option Value)} {oc_check_order kV_check_order dc_check_order pm_check_order cd_check_order ct_check_order : Value} {f_check_order : Addr}
    (a_check_order : PySem.W.nsIn K mainGlobals "check_order" = some (some (.ref f_check_order))) (l_check_order : K.lookup f_check_order = some ⟨oc_check_order, od_check_order, .func (PySem.W.fnOf "check_order" "check_order" (defArgs s_check_order) (defBody s_check_order) (defScope s_check_order) .none kV_check_order dc_check_order pm_check_order an_check_order cd_check_order ct_check_order), sl_check_order⟩) (o_check_order : PySem.W.codeIn K cd_check_order "check_order" = true) (k_check_order : PySem.W.keepIn K (.ref f_check_order) = true)
    {od_check_ordered an_check_ordered : Option Addr} {sl_check_ordered : Array (Option Value)} {oc_check_ordered kV_check_ordered dc_check_ordered pm_check_ordered cd_check_ordered ct_check_ordered : Value} {f_check_ordered : Addr}
    (a_check_ordered : PySem.W.nsIn K mainGlobals "check_ordered" = some (some (.ref f_check_ordered))) (l_check_ordered : K.lookup f_check_ordered = some ⟨oc_check_ordered, od_check_ordered, .func (PySem.W.fnOf "check_ordered" "check_ordered" (defArgs s_check_ordered) (defBody s_check_ordered) (defScope s_check_ordered) .none kV_check_ordered dc_check_ordered pm_check_ordered an_check_ordered cd_check_ordered ct_check_ordered), sl_check_ordered⟩) (o_check_ordered : PySem.W.codeIn K cd_check_ordered "check_ordered" = true) (k_check_ordered : PySem.W.keepIn K (.ref f_check_ordered) = true)
    {od_both_by_intervals an_both_by_intervals : Option Addr} {sl_both_by_intervals : Array (Option Value)} {oc_both_by_intervals kV_both_by_intervals dc_both_by_intervals pm_both_by_intervals cd_both_by_intervals ct_both_by_intervals : Value} {f_both_by_intervals : Addr}
    (a_both_by_intervals : PySem.W.nsIn K mainGlobals "both_by_intervals" = some (some (.ref f_both_by_intervals))) (l_both_by_intervals : K.lookup f_both_by_intervals = some ⟨oc_both_by_intervals, od_both_by_intervals, .func (PySem.W.fnOf "both_by_intervals" "both_by_intervals" (defArgs s_both_by_intervals) (defBody s_both_by_intervals) (defScope s_both_by_intervals) .none kV_both_by_intervals dc_both_by_intervals pm_both_by_intervals an_both_by_intervals cd_both_by_intervals ct_both_by_intervals), sl_both_by_intervals⟩) (o_both_by_intervals : PySem.W.codeIn K cd_both_by_intervals "both_by_intervals" = true) (k_both_by_intervals : PySem.W.keepIn K (.ref f_both_by_intervals) = true)
    {od_by_intervals an_by_intervals : Option Addr} {sl_by_intervals : Array (Option Value)} {oc_by_intervals kV_by_intervals dc_by_intervals pm_by_intervals cd_by_intervals ct_by_intervals : Value} {f_by_intervals : Addr}
    (a_by_intervals : PySem.W.nsIn K mainGlobals "by_intervals" = some (some (.ref f_by_intervals))) (l_by_intervals : K.lookup f_by_intervals = some ⟨oc_by_intervals, od_by_intervals, .func (PySem.W.fnOf "by_intervals" "by_intervals" (defArgs s_by_intervals) (defBody s_by_intervals) (defScope s_by_intervals) .none kV_by_intervals dc_by_intervals pm_by_intervals an_by_intervals cd_by_intervals ct_by_intervals), sl_by_intervals⟩) (o_by_intervals : PySem.W.codeIn K cd_by_intervals "by_intervals" = true) (k_by_intervals : PySem.W.keepIn K (.ref f_by_intervals) = true)
    {od_boundaries an_boundaries : Option Addr} {sl_boundaries : Array (Option Value)} {oc_boundaries kV_boundaries dc_boundaries pm_boundaries cd_boundaries ct_boundaries : Value} {f_boundaries : Addr}
    (a_boundaries : PySem.W.nsIn K mainGlobals "boundaries" = some (some (.ref f_boundaries))) (l_boundaries : K.lookup f_boundaries = some ⟨oc_boundaries, od_boundaries, .func (PySem.W.fnOf "boundaries" "boundaries" (defArgs s_boundaries) (defBody s_boundaries) (defScope s_boundaries) .none kV_boundaries dc_boundaries pm_boundaries an_boundaries cd_boundaries ct_boundaries), sl_boundaries⟩) (o_boundaries : PySem.W.codeIn K cd_boundaries "boundaries" = true) (k_boundaries : PySem.W.keepIn K (.ref f_boundaries) = true)
    {od_interval_churn an_interval_churn : Option Addr} {sl_interval_churn : Array (Option Value)} {oc_interval_churn kV_interval_churn dc_interval_churn pm_interval_churn cd_interval_churn ct_interval_churn : Value} {f_interval_churn : Addr}
    (a_interval_churn : PySem.W.nsIn K mainGlobals "interval_churn" = some (some (.ref f_interval_churn))) (l_interval_churn : K.lookup f_interval_churn = some ⟨oc_interval_churn, od_interval_churn, .func (PySem.W.fnOf "interval_churn" "interval_churn" (defArgs s_interval_churn) (defBody s_interval_churn) (defScope s_interval_churn) .none kV_interval_churn dc_interval_churn pm_interval_churn an_interval_churn cd_interval_churn ct_interval_churn), sl_interval_churn⟩) (o_interval_churn : PySem.W.codeIn K cd_interval_churn "interval_churn" = true) (k_interval_churn : PySem.W.keepIn K (.ref f_interval_churn) = true)
    {od_waste an_waste : Option Addr} {sl_waste : Array (Option Value)} {oc_waste kV_waste dc_waste pm_waste cd_waste ct_waste : Value} {f_waste : Addr}
    (a_waste : PySem.W.nsIn K mainGlobals "waste" = some (some (.ref f_waste))) (l_waste : K.lookup f_waste = some ⟨oc_waste, od_waste, .func (PySem.W.fnOf "waste" "waste" (defArgs s_waste) (defBody s_waste) (defScope s_waste) .none kV_waste dc_waste pm_waste an_waste cd_waste ct_waste), sl_waste⟩) (o_waste : PySem.W.codeIn K cd_waste "waste" = true) (k_waste : PySem.W.keepIn K (.ref f_waste) = true)
    {od_interval_moves an_interval_moves : Option Addr} {sl_interval_moves : Array (Option Value)} {oc_interval_moves kV_interval_moves dc_interval_moves pm_interval_moves cd_interval_moves ct_interval_moves : Value} {f_interval_moves : Addr}
    (a_interval_moves : PySem.W.nsIn K mainGlobals "interval_moves" = some (some (.ref f_interval_moves))) (l_interval_moves : K.lookup f_interval_moves = some ⟨oc_interval_moves, od_interval_moves, .func (PySem.W.fnOf "interval_moves" "interval_moves" (defArgs s_interval_moves) (defBody s_interval_moves) (defScope s_interval_moves) .none kV_interval_moves dc_interval_moves pm_interval_moves an_interval_moves cd_interval_moves ct_interval_moves), sl_interval_moves⟩) (o_interval_moves : PySem.W.codeIn K cd_interval_moves "interval_moves" = true) (k_interval_moves : PySem.W.keepIn K (.ref f_interval_moves) = true)
    {od_best_order an_best_order : Option Addr} {sl_best_order : Array (Option Value)} {oc_best_order kV_best_order dc_best_order pm_best_order cd_best_order ct_best_order : Value} {f_best_order : Addr}
    (a_best_order : PySem.W.nsIn K mainGlobals "best_order" = some (some (.ref f_best_order))) (l_best_order : K.lookup f_best_order = some ⟨oc_best_order, od_best_order, .func (PySem.W.fnOf "best_order" "best_order" (defArgs s_best_order) (defBody s_best_order) (defScope s_best_order) .none kV_best_order dc_best_order pm_best_order an_best_order cd_best_order ct_best_order), sl_best_order⟩) (o_best_order : PySem.W.codeIn K cd_best_order "best_order" = true) (k_best_order : PySem.W.keepIn K (.ref f_best_order) = true)
    {od__law_stream an__law_stream : Option Addr} {sl__law_stream : Array (Option Value)} {oc__law_stream kV__law_stream dc__law_stream pm__law_stream cd__law_stream ct__law_stream : Value} {f__law_stream : Addr}
    (a__law_stream : PySem.W.nsIn K mainGlobals "_law_stream" = some (some (.ref f__law_stream))) (l__law_stream : K.lookup f__law_stream = some ⟨oc__law_stream, od__law_stream, .func (PySem.W.fnOf "_law_stream" "_law_stream" (defArgs s__law_stream) (defBody s__law_stream) (defScope s__law_stream) .none kV__law_stream dc__law_stream pm__law_stream an__law_stream cd__law_stream ct__law_stream), sl__law_stream⟩) (o__law_stream : PySem.W.codeIn K cd__law_stream "_law_stream" = true) (k__law_stream : PySem.W.keepIn K (.ref f__law_stream) = true)
    {od__law_next an__law_next : Option Addr} {sl__law_next : Array (Option Value)} {oc__law_next kV__law_next dc__law_next pm__law_next cd__law_next ct__law_next : Value} {f__law_next : Addr}
    (a__law_next : PySem.W.nsIn K mainGlobals "_law_next" = some (some (.ref f__law_next))) (l__law_next : K.lookup f__law_next = some ⟨oc__law_next, od__law_next, .func (PySem.W.fnOf "_law_next" "_law_next" (defArgs s__law_next) (defBody s__law_next) (defScope s__law_next) .none kV__law_next dc__law_next pm__law_next an__law_next cd__law_next ct__law_next), sl__law_next⟩) (o__law_next : PySem.W.codeIn K cd__law_next "_law_next" = true) (k__law_next : PySem.W.keepIn K (.ref f__law_next) = true)
    {od__law_allocation an__law_allocation : Option Addr} {sl__law_allocation : Array (Option Value)} {oc__law_allocation kV__law_allocation dc__law_allocation pm__law_allocation cd__law_allocation ct__law_allocation : Value} {f__law_allocation : Addr}
    (a__law_allocation : PySem.W.nsIn K mainGlobals "_law_allocation" = some (some (.ref f__law_allocation))) (l__law_allocation : K.lookup f__law_allocation = some ⟨oc__law_allocation, od__law_allocation, .func (PySem.W.fnOf "_law_allocation" "_law_allocation" (defArgs s__law_allocation) (defBody s__law_allocation) (defScope s__law_allocation) .none kV__law_allocation dc__law_allocation pm__law_allocation an__law_allocation cd__law_allocation ct__law_allocation), sl__law_allocation⟩) (o__law_allocation : PySem.W.codeIn K cd__law_allocation "_law_allocation" = true) (k__law_allocation : PySem.W.keepIn K (.ref f__law_allocation) = true)
    {od__law_order an__law_order : Option Addr} {sl__law_order : Array (Option Value)} {oc__law_order kV__law_order dc__law_order pm__law_order cd__law_order ct__law_order : Value} {f__law_order : Addr}
    (a__law_order : PySem.W.nsIn K mainGlobals "_law_order" = some (some (.ref f__law_order))) (l__law_order : K.lookup f__law_order = some ⟨oc__law_order, od__law_order, .func (PySem.W.fnOf "_law_order" "_law_order" (defArgs s__law_order) (defBody s__law_order) (defScope s__law_order) .none kV__law_order dc__law_order pm__law_order an__law_order cd__law_order ct__law_order), sl__law_order⟩) (o__law_order : PySem.W.codeIn K cd__law_order "_law_order" = true) (k__law_order : PySem.W.keepIn K (.ref f__law_order) = true)
    {od__law_told an__law_told : Option Addr} {sl__law_told : Array (Option Value)} {oc__law_told kV__law_told dc__law_told pm__law_told cd__law_told ct__law_told : Value} {f__law_told : Addr}
    (a__law_told : PySem.W.nsIn K mainGlobals "_law_told" = some (some (.ref f__law_told))) (l__law_told : K.lookup f__law_told = some ⟨oc__law_told, od__law_told, .func (PySem.W.fnOf "_law_told" "_law_told" (defArgs s__law_told) (defBody s__law_told) (defScope s__law_told) .none kV__law_told dc__law_told pm__law_told an__law_told cd__law_told ct__law_told), sl__law_told⟩) (o__law_told : PySem.W.codeIn K cd__law_told "_law_told" = true) (k__law_told : PySem.W.keepIn K (.ref f__law_told) = true)
    {od__law_wrong_first an__law_wrong_first : Option Addr} {sl__law_wrong_first : Array (Option Value)} {oc__law_wrong_first kV__law_wrong_first dc__law_wrong_first pm__law_wrong_first cd__law_wrong_first ct__law_wrong_first : Value} {f__law_wrong_first : Addr}
    (a__law_wrong_first : PySem.W.nsIn K mainGlobals "_law_wrong_first" = some (some (.ref f__law_wrong_first))) (l__law_wrong_first : K.lookup f__law_wrong_first = some ⟨oc__law_wrong_first, od__law_wrong_first, .func (PySem.W.fnOf "_law_wrong_first" "_law_wrong_first" (defArgs s__law_wrong_first) (defBody s__law_wrong_first) (defScope s__law_wrong_first) .none kV__law_wrong_first dc__law_wrong_first pm__law_wrong_first an__law_wrong_first cd__law_wrong_first ct__law_wrong_first), sl__law_wrong_first⟩) (o__law_wrong_first : PySem.W.codeIn K cd__law_wrong_first "_law_wrong_first" = true) (k__law_wrong_first : PySem.W.keepIn K (.ref f__law_wrong_first) = true)
    {od__law_wrong_second an__law_wrong_second : Option Addr} {sl__law_wrong_second : Array (Option Value)} {oc__law_wrong_second kV__law_wrong_second dc__law_wrong_second pm__law_wrong_second cd__law_wrong_second ct__law_wrong_second : Value} {f__law_wrong_second : Addr}
    (a__law_wrong_second : PySem.W.nsIn K mainGlobals "_law_wrong_second" = some (some (.ref f__law_wrong_second))) (l__law_wrong_second : K.lookup f__law_wrong_second = some ⟨oc__law_wrong_second, od__law_wrong_second, .func (PySem.W.fnOf "_law_wrong_second" "_law_wrong_second" (defArgs s__law_wrong_second) (defBody s__law_wrong_second) (defScope s__law_wrong_second) .none kV__law_wrong_second dc__law_wrong_second pm__law_wrong_second an__law_wrong_second cd__law_wrong_second ct__law_wrong_second), sl__law_wrong_second⟩) (o__law_wrong_second : PySem.W.codeIn K cd__law_wrong_second "_law_wrong_second" = true) (k__law_wrong_second : PySem.W.keepIn K (.ref f__law_wrong_second) = true)
    {od__law_wrong_order an__law_wrong_order : Option Addr} {sl__law_wrong_order : Array (Option Value)} {oc__law_wrong_order kV__law_wrong_order dc__law_wrong_order pm__law_wrong_order cd__law_wrong_order ct__law_wrong_order : Value} {f__law_wrong_order : Addr}
    (a__law_wrong_order : PySem.W.nsIn K mainGlobals "_law_wrong_order" = some (some (.ref f__law_wrong_order))) (l__law_wrong_order : K.lookup f__law_wrong_order = some ⟨oc__law_wrong_order, od__law_wrong_order, .func (PySem.W.fnOf "_law_wrong_order" "_law_wrong_order" (defArgs s__law_wrong_order) (defBody s__law_wrong_order) (defScope s__law_wrong_order) .none kV__law_wrong_order dc__law_wrong_order pm__law_wrong_order an__law_wrong_order cd__law_wrong_order ct__law_wrong_order), sl__law_wrong_order⟩) (o__law_wrong_order : PySem.W.codeIn K cd__law_wrong_order "_law_wrong_order" = true) (k__law_wrong_order : PySem.W.keepIn K (.ref f__law_wrong_order) = true)
    {od__law_wrong_series an__law_wrong_series : Option Addr} {sl__law_wrong_series : Array (Option Value)} {oc__law_wrong_series kV__law_wrong_series dc__law_wrong_series pm__law_wrong_series cd__law_wrong_series ct__law_wrong_series : Value} {f__law_wrong_series : Addr}
    (a__law_wrong_series : PySem.W.nsIn K mainGlobals "_law_wrong_series" = some (some (.ref f__law_wrong_series))) (l__law_wrong_series : K.lookup f__law_wrong_series = some ⟨oc__law_wrong_series, od__law_wrong_series, .func (PySem.W.fnOf "_law_wrong_series" "_law_wrong_series" (defArgs s__law_wrong_series) (defBody s__law_wrong_series) (defScope s__law_wrong_series) .none kV__law_wrong_series dc__law_wrong_series pm__law_wrong_series an__law_wrong_series cd__law_wrong_series ct__law_wrong_series), sl__law_wrong_series⟩) (o__law_wrong_series : PySem.W.codeIn K cd__law_wrong_series "_law_wrong_series" = true) (k__law_wrong_series : PySem.W.keepIn K (.ref f__law_wrong_series) = true)
    {od_law an_law : Option Addr} {sl_law : Array (Option Value)} {oc_law kV_law dc_law pm_law cd_law ct_law : Value} {f_law : Addr}
    (a_law : PySem.W.nsIn K mainGlobals "law" = some (some (.ref f_law))) (l_law : K.lookup f_law = some ⟨oc_law, od_law, .func (PySem.W.fnOf "law" "law" (defArgs s_law) (defBody s_law) (defScope s_law) .none kV_law dc_law pm_law an_law cd_law ct_law), sl_law⟩) (o_law : PySem.W.codeIn K cd_law "law" = true) (k_law : PySem.W.keepIn K (.ref f_law) = true)
    (z_ValueError : PySem.W.nsIn K mainGlobals "ValueError" = some none)
    (z_abs : PySem.W.nsIn K mainGlobals "abs" = some none)
    (z_all : PySem.W.nsIn K mainGlobals "all" = some none)
    (z_bool : PySem.W.nsIn K mainGlobals "bool" = some none)
    (z_enumerate : PySem.W.nsIn K mainGlobals "enumerate" = some none)
    (z_int : PySem.W.nsIn K mainGlobals "int" = some none)
    (z_isinstance : PySem.W.nsIn K mainGlobals "isinstance" = some none)
    (z_len : PySem.W.nsIn K mainGlobals "len" = some none)
    (z_list : PySem.W.nsIn K mainGlobals "list" = some none)
    (z_max : PySem.W.nsIn K mainGlobals "max" = some none)
    (z_min : PySem.W.nsIn K mainGlobals "min" = some none)
    (z_range : PySem.W.nsIn K mainGlobals "range" = some none)
    (z_set : PySem.W.nsIn K mainGlobals "set" = some none)
    (z_sum : PySem.W.nsIn K mainGlobals "sum" = some none)
    (z_tuple : PySem.W.nsIn K mainGlobals "tuple" = some none)
    (z_zip : PySem.W.nsIn K mainGlobals "zip" = some none)
    {tk_MOST_VARIANTS : Tok} (g_MOST_VARIANTS : PySem.W.nsIn K mainGlobals "MOST_VARIANTS" = some (some (.int 5 tk_MOST_VARIANTS)))
    {tk_MOST_BUCKETS : Tok} (g_MOST_BUCKETS : PySem.W.nsIn K mainGlobals "MOST_BUCKETS" = some (some (.int 20 tk_MOST_BUCKETS)))
    {tk_MOST_ALLOCATIONS_histories : Tok} (g_MOST_ALLOCATIONS_histories : PySem.W.nsIn K mainGlobals "MOST_ALLOCATIONS_histories" = some (some (.int 10 tk_MOST_ALLOCATIONS_histories)))
    {tk_MOST_ALLOCATIONS_thresholds : Tok} (g_MOST_ALLOCATIONS_thresholds : PySem.W.nsIn K mainGlobals "MOST_ALLOCATIONS_thresholds" = some (some (.int 6 tk_MOST_ALLOCATIONS_thresholds)))
    (i_permutations : PySem.W.nsIn K mainGlobals "permutations" = some (some (.type "itertools.permutations")))
    {xC_BadValue xI_BadValue xcc_BadValue xcda_BadValue : Addr} {xkV_BadValue xdoc_BadValue xpm_BadValue xct_BadValue xoc_BadValue xcl_BadValue xccl_BadValue : Value} {xan_BadValue xod_BadValue xcdd_BadValue xcld_BadValue : Option Addr} {xosl_BadValue xcsl_BadValue xccs_BadValue : Array (Option Value)} {xvs_BadValue : Array Value} {xfile_BadValue : Str} {xtf_BadValue : Tok}
    {xnm_BadValue xq_BadValue : Str} {xN_BadValue : Addr} {xbs_BadValue xbm_BadValue xsub_BadValue : List Value} {xsn_BadValue : List Str} {xab_BadValue : Bool} {xcol_BadValue : Option Bool} {xdd_BadValue : Option Addr} {x0_BadValue x1_BadValue x2_BadValue x3_BadValue x5_BadValue : Option Value} {xcd_BadValue : ClassData}
    (xa_BadValue : PySem.W.nsIn K mainGlobals "BadValue" = some (some (.ref xC_BadValue))) (xi_BadValue : PySem.W.findIn K (.ref xC_BadValue) "__init__" = some (some (.ref xI_BadValue)))
    (xl_BadValue : K.lookup xI_BadValue = some ⟨xoc_BadValue, xod_BadValue, .func (PySem.W.ksFn "__init__" "BadValue.__init__" (defArgs s_ini_BadValue) (defBody s_ini_BadValue) (defScope s_ini_BadValue) .none xkV_BadValue xdoc_BadValue xpm_BadValue xan_BadValue (.ref xcda_BadValue) xct_BadValue xcc_BadValue), xosl_BadValue⟩)
    (xo_BadValue : PySem.W.codeIn K (.ref xcda_BadValue) "BadValue.__init__" = true) (xd_BadValue : K.lookup xcda_BadValue = some ⟨xccl_BadValue, xcdd_BadValue, .fields xvs_BadValue, xccs_BadValue⟩) (xv_BadValue : xvs_BadValue[2]? = some (.str xfile_BadValue xtf_BadValue)) (xf_BadValue : ((l.prog.main.file : Str) == xfile_BadValue) = true)
    (xc_BadValue : K.lookup xcc_BadValue = some ⟨xcl_BadValue, xcld_BadValue, .cell (some (.ref xC_BadValue)), xcsl_BadValue⟩) (xk_BadValue : K.lookup xC_BadValue = some (excClassObj xnm_BadValue xq_BadValue xC_BadValue xN_BadValue xbs_BadValue xbm_BadValue true xsn_BadValue xsub_BadValue xab_BadValue xcol_BadValue xdd_BadValue x0_BadValue x1_BadValue x2_BadValue x3_BadValue x5_BadValue "ValueError.__new__")) (xr_BadValue : PySem.HandSPX.refsVE xbm_BadValue = true)
    (xs_BadValue : PySem.W.findIn K (.ref xC_BadValue) "__setattr__" = some (some (.builtin "object.__setattr__"))) (xb_BadValue : PySem.W.subIn K (.ref xC_BadValue) (.type "BaseException") = some true) (xt_BadValue : PySem.W.typeIn K (.ref xC_BadValue) = some (.type "type")) (xp_BadValue : PySem.W.keepIn K (.ref xC_BadValue) = true)
    (xw_BadValue : PySem.W.subIn K (.ref xC_BadValue) (.type "ValueError") = some true) (xz_BadValue : PySem.W.nsIn K cStatics "thirdparty.any" = some none) (xu_BadValue : PySem.W.ks_superIn K xC_BadValue xC_BadValue "__init__" = some (some (.builtin "ValueError.__init__"))) (xy_BadValue : PySem.W.typeIn K (.ref xI_BadValue) = some (.type "function"))
    (xg_BadValue : PySem.W.findIn K (.ref xC_BadValue) "__getattribute__" = some (some (.builtin "BaseException.__getattribute__"))) (xh_BadValue : PySem.W.findIn K (.ref xC_BadValue) "__getattr__" = some none) (xD_BadValue : PySem.W.hasDictIn K xC_BadValue = true) (xn_BadValue : PySem.W.findIn K (.ref xC_BadValue) "name" = some none)
    (xe_BadValue : PySem.W.clsIn K xC_BadValue = some xcd_BadValue) (xx_BadValue : PySem.W.subIn K (.ref xC_BadValue) (.ref xC_BadValue) = some true) (xj_BadValue : PySem.W.nsIn K mainGlobals "super" = some none) (xm_BadValue : (l.prog.main.scope.names.lookup ("super" : Str)).isSome = false)
    {xL0 : Addr} (yA_L : PySem.W.findIn K (.ref xC_BadValue) "__class__" = some (some (.builtin "object.__class__"))) (yN_L : PySem.W.specialIn K (.builtin "object.__class__") "__get__" = some (some (.builtin "getset_descriptor.__get__"))) (yT_L : PySem.W.takesIn K (.builtin "object.__class__") = some true) (yM_L : PySem.W.mroIn K xC_BadValue (.type "object") = some true)
    (yL_L : PySem.W.nsIn K mainGlobals "LeastError" = some (some (.ref xL0))) (yB_L : PySem.W.subIn K (.ref xL0) (.type "BaseException") = some true) (yD_L : PySem.W.hasDictIn K xL0 = true) (yY_L : PySem.W.typeIn K (.ref xL0) = some (.type "type")) (yS_L : PySem.W.subIn K (.ref xC_BadValue) (.ref xL0) = some true) :
    ∃ fd : FuncData, (∀ (s : Shared) (v : Value), BindsTo s fd ⟨[v], []⟩ [("script", v)]) ∧ ∀ base : Heap, K.In base → base.Ns mainGlobals mg → FnOk l.prog w K mg base CX0 11 fa fd ["script"] (spLaw K) := by
  have e := hfa.symm.trans (PySem.W.mg_of X G a_law)
  cases e
  have T : Txt mg := { b_ValueError := PySem.W.mg_none_of X G z_ValueError, b_abs := PySem.W.mg_none_of X G z_abs, b_all := PySem.W.mg_none_of X G z_all, b_bool := PySem.W.mg_none_of X G z_bool, b_enumerate := PySem.W.mg_none_of X G z_enumerate, b_int := PySem.W.mg_none_of X G z_int, b_isinstance := PySem.W.mg_none_of X G z_isinstance, b_len := PySem.W.mg_none_of X G z_len, b_list := PySem.W.mg_none_of X G z_list, b_max := PySem.W.mg_none_of X G z_max, b_min := PySem.W.mg_none_of X G z_min, b_range := PySem.W.mg_none_of X G z_range, b_set := PySem.W.mg_none_of X G z_set, b_sum := PySem.W.mg_none_of X G z_sum, b_tuple := PySem.W.mg_none_of X G z_tuple, b_zip := PySem.W.mg_none_of X G z_zip, k_MOST_VARIANTS := ⟨_, PySem.W.mg_of X G g_MOST_VARIANTS⟩, k_MOST_BUCKETS := ⟨_, PySem.W.mg_of X G g_MOST_BUCKETS⟩, k_MOST_ALLOCATIONS_histories := ⟨_, PySem.W.mg_of X G g_MOST_ALLOCATIONS_histories⟩, k_MOST_ALLOCATIONS_thresholds := ⟨_, PySem.W.mg_of X G g_MOST_ALLOCATIONS_thresholds⟩, i_permutations := PySem.W.mg_of X G i_permutations }
  have F_is_integer := fun_mk (st := s_is_integer) l_is_integer o_is_integer k_is_integer
  have b_is_integer := F_is_integer.binds (ps := p_is_integer) fun _ _ _ _ _ _ us hl => match us, hl with | [_, _, _], _ => rfl
  have m_is_integer := PySem.W.mg_of X G a_is_integer
  have F_are_integers := fun_mk (st := s_are_integers) l_are_integers o_are_integers k_are_integers
  have b_are_integers := F_are_integers.binds (ps := p_are_integers) fun _ _ _ _ _ _ us hl => match us, hl with | [_, _, _], _ => rfl
  have m_are_integers := PySem.W.mg_of X G a_are_integers
  have F_require := fun_mk (st := s_require) l_require o_require k_require
  have b_require := F_require.binds (ps := p_require) fun _ _ _ _ _ _ us hl => match us, hl with | [_, _], _ => rfl
  have m_require := PySem.W.mg_of X G a_require
  have F_is_allocation := fun_mk (st := s_is_allocation) l_is_allocation o_is_allocation k_is_allocation
  have b_is_allocation := F_is_allocation.binds (ps := p_is_allocation) fun _ _ _ _ _ _ us hl => match us, hl with | [_, _, _], _ => rfl
  have m_is_allocation := PySem.W.mg_of X G a_is_allocation
  have F_is_bounded_allocation := fun_mk (st := s_is_bounded_allocation) l_is_bounded_allocation o_is_bounded_allocation k_is_bounded_allocation
  have b_is_bounded_allocation := F_is_bounded_allocation.binds (ps := p_is_bounded_allocation) fun _ _ _ _ _ _ us hl => match us, hl with | [_], _ => rfl
  have m_is_bounded_allocation := PySem.W.mg_of X G a_is_bounded_allocation
  have F_are_allocations := fun_mk (st := s_are_allocations) l_are_allocations o_are_allocations k_are_allocations
  have b_are_allocations := F_are_allocations.binds (ps := p_are_allocations) fun _ _ _ _ _ _ us hl => match us, hl with | [_, _], _ => rfl
  have m_are_allocations := PySem.W.mg_of X G a_are_allocations
  have F_is_order := fun_mk (st := s_is_order) l_is_order o_is_order k_is_order
  have b_is_order := F_is_order.binds (ps := p_is_order) fun _ _ _ _ _ _ us hl => match us, hl with | [_, _], _ => rfl
  have m_is_order := PySem.W.mg_of X G a_is_order
  have F_check_allocation := fun_mk (st := s_check_allocation) l_check_allocation o_check_allocation k_check_allocation
  have b_check_allocation := F_check_allocation.binds (ps := p_check_allocation) fun _ _ _ _ _ _ us hl => match us, hl with | [_, _], _ => rfl
  have m_check_allocation := PySem.W.mg_of X G a_check_allocation
  have F_check_alike := fun_mk (st := s_check_alike) l_check_alike o_check_alike k_check_alike
  have b_check_alike := F_check_alike.binds (ps := p_check_alike) fun _ _ _ _ _ _ us hl => match us, hl with | [_, _, _], _ => rfl
  have m_check_alike := PySem.W.mg_of X G a_check_alike
  have F_transfer := fun_mk (st := s_transfer) l_transfer o_transfer k_transfer
  have b_transfer := F_transfer.binds (ps := p_transfer) fun _ _ _ _ _ _ us hl => match us, hl with | [_, _], _ => rfl
  have m_transfer := PySem.W.mg_of X G a_transfer
  have F_is_assignment := fun_mk (st := s_is_assignment) l_is_assignment o_is_assignment k_is_assignment
  have b_is_assignment := F_is_assignment.binds (ps := p_is_assignment) fun _ _ _ _ _ _ us hl => match us, hl with | [_, _, _], _ => rfl
  have m_is_assignment := PySem.W.mg_of X G a_is_assignment
  have F_is_bounded_assignment := fun_mk (st := s_is_bounded_assignment) l_is_bounded_assignment o_is_bounded_assignment k_is_bounded_assignment
  have b_is_bounded_assignment := F_is_bounded_assignment.binds (ps := p_is_bounded_assignment) fun _ _ _ _ _ _ us hl => match us, hl with | [_, _], _ => rfl
  have m_is_bounded_assignment := PySem.W.mg_of X G a_is_bounded_assignment
  have F_check_assignment := fun_mk (st := s_check_assignment) l_check_assignment o_check_assignment k_check_assignment
  have b_check_assignment := F_check_assignment.binds (ps := p_check_assignment) fun _ _ _ _ _ _ us hl => match us, hl with | [_, _], _ => rfl
  have m_check_assignment := PySem.W.mg_of X G a_check_assignment
  have F_check_pair := fun_mk (st := s_check_pair) l_check_pair o_check_pair k_check_pair
  have b_check_pair := F_check_pair.binds (ps := p_check_pair) fun _ _ _ _ _ _ us hl => match us, hl with | [_, _], _ => rfl
  have m_check_pair := PySem.W.mg_of X G a_check_pair
  have F_one_after_another := fun_mk (st := s_one_after_another) l_one_after_another o_one_after_another k_one_after_another
  have b_one_after_another := F_one_after_another.binds (ps := p_one_after_another) fun _ _ _ _ _ _ us hl => match us, hl with | [_, _], _ => rfl
  have m_one_after_another := PySem.W.mg_of X G a_one_after_another
  have F_churn := fun_mk (st := s_churn) l_churn o_churn k_churn
  have b_churn := F_churn.binds (ps := p_churn) fun _ _ _ _ _ _ us hl => match us, hl with | [_, _], _ => rfl
  have m_churn := PySem.W.mg_of X G a_churn
  have F_moves := fun_mk (st := s_moves) l_moves o_moves k_moves
  have b_moves := F_moves.binds (ps := p_moves) fun _ _ _ _ _ _ us hl => match us, hl with | [_, _], _ => rfl
  have m_moves := PySem.W.mg_of X G a_moves
  have F_check_steps := fun_mk (st := s_check_steps) l_check_steps o_check_steps k_check_steps
  have b_check_steps := F_check_steps.binds (ps := p_check_steps) fun _ _ _ _ _ _ us hl => match us, hl with | [_], _ => rfl
  have m_check_steps := PySem.W.mg_of X G a_check_steps
  have F_steps_of := fun_mk (st := s_steps_of) l_steps_of o_steps_of k_steps_of
  have b_steps_of := F_steps_of.binds (ps := p_steps_of) fun _ _ _ _ _ _ us hl => match us, hl with | [_], _ => rfl
  have m_steps_of := PySem.W.mg_of X G a_steps_of
  have F_total := fun_mk (st := s_total) l_total o_total k_total
  have b_total := F_total.binds (ps := p_total) fun _ _ _ _ _ _ us hl => match us, hl with | [_], _ => rfl
  have m_total := PySem.W.mg_of X G a_total
  have F_check_order := fun_mk (st := s_check_order) l_check_order o_check_order k_check_order
  have b_check_order := F_check_order.binds (ps := p_check_order) fun _ _ _ _ _ _ us hl => match us, hl with | [_, _], _ => rfl
  have m_check_order := PySem.W.mg_of X G a_check_order
  have F_check_ordered := fun_mk (st := s_check_ordered) l_check_ordered o_check_ordered k_check_ordered
  have b_check_ordered := F_check_ordered.binds (ps := p_check_ordered) fun _ _ _ _ _ _ us hl => match us, hl with | [_, _], _ => rfl
  have m_check_ordered := PySem.W.mg_of X G a_check_ordered
  have F_both_by_intervals := fun_mk (st := s_both_by_intervals) l_both_by_intervals o_both_by_intervals k_both_by_intervals
  have b_both_by_intervals := F_both_by_intervals.binds (ps := p_both_by_intervals) fun _ _ _ _ _ _ us hl => match us, hl with | [_, _, _], _ => rfl
  have m_both_by_intervals := PySem.W.mg_of X G a_both_by_intervals
  have F_by_intervals := fun_mk (st := s_by_intervals) l_by_intervals o_by_intervals k_by_intervals
  have b_by_intervals := F_by_intervals.binds (ps := p_by_intervals) fun _ _ _ _ _ _ us hl => match us, hl with | [_, _], _ => rfl
  have m_by_intervals := PySem.W.mg_of X G a_by_intervals
  have F_boundaries := fun_mk (st := s_boundaries) l_boundaries o_boundaries k_boundaries
  have b_boundaries := F_boundaries.binds (ps := p_boundaries) fun _ _ _ _ _ _ us hl => match us, hl with | [_, _], _ => rfl
  have m_boundaries := PySem.W.mg_of X G a_boundaries
  have F_interval_churn := fun_mk (st := s_interval_churn) l_interval_churn o_interval_churn k_interval_churn
  have b_interval_churn := F_interval_churn.binds (ps := p_interval_churn) fun _ _ _ _ _ _ us hl => match us, hl with | [_, _, _], _ => rfl
  have m_interval_churn := PySem.W.mg_of X G a_interval_churn
  have F_waste := fun_mk (st := s_waste) l_waste o_waste k_waste
  have b_waste := F_waste.binds (ps := p_waste) fun _ _ _ _ _ _ us hl => match us, hl with | [_, _, _], _ => rfl
  have m_waste := PySem.W.mg_of X G a_waste
  have F_interval_moves := fun_mk (st := s_interval_moves) l_interval_moves o_interval_moves k_interval_moves
  have b_interval_moves := F_interval_moves.binds (ps := p_interval_moves) fun _ _ _ _ _ _ us hl => match us, hl with | [_, _, _], _ => rfl
  have m_interval_moves := PySem.W.mg_of X G a_interval_moves
  have F_best_order := fun_mk (st := s_best_order) l_best_order o_best_order k_best_order
  have b_best_order := F_best_order.binds (ps := p_best_order) fun _ _ _ _ _ _ us hl => match us, hl with | [_], _ => rfl
  have m_best_order := PySem.W.mg_of X G a_best_order
  have F__law_stream := fun_mk (st := s__law_stream) l__law_stream o__law_stream k__law_stream
  have b__law_stream := F__law_stream.binds (ps := p__law_stream) fun _ _ _ _ _ _ us hl => match us, hl with | [_], _ => rfl
  have m__law_stream := PySem.W.mg_of X G a__law_stream
  have F__law_next := fun_mk (st := s__law_next) l__law_next o__law_next k__law_next
  have b__law_next := F__law_next.binds (ps := p__law_next) fun _ _ _ _ _ _ us hl => match us, hl with | [_, _], _ => rfl
  have m__law_next := PySem.W.mg_of X G a__law_next
  have F__law_allocation := fun_mk (st := s__law_allocation) l__law_allocation o__law_allocation k__law_allocation
  have b__law_allocation := F__law_allocation.binds (ps := p__law_allocation) fun _ _ _ _ _ _ us hl => match us, hl with | [_, _, _], _ => rfl
  have m__law_allocation := PySem.W.mg_of X G a__law_allocation
  have F__law_order := fun_mk (st := s__law_order) l__law_order o__law_order k__law_order
  have b__law_order := F__law_order.binds (ps := p__law_order) fun _ _ _ _ _ _ us hl => match us, hl with | [_, _], _ => rfl
  have m__law_order := PySem.W.mg_of X G a__law_order
  have F__law_told := fun_mk (st := s__law_told) l__law_told o__law_told k__law_told
  have b__law_told := F__law_told.binds (ps := p__law_told) fun _ _ _ _ _ _ us hl => match us, hl with | [_, _, _, _], _ => rfl
  have m__law_told := PySem.W.mg_of X G a__law_told
  have F__law_wrong_first := fun_mk (st := s__law_wrong_first) l__law_wrong_first o__law_wrong_first k__law_wrong_first
  have b__law_wrong_first := F__law_wrong_first.binds (ps := p__law_wrong_first) fun _ _ _ _ _ _ us hl => match us, hl with | [_], _ => rfl
  have m__law_wrong_first := PySem.W.mg_of X G a__law_wrong_first
  have F__law_wrong_second := fun_mk (st := s__law_wrong_second) l__law_wrong_second o__law_wrong_second k__law_wrong_second
  have b__law_wrong_second := F__law_wrong_second.binds (ps := p__law_wrong_second) fun _ _ _ _ _ _ us hl => match us, hl with | [_, _], _ => rfl
  have m__law_wrong_second := PySem.W.mg_of X G a__law_wrong_second
  have F__law_wrong_order := fun_mk (st := s__law_wrong_order) l__law_wrong_order o__law_wrong_order k__law_wrong_order
  have b__law_wrong_order := F__law_wrong_order.binds (ps := p__law_wrong_order) fun _ _ _ _ _ _ us hl => match us, hl with | [_, _], _ => rfl
  have m__law_wrong_order := PySem.W.mg_of X G a__law_wrong_order
  have F__law_wrong_series := fun_mk (st := s__law_wrong_series) l__law_wrong_series o__law_wrong_series k__law_wrong_series
  have b__law_wrong_series := F__law_wrong_series.binds (ps := p__law_wrong_series) fun _ _ _ _ _ _ us hl => match us, hl with | [_, _], _ => rfl
  have m__law_wrong_series := PySem.W.mg_of X G a__law_wrong_series
  have F_law := fun_mk (st := s_law) l_law o_law k_law
  have O_BadValue : OexC K xC_BadValue := ⟨⟨_, _, _, _, _, _, _, _, _, _, _, _, _, _, _, xk_BadValue, xr_BadValue⟩, xs_BadValue, xb_BadValue, xt_BadValue, xp_BadValue⟩
  have I_BadValue := fun base => ok_ini_BadValue (P := l.prog) (w := w) (mg := mg) (base := base) xl_BadValue xo_BadValue xd_BadValue xv_BadValue xf_BadValue xc_BadValue O_BadValue xn_BadValue (PySem.W.mg_none_of X G xj_BadValue) xw_BadValue xz_BadValue xu_BadValue xm_BadValue
  have J_BadValue : Binds K (PySem.W.ksFn "__init__" "BadValue.__init__" (defArgs s_ini_BadValue) (defBody s_ini_BadValue) (defScope s_ini_BadValue) .none xkV_BadValue xdoc_BadValue xpm_BadValue xan_BadValue (.ref xcda_BadValue) xct_BadValue xcc_BadValue) ["self", "name"] [] := .all fun us hl => match us, hl with | [_, _], _ => rfl
  have E_BadValue : ∀ base, Exc1 l.prog w K mg base "BadValue" "name" xC_BadValue := fun base => ⟨O_BadValue, ⟨xg_BadValue, xh_BadValue, xb_BadValue, xD_BadValue⟩, PySem.W.mg_of X G xa_BadValue, xn_BadValue, exm_self xb_BadValue xe_BadValue xt_BadValue xx_BadValue, _, _, xi_BadValue, xy_BadValue, I_BadValue base, J_BadValue⟩
  have H_BadValue : ExcH K mg xC_BadValue xL0 := ⟨⟨xg_BadValue, xh_BadValue, xb_BadValue, xD_BadValue, yA_L, yN_L, yT_L, yM_L⟩, PySem.W.mg_of X G yL_L, PySem.W.exm_ref yB_L yD_L yY_L yS_L, kit_val xw_BadValue⟩
  refine ⟨PySem.W.fnOf "law" "law" (defArgs s_law) (defBody s_law) (defScope s_law) .none kV_law dc_law pm_law an_law cd_law ct_law, fun s v => .of_eq rfl, fun base _ _ => ?_⟩
  have c_is_integer : Cal l.prog w K mg base CX0 1 "is_integer" p_is_integer (sp_is_integer K) := ⟨_, _, ok_is_integer F_is_integer T, m_is_integer, k_is_integer, b_is_integer⟩
  have c_require : Cal l.prog w K mg base CX0 1 "require" p_require (sp_require K) := ⟨_, _, ok_require F_require T, m_require, k_require, b_require⟩
  have c_one_after_another : Cal l.prog w K mg base CX0 1 "one_after_another" p_one_after_another (sp_one_after_another K) := ⟨_, _, ok_one_after_another F_one_after_another T, m_one_after_another, k_one_after_another, b_one_after_another⟩
  have c_steps_of : Cal l.prog w K mg base CX0 1 "steps_of" p_steps_of (sp_steps_of K) := ⟨_, _, ok_steps_of F_steps_of T, m_steps_of, k_steps_of, b_steps_of⟩
  have c__law_stream : Cal l.prog w K mg base CX0 1 "_law_stream" p__law_stream (sp__law_stream K) := ⟨_, _, ok__law_stream F__law_stream T, m__law_stream, k__law_stream, b__law_stream⟩
  have c__law_next : Cal l.prog w K mg base CX0 1 "_law_next" p__law_next (sp__law_next K) := ⟨_, _, ok__law_next F__law_next T, m__law_next, k__law_next, b__law_next⟩
  have c_are_integers : Cal l.prog w K mg base CX0 2 "are_integers" p_are_integers (sp_are_integers K) := ⟨_, _, ok_are_integers F_are_integers T c_is_integer, m_are_integers, k_are_integers, b_are_integers⟩
  have c__law_allocation : Cal l.prog w K mg base CX0 2 "_law_allocation" p__law_allocation (sp__law_allocation K) := ⟨_, _, ok__law_allocation F__law_allocation T c__law_next, m__law_allocation, k__law_allocation, b__law_allocation⟩
  have c__law_order : Cal l.prog w K mg base CX0 2 "_law_order" p__law_order (sp__law_order K) := ⟨_, _, ok__law_order F__law_order T c__law_next, m__law_order, k__law_order, b__law_order⟩
  have c__law_wrong_first : Cal l.prog w K mg base CX0 2 "_law_wrong_first" p__law_wrong_first (sp__law_wrong_first K) := ⟨_, _, ok__law_wrong_first F__law_wrong_first T c__law_next, m__law_wrong_first, k__law_wrong_first, b__law_wrong_first⟩
  have c__law_wrong_second : Cal l.prog w K mg base CX0 2 "_law_wrong_second" p__law_wrong_second (sp__law_wrong_second K) := ⟨_, _, ok__law_wrong_second F__law_wrong_second T c__law_next, m__law_wrong_second, k__law_wrong_second, b__law_wrong_second⟩
  have c__law_wrong_order : Cal l.prog w K mg base CX0 2 "_law_wrong_order" p__law_wrong_order (sp__law_wrong_order K) := ⟨_, _, ok__law_wrong_order F__law_wrong_order T c__law_next, m__law_wrong_order, k__law_wrong_order, b__law_wrong_order⟩
  have c__law_wrong_series : Cal l.prog w K mg base CX0 2 "_law_wrong_series" p__law_wrong_series (sp__law_wrong_series K) := ⟨_, _, ok__law_wrong_series F__law_wrong_series T c__law_next, m__law_wrong_series, k__law_wrong_series, b__law_wrong_series⟩
  have c_is_allocation : Cal l.prog w K mg base CX0 3 "is_allocation" p_is_allocation (sp_is_allocation K) := ⟨_, _, ok_is_allocation F_is_allocation T c_are_integers, m_is_allocation, k_is_allocation, b_is_allocation⟩
  have c_is_bounded_allocation : Cal l.prog w K mg base CX0 3 "is_bounded_allocation" p_is_bounded_allocation (sp_is_bounded_allocationX K) := ⟨_, _, ok_is_bounded_allocation F_is_bounded_allocation T c_are_integers, m_is_bounded_allocation, k_is_bounded_allocation, b_is_bounded_allocation⟩
  have c_is_order : Cal l.prog w K mg base CX0 3 "is_order" p_is_order (sp_is_orderD K) := ⟨_, _, ok_is_order F_is_order T c_are_integers, m_is_order, k_is_order, b_is_order⟩
  have c_is_assignment : Cal l.prog w K mg base CX0 3 "is_assignment" p_is_assignment (sp_is_assignment K) := ⟨_, _, ok_is_assignment F_is_assignment T c_are_integers, m_is_assignment, k_is_assignment, b_is_assignment⟩
  have c_is_bounded_assignment : Cal l.prog w K mg base CX0 3 "is_bounded_assignment" p_is_bounded_assignment (sp_is_bounded_assignment K) := ⟨_, _, ok_is_bounded_assignment F_is_bounded_assignment T c_are_integers, m_is_bounded_assignment, k_is_bounded_assignment, b_is_bounded_assignment⟩
  have c_are_allocations : Cal l.prog w K mg base CX0 4 "are_allocations" p_are_allocations (sp_are_allocations74 K) := ⟨_, _, ok_are_allocations F_are_allocations T c_is_bounded_allocation c_is_allocation, m_are_allocations, k_are_allocations, b_are_allocations⟩
  have c_check_allocation : Cal l.prog w K mg base CX0 4 "check_allocation" p_check_allocation (sp_check_allocation K) := ⟨_, _, ok_check_allocation F_check_allocation T c_require c_is_bounded_allocation, m_check_allocation, k_check_allocation, b_check_allocation⟩
  have c_check_alike : Cal l.prog w K mg base CX0 4 "check_alike" p_check_alike (sp_check_alike K) := ⟨_, _, ok_check_alike F_check_alike T c_require c_is_allocation, m_check_alike, k_check_alike, b_check_alike⟩
  have c_check_assignment : Cal l.prog w K mg base CX0 4 "check_assignment" p_check_assignment (sp_check_assignment K) := ⟨_, _, ok_check_assignment F_check_assignment T c_require c_is_bounded_assignment, m_check_assignment, k_check_assignment, b_check_assignment⟩
  have c_check_order : Cal l.prog w K mg base CX0 4 "check_order" p_check_order (sp_check_order K) := ⟨_, _, ok_check_order F_check_order T c_require c_is_order, m_check_order, k_check_order, b_check_order⟩
  have c_transfer : Cal l.prog w K mg base CX0 5 "transfer" p_transfer (sp_transfer K) := ⟨_, _, ok_transfer F_transfer T c_check_allocation c_check_alike, m_transfer, k_transfer, b_transfer⟩
  have c_check_pair : Cal l.prog w K mg base CX0 5 "check_pair" p_check_pair (sp_check_pair K) := ⟨_, _, ok_check_pair F_check_pair T c_check_assignment c_require c_is_assignment, m_check_pair, k_check_pair, b_check_pair⟩
  have c_check_steps : Cal l.prog w K mg base CX0 5 "check_steps" p_check_steps (sp_check_steps K) := ⟨_, _, ok_check_steps F_check_steps T c_require c_are_allocations, m_check_steps, k_check_steps, b_check_steps⟩
  have c_check_ordered : Cal l.prog w K mg base CX0 5 "check_ordered" p_check_ordered (sp_check_ordered K) := ⟨_, _, ok_check_ordered F_check_ordered T c_check_allocation c_check_order, m_check_ordered, k_check_ordered, b_check_ordered⟩
  have c_both_by_intervals : Cal l.prog w K mg base CX0 5 "both_by_intervals" p_both_by_intervals (sp_both_by_intervals K) := ⟨_, _, ok_both_by_intervals F_both_by_intervals T c_check_allocation c_check_alike c_check_order c_one_after_another, m_both_by_intervals, k_both_by_intervals, b_both_by_intervals⟩
  have c_moves : Cal l.prog w K mg base CX0 6 "moves" p_moves (sp_moves K) := ⟨_, _, ok_moves F_moves T c_check_pair, m_moves, k_moves, b_moves⟩
  have c_total : Cal l.prog w K mg base CX0 6 "total" p_total (sp_total K) := ⟨_, _, ok_total F_total T c_check_steps c_transfer c_steps_of, m_total, k_total, b_total⟩
  have c_by_intervals : Cal l.prog w K mg base CX0 6 "by_intervals" p_by_intervals (sp_by_intervals K) := ⟨_, _, ok_by_intervals F_by_intervals T c_check_ordered c_one_after_another, m_by_intervals, k_by_intervals, b_by_intervals⟩
  have c_boundaries : Cal l.prog w K mg base CX0 6 "boundaries" p_boundaries (sp_boundaries K) := ⟨_, _, ok_boundaries F_boundaries T c_check_ordered, m_boundaries, k_boundaries, b_boundaries⟩
  have c_churn : Cal l.prog w K mg base CX0 7 "churn" p_churn (sp_churn K) := ⟨_, _, ok_churn F_churn T c_moves, m_churn, k_churn, b_churn⟩
  have c_interval_moves : Cal l.prog w K mg base CX0 7 "interval_moves" p_interval_moves (sp_interval_moves K) := ⟨_, _, ok_interval_moves F_interval_moves T c_both_by_intervals c_moves, m_interval_moves, k_interval_moves, b_interval_moves⟩
  have c_interval_churn : Cal l.prog w K mg base CX0 8 "interval_churn" p_interval_churn (sp_interval_churn K) := ⟨_, _, ok_interval_churn F_interval_churn T c_both_by_intervals c_churn, m_interval_churn, k_interval_churn, b_interval_churn⟩
  have c_waste : Cal l.prog w K mg base CX0 9 "waste" p_waste (sp_waste K) := ⟨_, _, ok_waste F_waste T c_interval_churn c_transfer, m_waste, k_waste, b_waste⟩
  have c_best_order : Cal l.prog w K mg base CX0 9 "best_order" p_best_order (sp_best_order K) := ⟨_, _, ok_best_order F_best_order T c_require c_steps_of c_are_allocations c_total c_interval_churn, m_best_order, k_best_order, b_best_order⟩
  have X_require := ok_requireX F_require T (E_BadValue base)
  have X_check_allocation := fn_or (sp' := spRef K xC_BadValue RcAl) ((fn_up0 (CX := L2.CX l.prog w) (ok_check_allocation F_check_allocation T c_require c_is_bounded_allocation)).mono (k := 5) (by decide)) (ok_check_allocationX F_check_allocation T c_is_bounded_allocation X_require m_require k_require b_require)
  have X_check_alike := fn_or (sp' := spRef K xC_BadValue RcLk) ((fn_up0 (CX := L2.CX l.prog w) (ok_check_alike F_check_alike T c_require c_is_allocation)).mono (k := 5) (by decide)) (ok_check_alikeX F_check_alike T c_is_allocation X_require m_require k_require b_require)
  have X_check_order := fn_or (sp' := spRef K xC_BadValue RcOr) ((fn_up0 (CX := L2.CX l.prog w) (ok_check_order F_check_order T c_require c_is_order)).mono (k := 5) (by decide)) (ok_check_orderX F_check_order T c_is_order X_require m_require k_require b_require)
  have X_check_ordered := fn_or (sp' := spRef K xC_BadValue RcOd) ((fn_up0 (CX := L2.CX l.prog w) (ok_check_ordered F_check_ordered T c_check_allocation c_check_order)).mono (k := 6) (by decide)) (ok_check_orderedX F_check_ordered T X_check_allocation m_check_allocation k_check_allocation b_check_allocation X_check_order m_check_order k_check_order b_check_order)
  have X_both_by_intervals := fn_or (sp' := spRef K xC_BadValue RcBt) ((fn_up0 (CX := L2.CX l.prog w) (ok_both_by_intervals F_both_by_intervals T c_check_allocation c_check_alike c_check_order c_one_after_another)).mono (k := 6) (by decide)) (ok_both_by_intervalsX F_both_by_intervals T c_one_after_another X_check_allocation m_check_allocation k_check_allocation b_check_allocation X_check_alike m_check_alike k_check_alike b_check_alike X_check_order m_check_order k_check_order b_check_order)
  have X_by_intervals := fn_or (sp' := spRef K xC_BadValue RcOd) ((fn_up0 (CX := L2.CX l.prog w) (ok_by_intervals F_by_intervals T c_check_ordered c_one_after_another)).mono (k := 7) (by decide)) (ok_by_intervalsX F_by_intervals T c_one_after_another X_check_ordered m_check_ordered k_check_ordered b_check_ordered)
  have X_boundaries := fn_or (sp' := spRef K xC_BadValue RcOd) ((fn_up0 (CX := L2.CX l.prog w) (ok_boundaries F_boundaries T c_check_ordered)).mono (k := 7) (by decide)) (ok_boundariesX F_boundaries T X_check_ordered m_check_ordered k_check_ordered b_check_ordered)
  have X_interval_churn := fn_or (sp' := spRef K xC_BadValue RcBt) ((fn_up0 (CX := L2.CX l.prog w) (ok_interval_churn F_interval_churn T c_both_by_intervals c_churn)).mono (k := 8) (by decide)) (ok_interval_churnX F_interval_churn T c_churn X_both_by_intervals m_both_by_intervals k_both_by_intervals b_both_by_intervals)
  have X_waste := fn_or (sp' := spRef K xC_BadValue RcBt) ((fn_up0 (CX := L2.CX l.prog w) (ok_waste F_waste T c_interval_churn c_transfer)).mono (k := 9) (by decide)) (ok_wasteX F_waste T c_transfer X_interval_churn m_interval_churn k_interval_churn b_interval_churn)
  have X_interval_moves := fn_or (sp' := spRef K xC_BadValue RcBt) ((fn_up0 (CX := L2.CX l.prog w) (ok_interval_moves F_interval_moves T c_both_by_intervals c_moves)).mono (k := 7) (by decide)) (ok_interval_movesX F_interval_moves T c_moves X_both_by_intervals m_both_by_intervals k_both_by_intervals b_both_by_intervals)
  have X_best_order := fn_or (sp' := spRef K xC_BadValue RcBo) ((fn_up0 (CX := L2.CX l.prog w) (ok_best_order F_best_order T c_require c_steps_of c_are_allocations c_total c_interval_churn)).mono (k := 9) (by decide)) (ok_best_orderX F_best_order T c_steps_of c_are_allocations c_total c_interval_churn X_require m_require k_require b_require)
  have c__law_told : Cal l.prog w K mg base CX0 10 "_law_told" p__law_told (sp__law_told74 K) := ⟨_, _, (fn_down0 (fun vs H Q E h => h) (ok__law_toldX F__law_told T (E_BadValue base) H_BadValue X_by_intervals m_by_intervals k_by_intervals b_by_intervals X_boundaries m_boundaries k_boundaries b_boundaries X_interval_churn m_interval_churn k_interval_churn b_interval_churn X_waste m_waste k_waste b_waste X_interval_moves m_interval_moves k_interval_moves b_interval_moves X_best_order m_best_order k_best_order b_best_order)).mono (by decide), m__law_told, k__law_told, b__law_told⟩
  exact ok_law F_law T c__law_stream c__law_allocation c__law_order c__law_next c__law_told c__law_wrong_first c__law_wrong_second c__law_wrong_order c__law_wrong_series
theorem walk {l : PySem.W.OpenLaw} {q : Program} {loose : List Str} {XP : (Str → Option Value) → Heap → Prop} {YP : World → Heap → Prop} {d : DefRec} {K : Params → PySem.W.Frag} (hn : l.most = some 63) (hdf : d.params.defaults = [])
    (hY : ∀ (w : World) (h : Heap), YP w h → (K w.params).In h)
    (F : ∀ (w : World) (mg : Str → Option Value) (fa : Addr) (h : Heap), (K w.params).In h → h.Ns mainGlobals mg → mg d.name = some (.ref fa) →
      ∃ fd : FuncData, (∀ (s : Shared) (u : Value), BindsTo s fd ⟨[u], []⟩ [("script", u)]) ∧ ∀ base : Heap, (K w.params).In base → base.Ns mainGlobals mg → FnOk l.prog w (K w.params) mg base CX0 11 fa fd ["script"] (spLaw (K w.params))) :
    PySem.W.WalkO q loose XP YP l.row.toRowW d [] (fun f vs => PySem.call f vs) :=
  L2.walk_of (n := 63) (k := 11) (x := "script") (CX := fun _ => CX0) (sp := fun w => spLaw (K w.params)) hn (by decide) hdf ⟨rfl, by decide, by decide⟩ hY F (fun _ _ a ns hl _ hS => ⟨a, ns, rfl, hS, hl, fun _ => rfl⟩) fun _ _ _ _ _ z => z
end W
open PySem PySem.W PyProof.Rows
set_option maxRecDepth 100000 in
set_option maxHeartbeats 0 in
theorem PySem.Challenge.cw_leastmoved_k74_refusals_of_thresholds_holds : PySem.Challenge.rw_leastmoved_k74_refusals_of_thresholds.Holds := by
  w_on; o_law; k_head; (case hw => w_witness2)
  k_fill
  refine W.walk (l := PySem.Challenge.rw_leastmoved_k74_refusals_of_thresholds) rfl rfl (fun w h Y => PySem.W.kIn_of Y) ?F
  case F =>
    intro w mg fa h KX G hmg
    refine' W.all_mk KX G hmg ?a_is_integer ?l_is_integer ?o_is_integer ?k_is_integer ?a_are_integers ?l_are_integers ?o_are_integers ?k_are_integers ?a_require ?l_require ?o_require ?k_require ?a_is_allocation ?l_is_allocation ?o_is_allocation ?k_is_allocation ?a_is_bounded_allocation ?l_is_bounded_allocation ?o_is_bounded_allocation ?k_is_bounded_allocation ?a_are_allocations ?l_are_allocations ?o_are_allocations ?k_are_allocations ?a_is_order ?l_is_order ?o_is_order ?k_is_order ?a_check_allocation ?l_check_allocation ?o_check_allocation ?k_check_allocation ?a_check_alike ?l_check_alike ?o_check_alike ?k_check_alike ?a_transfer ?l_transfer ?o_transfer ?k_transfer ?a_is_assignment ?l_is_assignment ?o_is_assignment ?k_is_assignment ?a_is_bounded_assignment ?l_is_bounded_assignment ?o_is_bounded_assignment ?k_is_bounded_assignment ?a_check_assignment ?l_check_assignment ?o_check_assignment ?k_check_assignment ?a_check_pair ?l_check_pair ?o_check_pair ?k_check_pair ?a_one_after_another ?l_one_after_another ?o_one_after_another ?k_one_after_another ?a_churn ?l_churn ?o_churn ?k_churn ?a_moves ?l_moves ?o_moves ?k_moves ?a_check_steps ?l_check_steps ?o_check_steps ?k_check_steps ?a_steps_of ?l_steps_of ?o_steps_of ?k_steps_of ?a_total ?l_total ?o_total ?k_total ?a_check_order ?l_check_order ?o_check_order ?k_check_order ?a_check_ordered ?l_check_ordered ?o_check_ordered ?k_check_ordered ?a_both_by_intervals ?l_both_by_intervals ?o_both_by_intervals ?k_both_by_intervals ?a_by_intervals ?l_by_intervals ?o_by_intervals ?k_by_intervals ?a_boundaries ?l_boundaries ?o_boundaries ?k_boundaries ?a_interval_churn ?l_interval_churn ?o_interval_churn ?k_interval_churn ?a_waste ?l_waste ?o_waste ?k_waste ?a_interval_moves ?l_interval_moves ?o_interval_moves ?k_interval_moves ?a_best_order ?l_best_order ?o_best_order ?k_best_order ?a__law_stream ?l__law_stream ?o__law_stream ?k__law_stream ?a__law_next ?l__law_next ?o__law_next ?k__law_next ?a__law_allocation ?l__law_allocation ?o__law_allocation ?k__law_allocation ?a__law_order ?l__law_order ?o__law_order ?k__law_order ?a__law_told ?l__law_told ?o__law_told ?k__law_told ?a__law_wrong_first ?l__law_wrong_first ?o__law_wrong_first ?k__law_wrong_first ?a__law_wrong_second ?l__law_wrong_second ?o__law_wrong_second ?k__law_wrong_second ?a__law_wrong_order ?l__law_wrong_order ?o__law_wrong_order ?k__law_wrong_order ?a__law_wrong_series ?l__law_wrong_series ?o__law_wrong_series ?k__law_wrong_series ?a_law ?l_law ?o_law ?k_law ?z_ValueError ?z_abs ?z_all ?z_bool ?z_enumerate ?z_int ?z_isinstance ?z_len ?z_list ?z_max ?z_min ?z_range ?z_set ?z_sum ?z_tuple ?z_zip ?g_MOST_VARIANTS ?g_MOST_BUCKETS ?g_MOST_ALLOCATIONS_histories ?g_MOST_ALLOCATIONS_thresholds ?i_permutations ?xa_BadValue ?xi_BadValue ?xl_BadValue ?xo_BadValue ?xd_BadValue ?xv_BadValue ?xf_BadValue ?xc_BadValue ?xk_BadValue ?xr_BadValue ?xs_BadValue ?xb_BadValue ?xt_BadValue ?xp_BadValue ?xw_BadValue ?xz_BadValue ?xu_BadValue ?xy_BadValue ?xg_BadValue ?xh_BadValue ?xD_BadValue ?xn_BadValue ?xe_BadValue ?xx_BadValue ?xj_BadValue ?xm_BadValue ?yA_L ?yN_L ?yT_L ?yM_L ?yL_L ?yB_L ?yD_L ?yY_L ?yS_L
    (case a_is_integer => k_is); (case l_is_integer => k_is); (case o_is_integer => k_is); (case k_is_integer => k_is)
    (case a_are_integers => k_is); (case l_are_integers => k_is); (case o_are_integers => k_is); (case k_are_integers => k_is)
    (case a_require => k_is); (case l_require => k_is); (case o_require => k_is); (case k_require => k_is)
    (case a_is_allocation => k_is); (case l_is_allocation => k_is); (case o_is_allocation => k_is); (case k_is_allocation => k_is)
    (case a_is_bounded_allocation => k_is); (case l_is_bounded_allocation => k_is); (case o_is_bounded_allocation => k_is); (case k_is_bounded_allocation => k_is)
    (case a_are_allocations => k_is); (case l_are_allocations => k_is); (case o_are_allocations => k_is); (case k_are_allocations => k_is)
    (case a_is_order => k_is); (case l_is_order => k_is); (case o_is_order => k_is); (case k_is_order => k_is)
    (case a_check_allocation => k_is); (case l_check_allocation => k_is); (case o_check_allocation => k_is); (case k_check_allocation => k_is)
    (case a_check_alike => k_is); (case l_check_alike => k_is); (case o_check_alike => k_is); (case k_check_alike => k_is)
    (case a_transfer => k_is); (case l_transfer => k_is); (case o_transfer => k_is); (case k_transfer => k_is)
    (case a_is_assignment => k_is); (case l_is_assignment => k_is); (case o_is_assignment => k_is); (case k_is_assignment => k_is)
    (case a_is_bounded_assignment => k_is); (case l_is_bounded_assignment => k_is); (case o_is_bounded_assignment => k_is); (case k_is_bounded_assignment => k_is)
    (case a_check_assignment => k_is); (case l_check_assignment => k_is); (case o_check_assignment => k_is); (case k_check_assignment => k_is)
    (case a_check_pair => k_is); (case l_check_pair => k_is); (case o_check_pair => k_is); (case k_check_pair => k_is)
    (case a_one_after_another => k_is); (case l_one_after_another => k_is); (case o_one_after_another => k_is); (case k_one_after_another => k_is)
    (case a_churn => k_is); (case l_churn => k_is); (case o_churn => k_is); (case k_churn => k_is)
    (case a_moves => k_is); (case l_moves => k_is); (case o_moves => k_is); (case k_moves => k_is)
    (case a_check_steps => k_is); (case l_check_steps => k_is); (case o_check_steps => k_is); (case k_check_steps => k_is)
    (case a_steps_of => k_is); (case l_steps_of => k_is); (case o_steps_of => k_is); (case k_steps_of => k_is)
    (case a_total => k_is); (case l_total => k_is); (case o_total => k_is); (case k_total => k_is)
    (case a_check_order => k_is); (case l_check_order => k_is); (case o_check_order => k_is); (case k_check_order => k_is)
    (case a_check_ordered => k_is); (case l_check_ordered => k_is); (case o_check_ordered => k_is); (case k_check_ordered => k_is)
    (case a_both_by_intervals => k_is); (case l_both_by_intervals => k_is); (case o_both_by_intervals => k_is); (case k_both_by_intervals => k_is)
    (case a_by_intervals => k_is); (case l_by_intervals => k_is); (case o_by_intervals => k_is); (case k_by_intervals => k_is)
    (case a_boundaries => k_is); (case l_boundaries => k_is); (case o_boundaries => k_is); (case k_boundaries => k_is)
    (case a_interval_churn => k_is); (case l_interval_churn => k_is); (case o_interval_churn => k_is); (case k_interval_churn => k_is)
    (case a_waste => k_is); (case l_waste => k_is); (case o_waste => k_is); (case k_waste => k_is)
    (case a_interval_moves => k_is); (case l_interval_moves => k_is); (case o_interval_moves => k_is); (case k_interval_moves => k_is)
    (case a_best_order => k_is); (case l_best_order => k_is); (case o_best_order => k_is); (case k_best_order => k_is)
    (case a__law_stream => k_is); (case l__law_stream => k_is); (case o__law_stream => k_is); (case k__law_stream => k_is)
    (case a__law_next => k_is); (case l__law_next => k_is); (case o__law_next => k_is); (case k__law_next => k_is)
    (case a__law_allocation => k_is); (case l__law_allocation => k_is); (case o__law_allocation => k_is); (case k__law_allocation => k_is)
    (case a__law_order => k_is); (case l__law_order => k_is); (case o__law_order => k_is); (case k__law_order => k_is)
    (case a__law_told => k_is); (case l__law_told => k_is); (case o__law_told => k_is); (case k__law_told => k_is)
    (case a__law_wrong_first => k_is); (case l__law_wrong_first => k_is); (case o__law_wrong_first => k_is); (case k__law_wrong_first => k_is)
    (case a__law_wrong_second => k_is); (case l__law_wrong_second => k_is); (case o__law_wrong_second => k_is); (case k__law_wrong_second => k_is)
    (case a__law_wrong_order => k_is); (case l__law_wrong_order => k_is); (case o__law_wrong_order => k_is); (case k__law_wrong_order => k_is)
    (case a__law_wrong_series => k_is); (case l__law_wrong_series => k_is); (case o__law_wrong_series => k_is); (case k__law_wrong_series => k_is)
    (case a_law => k_is); (case l_law => k_is); (case o_law => k_is); (case k_law => k_is)
    (case z_ValueError => k_is)
    (case z_abs => k_is)
    (case z_all => k_is)
    (case z_bool => k_is)
    (case z_enumerate => k_is)
    (case z_int => k_is)
    (case z_isinstance => k_is)
    (case z_len => k_is)
    (case z_list => k_is)
    (case z_max => k_is)
    (case z_min => k_is)
    (case z_range => k_is)
    (case z_set => k_is)
    (case z_sum => k_is)
    (case z_tuple => k_is)
    (case z_zip => k_is)
    (case g_MOST_VARIANTS => k_is)
    (case g_MOST_BUCKETS => k_is)
    (case g_MOST_ALLOCATIONS_histories => k_is)
    (case g_MOST_ALLOCATIONS_thresholds => k_is)
    (case i_permutations => k_is)
    (case xa_BadValue => k_is)
    (case xi_BadValue => k_is)
    (case xl_BadValue => k_is)
    (case xo_BadValue => k_is)
    (case xd_BadValue => k_is)
    (case xv_BadValue => exact rfl)
    (case xf_BadValue => first | rfl | decide +kernel)
    (case xc_BadValue => k_is)
    (case xk_BadValue => k_is)
    (case xr_BadValue => first | rfl | decide +kernel)
    (case xs_BadValue => k_is)
    (case xb_BadValue => k_is)
    (case xt_BadValue => k_is)
    (case xp_BadValue => k_is)
    (case xw_BadValue => k_is)
    (case xz_BadValue => k_is)
    (case xu_BadValue => ks_is)
    (case xy_BadValue => k_is)
    (case xg_BadValue => k_is)
    (case xh_BadValue => k_is)
    (case xD_BadValue => k_is)
    (case xn_BadValue => k_is)
    (case xe_BadValue => k_is)
    (case xx_BadValue => k_is)
    (case xj_BadValue => k_is)
    (case xm_BadValue => first | rfl | decide +kernel)
    (case yA_L => k_is)
    (case yN_L => k_is)
    (case yT_L => k_is)
    (case yM_L => k_is)
    (case yL_L => k_is)
    (case yB_L => k_is)
    (case yD_L => k_is)
    (case yY_L => k_is)
    (case yS_L => k_is)
