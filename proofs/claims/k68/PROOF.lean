import PyProof.Rows.All
import Wide.All
import OpenK.AllK
import Wide.FinOn
import HandS.ForMost
import HandS.TupAny
import HandS.Zip
import HandS.IsInst
import HandS.Walk
import HandS.SortInts
import HandS.Strs
import HandS.SetFor
import KE.GoesMore
import KE.GoesEnum
import HandS.SortKw
import PyProof.WalksMore
import HandS.Evl
import HandS.Conv
import PyProof.Draws
import KE.KItemsList
import HandS.Gcd
import KE.KMathGC
import HandS.Deep
import HandS.Wide
import HandS.TupLe
import PyProof.ListNew
import HandS.GenList
import HandS.Sort
import HandS.ExcInit
import HandS.WordsExc
import HandS.FStr
import KE.KExcSuper
import KE.KSuper
import HandS.ExcOwn
import HandS.ExcField
import HandS.TupMul
import HandS.Style
import PyProof.CallType
import KE.GoesEnumKw
import HandS.TupSets
import PyProof.P3In
import PyProof.Rows.SeqMore
import KE.SortData
import KE.SortLaws
import KE.SortKeyHeap
import HandS.WordsDict
import HandS.ExcIs
import KE.KExcIs
import KE.KMinBuiltin
import HandS.WideBits
import HandS.Flow
import PySem.Challenge.RW_leastmoved_k68_refusals_of_populations
set_option Elab.async false
set_option linter.all false
set_option maxRecDepth 100000
set_option maxHeartbeats 4000000
namespace Lm
open PySem PySem.Spec PyProof.Rows L2

/-- what is around: the written part, and (perhaps) the stream with the script's copy -/
structure Ct where
  K : PySem.W.Frag
  so : Option (Addr × Addr)
def okA (c : Ct) (a : Addr) : Prop := ∀ st l, c.so = some (st, l) → a ≠ st
/-- the stream at st: a copy of the script at l, a cell, a place -/
def Str1 (K : PySem.W.Frag) (st l : Addr) (H : Hp) : Prop :=
  ∃ (ns : List Int) (x k : Int), H st = some (.lst [.ref l, .int x, .int k]) ∧ H l = some (.lst (ns.map V.int)) ∧ l ≠ st ∧ 0 ≤ k
def Ji (c : Ct) (H : Hp) : Prop := ∀ st l, c.so = some (st, l) → Str1 c.K st l H
def Rr (c : Ct) (H H' : Hp) : Prop := (∀ a o, okA c a → H a = some o → H' a = some o) ∧ (Ji c H → Ji c H')
variable {c : Ct} {H H' H0 H1 H2 H3 : Hp}
theorem Rr.rf : Rr c H H := ⟨fun _ _ _ h => h, fun h => h⟩
theorem Rr.tr (a : Rr c H H1) (b : Rr c H1 H2) : Rr c H H2 := ⟨fun x o k h => b.1 x o k (a.1 x o k h), fun h => b.2 (a.2 h)⟩
theorem Ji.same (j : Ji c H) (e : Same H H') : Ji c H' := fun st l h => by
  obtain ⟨ns, x, k, h1, h2, h3, h4⟩ := j st l h
  exact ⟨ns, x, k, e _ _ h1, e _ _ h2, h3, h4⟩
theorem Rr.same (e : Same H H') : Rr c H H' := ⟨fun x o _ h => e x o h, fun j => j.same e⟩
theorem okA.fresh (j : Ji c H) {p : Addr} (h : H p = none) : okA c p := fun st l e z => by
  obtain ⟨ns, x, k, h1, _⟩ := j st l e
  rw [z, h1] at h
  cases h
theorem okA.tup (j : Ji c H) {p : Addr} {o : HO} (h : H p = some o) (n : ∀ xs, o ≠ .lst xs) : okA c p := fun st l e z => by
  obtain ⟨ns, x, k, h1, _⟩ := j st l e
  rw [z, h1] at h
  exact n _ (Option.some.inj h).symm
theorem Rr.back (r : Rr c H H') (j : Ji c H) {p : Addr} (h : H' p = none) : H p = none := by
  cases q : H p with
  | none => rfl
  | some o =>
    have k : okA c p := fun st l e z => by
      obtain ⟨ns, x, k, h1, _⟩ := r.2 j st l e
      rw [z, h1] at h
      cases h
    rw [r.1 p o k q] at h
    cases h
/-- a tuple (one that has no dict of its own) -/
def TpN (K : PySem.W.Frag) (H : Hp) (a : Addr) (xs : List V) : Prop :=
  (∃ o : Obj, o.dict = none ∧ H a = some (.frz o (.tup xs))) ∨
    ∃ (o : Obj) (its : Array Value) (n : Nat), K.lookup a = some o ∧ o.cls = .type "tuple" ∧ o.dict = none ∧ o.data = .seq its n ∧ its.size ≤ sizeLine ∧ Vals xs its.toList
theorem TpN.sq {K : PySem.W.Frag} {a : Addr} {xs : List V} (h : TpN K H a xs) : SqT K H a xs := by
  rcases h with ⟨o, _, h⟩ | ⟨o, its, n, h1, h2, _, h3, h4, h5⟩
  · exact .inl (.inr ⟨o, h⟩)
  · exact .inr ⟨o, its, n, h1, h2, h3, h4, h5⟩
theorem Rr.tup (r : Rr c H H') (j : Ji c H) {a : Addr} {xs : List V} (h : TpN c.K H a xs) : TpN c.K H' a xs := by
  rcases h with ⟨o, q, h⟩ | h
  · exact .inl ⟨o, q, r.1 _ _ (okA.tup j h (fun _ => by simp)) h⟩
  · exact .inr h
theorem Rr.lst (r : Rr c H H') {a : Addr} {xs : List V} (k : okA c a) (h : SqL c.K H a xs) : SqL c.K H' a xs := by
  rcases h with (h | ⟨o, h⟩) | h
  · exact .inl (.inl (r.1 _ _ k h))
  · exact .inl (.inr ⟨o, r.1 _ _ k h⟩)
  · exact .inr h

/-! ### values as data: ints, texts, tuples; lists whose addresses are not the stream's -/
mutual
inductive Bo (c : Ct) (H : Hp) : V → PyData → Prop
  | non : Bo c H .non .none
  | bl (b : Bool) : Bo c H (.bl b) (.bool b)
  | int (i : Int) : Bo c H (.int i) (.int i)
  | str (x : Str) : Bo c H (.str x) (.str x)
  | lst {a : Addr} {xs : List V} {ds : List PyData} : okA c a → SqL c.K H a xs → BoAll c H xs ds → Bo c H (.ref a) (.list ds)
  | tup {a : Addr} {xs : List V} {ds : List PyData} : TpN c.K H a xs → BoAll c H xs ds → Bo c H (.ref a) (.tuple ds)
inductive BoAll (c : Ct) (H : Hp) : List V → List PyData → Prop
  | nil : BoAll c H [] []
  | cons {v : V} {vs : List V} {d : PyData} {ds : List PyData} : Bo c H v d → BoAll c H vs ds → BoAll c H (v :: vs) (d :: ds)
end
mutual
theorem Bo.up (h : ∀ a xs, TpN c.K H a xs → TpN c.K H' a xs) (g : ∀ a xs, okA c a → SqL c.K H a xs → SqL c.K H' a xs) : ∀ {v : V} {d : PyData}, Bo c H v d → Bo c H' v d
  | _, _, .non => .non
  | _, _, .bl b => .bl b
  | _, _, .int b => .int b
  | _, _, .str b => .str b
  | _, _, .lst k s a => .lst k (g _ _ k s) (BoAll.up h g a)
  | _, _, .tup s a => .tup (h _ _ s) (BoAll.up h g a)
theorem BoAll.up (h : ∀ a xs, TpN c.K H a xs → TpN c.K H' a xs) (g : ∀ a xs, okA c a → SqL c.K H a xs → SqL c.K H' a xs) : ∀ {v : List V} {d : List PyData}, BoAll c H v d → BoAll c H' v d
  | _, _, .nil => .nil
  | _, _, .cons a b => .cons (Bo.up h g a) (BoAll.up h g b)
end
theorem Bo.mono (j : Ji c H) (r : Rr c H H') {v : V} {d : PyData} (h : Bo c H v d) : Bo c H' v d := h.up (fun _ _ s => r.tup j s) (fun _ _ k s => r.lst k s)
theorem BoAll.mono (j : Ji c H) (r : Rr c H H') {v : List V} {d : List PyData} (h : BoAll c H v d) : BoAll c H' v d := h.up (fun _ _ s => r.tup j s) (fun _ _ k s => r.lst k s)
theorem sqT_same {K : PySem.W.Frag} (e : Same H H') {a : Addr} {xs : List V} (h : TpN K H a xs) : TpN K H' a xs := by
  rcases h with ⟨o, q, h⟩ | h
  · exact .inl ⟨o, q, e _ _ h⟩
  · exact .inr h
theorem Bo.same (e : Same H H') {v : V} {d : PyData} (h : Bo c H v d) : Bo c H' v d := h.up (fun _ _ s => sqT_same e s) (fun _ _ k s => e.seq s)
theorem BoAll.same (e : Same H H') {v : List V} {d : List PyData} (h : BoAll c H v d) : BoAll c H' v d := h.up (fun _ _ s => sqT_same e s) (fun _ _ k s => e.seq s)
theorem BoAll.len : ∀ {v : List V} {d : List PyData}, BoAll c H v d → v.length = d.length
  | _, _, .nil => rfl
  | _, _, .cons _ b => by simp [BoAll.len b]
theorem BoAll.get : ∀ {v : List V} {d : List PyData} {i : Nat} {x : V}, BoAll c H v d → v[i]? = some x → ∃ e, d[i]? = some e ∧ Bo c H x e
  | _, _, _, _, .nil, h => by simp at h
  | _, _, 0, x, .cons a b, h => by
    have e : _ = x := Option.some.inj h
    subst e
    exact ⟨_, rfl, a⟩
  | _, _, i + 1, x, .cons a b, h => BoAll.get (i := i) b (by simpa using h)
theorem BoAll.gets : ∀ {v : List V} {d : List PyData} {i : Nat} {e : PyData}, BoAll c H v d → d[i]? = some e → ∃ x, v[i]? = some x ∧ Bo c H x e
  | _, _, _, _, .nil, h => by simp at h
  | _, _, 0, x, .cons a b, h => by
    have e : _ = x := Option.some.inj h
    subst e
    exact ⟨_, rfl, a⟩
  | _, _, i + 1, x, .cons a b, h => BoAll.gets (i := i) b (by simpa using h)
theorem BoAll.app : ∀ {v w : List V} {d e : List PyData}, BoAll c H v d → BoAll c H w e → BoAll c H (v ++ w) (d ++ e)
  | _, _, _, _, .nil, b => b
  | _, _, _, _, .cons a r, b => .cons a (BoAll.app r b)
theorem BoAll.set : ∀ {v : List V} {d : List PyData} {i : Nat} {x : V} {e : PyData}, BoAll c H v d → Bo c H x e → BoAll c H (v.set i x) (d.set i e)
  | _, _, _, _, _, .nil, b => .nil
  | _, _, 0, _, _, .cons a r, b => .cons b r
  | _, _, i + 1, _, _, .cons a r, b => .cons a (BoAll.set r b)
theorem BoAll.take : ∀ {v : List V} {d : List PyData} (i : Nat), BoAll c H v d → BoAll c H (v.take i) (d.take i)
  | _, _, 0, _ => .nil
  | _, _, i + 1, .nil => .nil
  | _, _, i + 1, .cons a b => .cons a (BoAll.take i b)
theorem BoAll.drop : ∀ {v : List V} {d : List PyData} (i : Nat), BoAll c H v d → BoAll c H (v.drop i) (d.drop i)
  | _, _, 0, h => h
  | _, _, i + 1, .nil => .nil
  | _, _, i + 1, .cons a b => BoAll.drop i b
theorem Bo.int' {v : V} {i : Int} (h : Bo c H v (.int i)) : v = .int i := by cases h; rfl
theorem Bo.bl' {v : V} {i : Bool} (h : Bo c H v (.bool i)) : v = .bl i := by cases h; rfl
theorem Bo.non' {v : V} (h : Bo c H v .none) : v = .non := by cases h; rfl
theorem Bo.tup' {v : V} {ds : List PyData} (h : Bo c H v (.tuple ds)) : ∃ a xs, v = .ref a ∧ TpN c.K H a xs ∧ BoAll c H xs ds := by cases h with | tup s a => exact ⟨_, _, rfl, s, a⟩
theorem Bo.lst' {v : V} {ds : List PyData} (h : Bo c H v (.list ds)) : ∃ a xs, v = .ref a ∧ okA c a ∧ SqL c.K H a xs ∧ BoAll c H xs ds := by cases h with | lst k s a => exact ⟨_, _, rfl, k, s, a⟩
theorem BoAll.ints : ∀ {v : List V} {ns : List Int}, BoAll c H v (ns.map PyData.int) → v = ns.map V.int
  | v, [], h => by cases h; rfl
  | v, n :: ns, h => by
    cases h with
    | cons a b => rw [a.int', BoAll.ints b]; rfl
theorem BoAll.ofInts : ∀ (ns : List Int), BoAll c H (ns.map V.int) (ns.map PyData.int)
  | [] => .nil
  | n :: ns => .cons (.int n) (BoAll.ofInts ns)
theorem BoAll.bools : ∀ {v : List V} {ns : List Bool}, BoAll c H v (ns.map PyData.bool) → v = ns.map V.bl
  | v, [], h => by cases h; rfl
  | v, n :: ns, h => by
    cases h with
    | cons a b => rw [a.bl', BoAll.bools b]; rfl
mutual
theorem Bo.dp : ∀ {v : V} {d : PyData}, Bo c H v d → Dp c.K H v d
  | _, _, .non => .non
  | _, _, .bl b => .bl b
  | _, _, .int b => .int b
  | _, _, .str b => .str b
  | _, _, .lst _ s a => .lst s (BoAll.dp a)
  | _, _, .tup s a => .tup s.sq (BoAll.dp a)
theorem BoAll.dp : ∀ {v : List V} {d : List PyData}, BoAll c H v d → DpAll c.K H v d
  | _, _, .nil => .nil
  | _, _, .cons a b => .cons (Bo.dp a) (BoAll.dp b)
end
/-! no stream, no care -/
mutual
theorem Bo.pure : ∀ {v : V} {d : PyData}, Bo c H v d → Bo ⟨c.K, none⟩ H v d
  | _, _, .non => .non
  | _, _, .bl b => .bl b
  | _, _, .int b => .int b
  | _, _, .str b => .str b
  | _, _, .lst _ s a => .lst (fun _ _ e => nomatch e) s (BoAll.pure a)
  | _, _, .tup s a => .tup s (BoAll.pure a)
theorem BoAll.pure : ∀ {v : List V} {d : List PyData}, BoAll c H v d → BoAll ⟨c.K, none⟩ H v d
  | _, _, .nil => .nil
  | _, _, .cons a b => .cons (Bo.pure a) (BoAll.pure b)
end
/-! data without lists -/
mutual
def flatD : PyData → Bool
  | .none => true
  | .bool _ => true
  | .int _ => true
  | .str _ => true
  | .tuple ds => flatAll ds
  | _ => false
def flatAll : List PyData → Bool
  | [] => true
  | d :: ds => flatD d && flatAll ds
end
theorem flatAll_ints (ns : List Int) : flatAll (ns.map PyData.int) = true := by
  induction ns with
  | nil => rfl
  | cons n ns ih =>
    show (flatD (.int n) && flatAll (ns.map PyData.int)) = true
    rw [ih]
    rfl
theorem flatAll_mem {ds : List PyData} (h : ∀ d ∈ ds, flatD d = true) : flatAll ds = true := by
  induction ds with
  | nil => rfl
  | cons d ds ih =>
    show (flatD d && flatAll ds) = true
    rw [h d (by simp), ih fun e he => h e (by simp [he])]
    rfl
mutual
theorem Bo.flat {c' : Ct} (hk : c'.K = c.K) : ∀ {v : V} {d : PyData}, flatD d = true → Bo c H v d → Bo c' H v d
  | _, _, _, .non => .non
  | _, _, _, .bl b => .bl b
  | _, _, _, .int b => .int b
  | _, _, _, .str b => .str b
  | _, _, q, .lst _ s a => by simp [flatD] at q
  | _, _, q, .tup s a => .tup (by rw [hk]; exact s) (BoAll.flat hk (by simpa [flatD] using q) a)
theorem BoAll.flat {c' : Ct} (hk : c'.K = c.K) : ∀ {v : List V} {d : List PyData}, flatAll d = true → BoAll c H v d → BoAll c' H v d
  | _, _, _, .nil => .nil
  | _, _, q, .cons a b => by
    have q' : (flatD _ && flatAll _) = true := q
    rw [Bool.and_eq_true] at q'
    exact .cons (Bo.flat hk q'.1 a) (BoAll.flat hk q'.2 b)
end

/-! ### the heap without some addresses -/
def mns (H : Hp) (O : List Addr) : Hp := fun a => if a ∈ O then none else H a
theorem mns_in {O : List Addr} {a : Addr} (h : a ∈ O) : mns H O a = none := if_pos h
theorem mns_out {O : List Addr} {a : Addr} (h : a ∉ O) : mns H O a = H a := if_neg h
theorem mns_same {O : List Addr} : Same (mns H O) H := fun a o h => by
  by_cases q : a ∈ O
  · rw [mns_in q] at h; cases h
  · rw [mns_out q] at h; exact h
theorem mns_some {O : List Addr} {a : Addr} {o : HO} (h : mns H O a = some o) : a ∉ O ∧ H a = some o := by
  by_cases q : a ∈ O
  · rw [mns_in q] at h; cases h
  · rw [mns_out q] at h; exact ⟨q, h⟩
theorem mns_sub {O O' : List Addr} (s : ∀ a, a ∈ O' → a ∈ O) : Same (mns H O) (mns H O') := fun a o h => by
  obtain ⟨q, h⟩ := mns_some h
  rw [mns_out (fun z => q (s a z))]
  exact h
theorem mns_nil : mns H [] = H := by
  funext a
  exact mns_out (by simp)
theorem Rr.mns {O : List Addr} (r : Rr c H H') (j : Ji c (mns H O)) (q : ∀ a ∈ O, okA c a) : Rr c (mns H O) (mns H' O) := by
  refine ⟨fun a o k h => ?_, fun _ st l e => ?_⟩
  · obtain ⟨n, h⟩ := mns_some h
    rw [mns_out n]
    exact r.1 a o k h
  · obtain ⟨ns, x, k, h1, h2, h3, h4⟩ := j st l e
    obtain ⟨n1, h1⟩ := mns_some h1
    obtain ⟨n2, h2⟩ := mns_some h2
    have jH : Ji c H := j.same mns_same
    obtain ⟨ns', x', k', g1, g2, g3, g4⟩ := r.2 jH st l e
    refine ⟨ns', x', k', ?_, ?_, g3, g4⟩
    · rw [mns_out n1]; exact g1
    · rw [mns_out n2]; exact g2
end Lm


namespace Lm
open PySem PySem.Spec PyProof.Rows L2
variable {c : Ct} {H H' H0 H1 H2 H3 : Hp} {O : List Addr}

/-! flat data leans on tuples alone -/
mutual
theorem Bo.flatTo {c' : Ct} (h : ∀ a xs, TpN c.K H a xs → TpN c'.K H' a xs) : ∀ {v : V} {d : PyData}, flatD d = true → Bo c H v d → Bo c' H' v d
  | _, _, _, .non => .non
  | _, _, _, .bl b => .bl b
  | _, _, _, .int b => .int b
  | _, _, _, .str b => .str b
  | _, _, q, .lst _ s a => by simp [flatD] at q
  | _, _, q, .tup s a => .tup (h _ _ s) (BoAll.flatTo h (by simpa [flatD] using q) a)
theorem BoAll.flatTo {c' : Ct} (h : ∀ a xs, TpN c.K H a xs → TpN c'.K H' a xs) : ∀ {v : List V} {d : List PyData}, flatAll d = true → BoAll c H v d → BoAll c' H' v d
  | _, _, _, .nil => .nil
  | _, _, q, .cons a b => by
    have q' : (flatD _ && flatAll _) = true := q
    rw [Bool.and_eq_true] at q'
    exact .cons (Bo.flatTo h q'.1 a) (BoAll.flatTo h q'.2 b)
end
/-- what may be written -/
def OwnU : HO → Prop
  | .lst _ => True
  | .dK _ => True
  | .dT _ => True
  | .set _ _ => True
  | _ => False
theorem sqT_mns {K : PySem.W.Frag} (hO : ∀ a ∈ O, ∃ u, H a = some u ∧ OwnU u) {a : Addr} {xs : List V} (h : TpN K H a xs) : TpN K (mns H O) a xs := by
  have n : ∀ u, H a = some u → ¬ OwnU u → mns H O a = some u := fun u e k => by
    have : a ∉ O := fun z => by
      obtain ⟨y, q, w⟩ := hO a z
      rw [q] at e
      exact k (Option.some.inj e ▸ w)
    rw [mns_out this]; exact e
  rcases h with ⟨o, q, h⟩ | h
  · exact .inl ⟨o, q, n _ h fun w => w⟩
  · exact .inr h
theorem sqT_updO {K : PySem.W.Frag} {p : Addr} {y o : HO} (hp : H p = some y) (hy : OwnU y) {a : Addr} {xs : List V} (h : TpN K H a xs) : TpN K (upd H p o) a xs := by
  have n : ∀ u, H a = some u → ¬ OwnU u → upd H p o a = some u := fun u e k => by
    have : a ≠ p := fun z => by
      rw [z, hp] at e
      exact k (Option.some.inj e ▸ hy)
    rw [upd_ne this]; exact e
  rcases h with ⟨o, q, h⟩ | h
  · exact .inl ⟨o, q, n _ h fun w => w⟩
  · exact .inr h
theorem sqT_upd {K : PySem.W.Frag} {p : Addr} {zs : List V} {o : HO} (hp : H p = some (.lst zs)) {a : Addr} {xs : List V} (h : TpN K H a xs) : TpN K (upd H p o) a xs := by
  have n : ∀ u, H a = some u → (∀ ys, u ≠ .lst ys) → upd H p o a = some u := fun u e k => by
    have : a ≠ p := fun z => by
      rw [z, hp] at e
      exact k zs (Option.some.inj e).symm
    rw [upd_ne this]; exact e
  rcases h with ⟨o, q, h⟩ | h
  · exact .inl ⟨o, q, n _ h fun _ => by simp⟩
  · exact .inr h

/-! ### lists of one's own: the addresses that may be written -/
mutual
inductive Fo (c : Ct) (H : Hp) : V → PyData → List Addr → Prop
  | leaf {v : V} {d : PyData} : flatD d = true → Bo c H v d → Fo c H v d []
  | lst {a : Addr} {xs : List V} {ds : List PyData} {fp : List Addr} : H a = some (.lst xs) → FoAll c H xs ds fp → Fo c H (.ref a) (.list ds) (a :: fp)
inductive FoAll (c : Ct) (H : Hp) : List V → List PyData → List Addr → Prop
  | nil : FoAll c H [] [] []
  | cons {v : V} {vs : List V} {d : PyData} {ds : List PyData} {f fs : List Addr} : Fo c H v d f → FoAll c H vs ds fs → FoAll c H (v :: vs) (d :: ds) (f ++ fs)
end
mutual
theorem Fo.up (h : ∀ a xs, TpN c.K H a xs → TpN c.K H' a xs) : ∀ {v : V} {d : PyData} {fp : List Addr}, (∀ a ∈ fp, ∀ o, H a = some o → H' a = some o) → Fo c H v d fp → Fo c H' v d fp
  | _, _, _, _, .leaf q b => .leaf q (b.flatTo h q)
  | _, _, _, k, .lst e a => .lst (k _ (by simp) _ e) (FoAll.up h (fun b hb => k b (by simp [hb])) a)
theorem FoAll.up (h : ∀ a xs, TpN c.K H a xs → TpN c.K H' a xs) : ∀ {v : List V} {d : List PyData} {fp : List Addr}, (∀ a ∈ fp, ∀ o, H a = some o → H' a = some o) → FoAll c H v d fp → FoAll c H' v d fp
  | _, _, _, _, .nil => .nil
  | _, _, _, k, .cons a b => .cons (Fo.up h (fun x hx => k x (by simp [hx])) a) (FoAll.up h (fun x hx => k x (by simp [hx])) b)
end
mutual
theorem Fo.bo : ∀ {v : V} {d : PyData} {fp : List Addr}, (∀ a ∈ fp, okA c a) → Fo c H v d fp → Bo c H v d
  | _, _, _, _, .leaf _ b => b
  | _, _, _, k, .lst e a => .lst (k _ (by simp)) (.inl (.inl e)) (FoAll.bo (fun b hb => k b (by simp [hb])) a)
theorem FoAll.bo : ∀ {v : List V} {d : List PyData} {fp : List Addr}, (∀ a ∈ fp, okA c a) → FoAll c H v d fp → BoAll c H v d
  | _, _, _, _, .nil => .nil
  | _, _, _, k, .cons a b => .cons (Fo.bo (fun x hx => k x (by simp [hx])) a) (FoAll.bo (fun x hx => k x (by simp [hx])) b)
end
theorem FoAll.leaves : ∀ {v : List V} {d : List PyData}, flatAll d = true → BoAll c H v d → FoAll c H v d []
  | _, _, _, .nil => .nil
  | _, _, q, .cons a b => by
    have q' : (flatD _ && flatAll _) = true := q
    rw [Bool.and_eq_true] at q'
    exact .cons (f := []) (fs := []) (.leaf q'.1 a) (FoAll.leaves q'.2 b)
mutual
theorem Fo.isL : ∀ {v : V} {d : PyData} {fp : List Addr}, Fo c H v d fp → ∀ a ∈ fp, ∃ xs, H a = some (.lst xs)
  | _, _, _, .leaf _ _, a, h => by simp at h
  | _, _, _, .lst e f, a, h => by
    rcases List.mem_cons.mp h with q | q
    · rw [q]; exact ⟨_, e⟩
    · exact FoAll.isL f a q
theorem FoAll.isL : ∀ {v : List V} {d : List PyData} {fp : List Addr}, FoAll c H v d fp → ∀ a ∈ fp, ∃ xs, H a = some (.lst xs)
  | _, _, _, .nil, a, h => by simp at h
  | _, _, _, .cons e f, a, h => by
    rcases List.mem_append.mp h with q | q
    · exact Fo.isL e a q
    · exact FoAll.isL f a q
end
theorem FoAll.app : ∀ {v w : List V} {d e : List PyData} {f g : List Addr}, FoAll c H v d f → FoAll c H w e g → FoAll c H (v ++ w) (d ++ e) (f ++ g)
  | _, _, _, _, _, _, .nil, b => b
  | _, _, _, _, _, _, .cons a r, b => by
    rw [List.append_assoc]
    exact .cons a (FoAll.app r b)
/-- a flat list of one's own -/
theorem Fo.list' {v : V} {ds : List PyData} {fp : List Addr} (h : Fo c H v (.list ds) fp) : ∃ a xs f, v = .ref a ∧ fp = a :: f ∧ H a = some (.lst xs) ∧ FoAll c H xs ds f := by
  cases h with
  | leaf q _ => simp [flatD] at q
  | lst e a => exact ⟨_, _, _, rfl, rfl, e, a⟩
theorem FoAll.flat0 : ∀ {v : List V} {d : List PyData} {f : List Addr}, flatAll d = true → FoAll c H v d f → f = [] ∧ BoAll c H v d
  | _, _, _, _, .nil => ⟨rfl, .nil⟩
  | _, _, _, q, .cons a b => by
    have q' : (flatD _ && flatAll _) = true := q
    rw [Bool.and_eq_true] at q'
    obtain ⟨e1, b1⟩ := FoAll.flat0 q'.2 b
    cases a with
    | leaf _ x => exact ⟨by rw [e1]; rfl, .cons x b1⟩
    | lst _ _ => simp [flatD] at q'

/-! ### what the slots hold -/
inductive Rs where
  /-- a value that will not change -/
  | v (d : PyData)
  /-- a list of one's own -/
  | o (d : PyData)
  /-- this very value -/
  | r (x : V)
  /-- a dict or set of one's own -/
  | d (u : HO)
  /-- a list of one's own whose items stay -/
  | w (ds : List PyData)
def RepO (c : Ct) (O : List Addr) (H : Hp) (x : Option V) : Option Rs → List Addr → Prop
  | none, fp => fp = []
  | some (.v d), fp => fp = [] ∧ ∃ v, x = some v ∧ Bo c (mns H O) v d
  | some (.o d), fp => ∃ v, x = some v ∧ Fo c H v d fp
  | some (.r y), fp => fp = [] ∧ x = some y
  | some (.d u), fp => ∃ a, fp = [a] ∧ x = some (.ref a) ∧ H a = some u ∧ OwnU u
  | some (.w ds), fp => ∃ a xs, fp = [a] ∧ x = some (.ref a) ∧ H a = some (.lst xs) ∧ BoAll c (mns H O) xs ds
inductive Reps (c : Ct) (O : List Addr) (H : Hp) : L2.St → List (Option Rs) → List Addr → Prop
  | nil : Reps c O H [] [] []
  | cons {x : Option V} {s : Option Rs} {f fs : List Addr} {σ : L2.St} {Γ : List (Option Rs)} : RepO c O H x s f → Reps c O H σ Γ fs → Reps c O H (x :: σ) (s :: Γ) (f ++ fs)
theorem Reps.len {σ : L2.St} {Γ : List (Option Rs)} {fp : List Addr} (h : Reps c O H σ Γ fp) : σ.length = Γ.length := by
  induction h with
  | nil => rfl
  | cons _ _ ih => simp [ih]
theorem Reps.map {O' : List Addr} {σ : L2.St} {Γ : List (Option Rs)} {fp : List Addr} (h : Reps c O H σ Γ fp) (k : ∀ x s f, (∀ a ∈ f, a ∈ fp) → RepO c O H x s f → RepO c O' H' x s f) : Reps c O' H' σ Γ fp := by
  induction h with
  | nil => exact .nil
  | cons a b ih => exact .cons (k _ _ _ (fun x hx => by simp [hx]) a) (ih fun x s f q => k x s f fun y hy => by simp [q y hy])
/-- the i-th slot, and how it is changed -/
theorem Reps.nth {σ : L2.St} {Γ : List (Option Rs)} {fp : List Addr} (h : Reps c O H σ Γ fp) : ∀ {i : Nat} {s : Option Rs}, Γ[i]? = some s →
    ∃ x f pre post, σ[i]? = some x ∧ RepO c O H x s f ∧ fp = pre ++ (f ++ post) ∧
      ∀ (O' : List Addr) (H' : Hp) (x' : Option V) (s' : Option Rs) (f' : List Addr), (∀ y t g, (∀ a ∈ g, a ∈ pre ++ post) → RepO c O H y t g → RepO c O' H' y t g) → RepO c O' H' x' s' f' → Reps c O' H' (σ.set i x') (Γ.set i s') (pre ++ (f' ++ post)) := by
  induction h with
  | nil => intro i s e; simp at e
  | cons a b ih =>
    rename_i x0 s0 f0 fs0 σ0 Γ0
    intro i s e
    cases i with
    | zero =>
      have e' : s0 = s := by simpa using e
      subst e'
      refine ⟨x0, f0, [], fs0, rfl, a, rfl, fun O' H' x' s' f' k r => ?_⟩
      show Reps c O' H' (x' :: σ0) (s' :: Γ0) (f' ++ fs0)
      exact .cons r (b.map fun y t g q z => k y t g (fun u hu => by simpa using q u hu) z)
    | succ i =>
      obtain ⟨x, f, pre, post, h1, h2, h3, h4⟩ := ih (i := i) (by simpa using e)
      refine ⟨x, f, f0 ++ pre, post, by simpa using h1, h2, by rw [h3]; simp, fun O' H' x' s' f' k r => ?_⟩
      have := h4 O' H' x' s' f' (fun y t g q z => k y t g (fun u hu => by have := q u hu; simp at this ⊢; rcases this with w | w <;> simp [w]) z) r
      rw [List.append_assoc]
      exact .cons (k _ _ _ (fun u hu => by simp [hu]) a) this

/-- the entry's heap H0, the addresses of one's own O, the heap H, the slots σ and what they hold -/
structure Env (c : Ct) (H0 : Hp) (O : List Addr) (H : Hp) (σ : L2.St) (Γ : List (Option Rs)) : Prop where
  r0 : Rr c H0 (mns H O)
  j : Ji c (mns H O)
  fr : ∀ a ∈ O, H0 a = none
  dm : ∀ a ∈ O, ∃ u, H a = some u ∧ OwnU u
  rep : ∃ fp, Reps c O H σ Γ fp ∧ fp.Nodup ∧ ∀ a ∈ fp, a ∈ O
variable {σ : L2.St} {Γ : List (Option Rs)}
theorem Env.jH (e : Env c H0 O H σ Γ) : Ji c H := e.j.same mns_same
theorem Env.okO (e : Env c H0 O H σ Γ) : ∀ a ∈ O, okA c a := fun a ha st l q z => by
  obtain ⟨ns, x, k, h1, _⟩ := e.j st l q
  rw [← z, mns_in ha] at h1
  cases h1
theorem Env.rH (e : Env c H0 O H σ Γ) : Rr c H0 H := e.r0.tr (Rr.same mns_same)
theorem Env.len (e : Env c H0 O H σ Γ) : σ.length = Γ.length := let ⟨_, h, _⟩ := e.rep; h.len
/-- the heap goes on -/
theorem Env.on (e : Env c H0 O H σ Γ) (r : Rr c H H') : Env c H0 O H' σ Γ := by
  have rm := r.mns e.j e.okO
  refine ⟨e.r0.tr rm, rm.2 e.j, e.fr, fun a ha => ?_, ?_⟩
  · obtain ⟨u, q, w⟩ := e.dm a ha
    exact ⟨u, r.1 a _ (e.okO a ha) q, w⟩
  · obtain ⟨fp, h, nd, sub⟩ := e.rep
    refine ⟨fp, h.map fun x s f q z => ?_, nd, sub⟩
    cases s with
    | none => exact z
    | some s =>
      cases s with
      | v d => exact ⟨z.1, z.2.elim fun v hv => ⟨v, hv.1, hv.2.mono e.j rm⟩⟩
      | o d => exact z.elim fun v hv => ⟨v, hv.1, hv.2.up (fun _ _ s => r.tup e.jH s) fun a ha o ho => r.1 a o (e.okO a (sub a (q a ha))) ho⟩
      | r y => exact z
      | d u => exact z.elim fun a ⟨w1, w2, w3, w4⟩ => ⟨a, w1, w2, r.1 a _ (e.okO a (sub a (q a (by rw [w1]; simp)))) w3, w4⟩
      | w ds => exact z.elim fun a ⟨xs, w1, w2, w3, w4⟩ => ⟨a, xs, w1, w2, r.1 a _ (e.okO a (sub a (q a (by rw [w1]; simp)))) w3, w4.mono e.j rm⟩
theorem Env.slotV (e : Env c H0 O H σ Γ) {i : Nat} {d : PyData} (h : Γ[i]? = some (some (.v d))) : ∃ v, σ[i]? = some (some v) ∧ Bo c (mns H O) v d := by
  obtain ⟨fp, hr, nd, sub⟩ := e.rep
  obtain ⟨x, f, pre, post, h1, h2, h3, h4⟩ := hr.nth h
  obtain ⟨v, hv, b⟩ := h2.2
  subst hv
  exact ⟨v, h1, b⟩
theorem Env.slotO (e : Env c H0 O H σ Γ) {i : Nat} {d : PyData} (h : Γ[i]? = some (some (.o d))) : ∃ v fp, σ[i]? = some (some v) ∧ Fo c H v d fp ∧ fp.Nodup ∧ ∀ a ∈ fp, a ∈ O := by
  obtain ⟨fp, hr, nd, sub⟩ := e.rep
  obtain ⟨x, f, pre, post, h1, h2, h3, h4⟩ := hr.nth h
  obtain ⟨v, hv, b⟩ := h2
  subst hv
  subst h3
  have n2 := (List.nodup_append.mp nd).2.1
  exact ⟨v, f, h1, b, (List.nodup_append.mp n2).1, fun a ha => sub a (by simp [ha])⟩
theorem Env.slotR (e : Env c H0 O H σ Γ) {i : Nat} {y : V} (h : Γ[i]? = some (some (.r y))) : σ[i]? = some (some y) := by
  obtain ⟨fp, hr, nd, sub⟩ := e.rep
  obtain ⟨x, f, pre, post, h1, h2, h3, h4⟩ := hr.nth h
  have hy : x = some y := h2.2
  rw [h1, hy]
/-- any slot is given another value that does not change -/
theorem Env.setV (e : Env c H0 O H σ Γ) {i : Nat} {v : V} {d : PyData} (b : Bo c (mns H O) v d) : Env c H0 O H (σ.set i (some v)) (Γ.set i (some (.v d))) := by
  refine ⟨e.r0, e.j, e.fr, e.dm, ?_⟩
  obtain ⟨fp, hr, nd, sub⟩ := e.rep
  by_cases hi : i < Γ.length
  · obtain ⟨x, f, pre, post, h1, h2, h3, h4⟩ := hr.nth (s := Γ[i]) (List.getElem?_eq_getElem hi)
    subst h3
    refine ⟨pre ++ ([] ++ post), h4 O H _ _ [] (fun _ _ _ _ z => z) ⟨rfl, v, rfl, b⟩, ?_, fun a ha => sub a ?_⟩
    · refine nd.sublist ?_
      simp
    · simp at ha ⊢
      rcases ha with q | q <;> simp [q]
  · have hs : ¬ i < σ.length := by rw [hr.len]; exact hi
    rw [List.set_eq_of_length_le (by omega), List.set_eq_of_length_le (by omega)]
    exact ⟨fp, hr, nd, sub⟩
/-- a slot is forgotten, whatever it holds then -/
theorem Env.setN (e : Env c H0 O H σ Γ) {i : Nat} {x : Option V} : Env c H0 O H (σ.set i x) (Γ.set i none) := by
  refine ⟨e.r0, e.j, e.fr, e.dm, ?_⟩
  obtain ⟨fp, hr, nd, sub⟩ := e.rep
  by_cases hi : i < Γ.length
  · obtain ⟨y, f, pre, post, h1, h2, h3, h4⟩ := hr.nth (s := Γ[i]) (List.getElem?_eq_getElem hi)
    subst h3
    refine ⟨pre ++ ([] ++ post), h4 O H _ _ [] (fun _ _ _ _ z => z) rfl, ?_, fun a ha => sub a ?_⟩
    · refine nd.sublist ?_
      simp
    · simp at ha ⊢
      rcases ha with q | q <;> simp [q]
  · have hs : ¬ i < σ.length := by rw [hr.len]; exact hi
    rw [List.set_eq_of_length_le (by omega), List.set_eq_of_length_le (by omega)]
    exact ⟨fp, hr, nd, sub⟩
/-- a slot is given a new list -/
theorem Env.setO (e : Env c H0 O H σ Γ) (r : Rr c H H') {i : Nat} {v : V} {d : PyData} {f : List Addr} (b : Fo c H' v d f) (nd' : f.Nodup) (new : ∀ a ∈ f, H a = none) :
    Env c H0 (f ++ O) H' (σ.set i (some v)) (Γ.set i (some (.o d))) := by
  have e' := e.on r
  have hdis : ∀ a ∈ f, a ∉ O := fun a ha hO => by
    obtain ⟨xs, q, _⟩ := e.dm a hO
    rw [new a ha] at q
    cases q
  have hn : ∀ a ∈ f, mns H O a = none := fun a ha => by
    rw [mns_out (hdis a ha)]; exact new a ha
  have same : Same (mns H O) (mns H' (f ++ O)) → True := fun _ => trivial
  have hrm : Rr c (mns H O) (mns H' (f ++ O)) := by
    have rm := r.mns e.j e.okO
    refine ⟨fun a o k h => ?_, fun _ st l q => ?_⟩
    · have h' := rm.1 a o k h
      obtain ⟨n1, h'⟩ := mns_some h'
      have : a ∉ f := fun z => by rw [hn a z] at h; cases h
      rw [mns_out (by simp [this, n1])]
      exact h'
    · obtain ⟨ns, x, k, h1, h2, h3, h4⟩ := e.j st l q
      obtain ⟨ns', x', k', g1, g2, g3, g4⟩ := e'.j st l q
      obtain ⟨m1, g1⟩ := mns_some g1
      obtain ⟨m2, g2⟩ := mns_some g2
      have a1 : st ∉ f := fun z => by rw [hn _ z] at h1; cases h1
      have a2 : l ∉ f := fun z => by rw [hn _ z] at h2; cases h2
      exact ⟨ns', x', k', by rw [mns_out (by simp [a1, m1])]; exact g1, by rw [mns_out (by simp [a2, m2])]; exact g2, g3, g4⟩
  have jn : Ji c (mns H' (f ++ O)) := hrm.2 e.j
  refine ⟨e.r0.tr hrm, jn, fun a ha => ?_, fun a ha => ?_, ?_⟩
  · rcases List.mem_append.mp ha with q | q
    · have := e.r0
      cases h : H0 a with
      | none => rfl
      | some o =>
        have jH0 : okA c a := fun st l q' z => by
          obtain ⟨ns, x, k, h1, _⟩ := e.j st l q'
          rw [← z, hn a q] at h1
          cases h1
        have := e.r0.1 a o jH0 h
        rw [hn a q] at this
        cases this
    · exact e.fr a q
  · rcases List.mem_append.mp ha with q | q
    · exact (b.isL a q).elim fun xs h => ⟨_, h, trivial⟩
    · exact e'.dm a q
  · obtain ⟨fp, hr, nd, sub⟩ := e.rep
    have keep : ∀ y t g, (∀ a ∈ g, a ∈ O) → RepO c O H y t g → RepO c (f ++ O) H' y t g := fun y t g hg z => by
      cases t with
      | none => exact z
      | some t =>
        cases t with
        | v d => exact ⟨z.1, z.2.elim fun v hv => ⟨v, hv.1, hv.2.mono e.j hrm⟩⟩
        | o d => exact z.elim fun v hv => ⟨v, hv.1, hv.2.up (fun _ _ s => r.tup e.jH s) fun a ha o ho => r.1 a o (e.okO a (hg a ha)) ho⟩
        | r y => exact z
        | d u => exact z.elim fun a ⟨w1, w2, w3, w4⟩ => ⟨a, w1, w2, r.1 a _ (e.okO a (hg a (by rw [w1]; simp))) w3, w4⟩
        | w ds => exact z.elim fun a ⟨xs, w1, w2, w3, w4⟩ => ⟨a, xs, w1, w2, r.1 a _ (e.okO a (hg a (by rw [w1]; simp))) w3, w4.mono e.j hrm⟩
    by_cases hi : i < Γ.length
    · obtain ⟨x, g, pre, post, h1, h2, h3, h4⟩ := hr.nth (s := Γ[i]) (List.getElem?_eq_getElem hi)
      subst h3
      refine ⟨pre ++ (f ++ post), h4 _ _ _ _ f (fun y t g' q z => keep y t g' (fun a ha => sub a (by have := q a ha; simp at this ⊢; rcases this with w | w <;> simp [w])) z) ⟨v, rfl, b⟩, ?_, fun a ha => ?_⟩
      · have n0 : (pre ++ post).Nodup := nd.sublist (by simp)
        rw [List.nodup_append] at n0 ⊢
        refine ⟨n0.1, ?_, ?_⟩
        · rw [List.nodup_append]
          refine ⟨nd', n0.2.1, fun a ha b' hb q => ?_⟩
          subst q
          exact hdis a ha (sub a (by simp [hb]))
        · intro a ha b' hb q
          subst q
          rcases List.mem_append.mp hb with w | w
          · exact hdis a w (sub a (by simp [ha]))
          · exact n0.2.2 a ha a w rfl
      · simp only [List.mem_append] at ha ⊢
        rcases ha with q | q | q
        · exact .inr (sub a (by simp [q]))
        · exact .inl q
        · exact .inr (sub a (by simp [q]))
    · have hs : ¬ i < σ.length := by rw [hr.len]; exact hi
      rw [List.set_eq_of_length_le (by omega), List.set_eq_of_length_le (by omega)]
      exact ⟨fp, hr.map fun x s g q z => keep x s g (fun a ha => sub a (q a ha)) z, nd, fun a ha => by simp [sub a ha]⟩
/-- a list of one's own is written: the slot's list at p -/
theorem Env.write (e : Env c H0 O H σ Γ) {i : Nat} {ds es : List PyData} (h : Γ[i]? = some (some (.o (.list ds)))) :
    ∃ p xs f, σ[i]? = some (some (.ref p)) ∧ H p = some (.lst xs) ∧ FoAll c H xs ds f ∧ p ∉ f ∧ (∀ a ∈ f, a ∈ O) ∧
      ∀ ys : List V, FoAll c (upd H p (.lst ys)) ys es f → Env c H0 O (upd H p (.lst ys)) σ (Γ.set i (some (.o (.list es)))) := by
  obtain ⟨fp, hr, nd, sub⟩ := e.rep
  obtain ⟨x, f0, pre, post, h1, h2, h3, h4⟩ := hr.nth h
  obtain ⟨v, hv, b⟩ := h2
  subst hv
  obtain ⟨p, xs, f, rfl, rfl, hp, hfa⟩ := b.list'
  subst h3
  have hpO : p ∈ O := sub p (by simp)
  have n2 := (List.nodup_append.mp nd).2.1
  have hpf : p ∉ f := fun z => by
    have := (List.nodup_append.mp n2).1
    exact (List.nodup_cons.mp this).1 z
  refine ⟨p, xs, f, h1, hp, hfa, hpf, fun a ha => sub a (by simp [ha]), fun ys hy => ?_⟩
  have em : mns (upd H p (.lst ys)) O = mns H O := by
    funext a
    by_cases ha : a ∈ O
    · rw [mns_in ha, mns_in ha]
    · rw [mns_out ha, mns_out ha, upd_ne (fun z => ha (by rw [z]; exact hpO))]
  refine ⟨by rw [em]; exact e.r0, by rw [em]; exact e.j, e.fr, fun a ha => ?_, ?_⟩
  · by_cases q : a = p
    · rw [q]; exact ⟨_, upd_same, trivial⟩
    · rw [upd_ne q]; exact e.dm a ha
  · have hσ : σ.set i (some (.ref p)) = σ := by
      obtain ⟨hlt, e1⟩ := List.getElem?_eq_some_iff.mp h1
      rw [← e1]
      exact List.set_getElem_self hlt
    have := h4 O (upd H p (.lst ys)) (some (.ref p)) (some (.o (.list es))) (p :: f) (fun y t g q z => ?_) ⟨.ref p, rfl, .lst upd_same hy⟩
    · rw [hσ] at this
      exact ⟨_, this, nd, sub⟩
    · cases t with
      | none => exact z
      | some t =>
        cases t with
        | v d => exact ⟨z.1, z.2.elim fun v hv => ⟨v, hv.1, by rw [em]; exact hv.2⟩⟩
        | o d =>
          refine z.elim fun v hv => ⟨v, hv.1, hv.2.up (fun _ _ s => sqT_upd hp s) fun a ha o ho => ?_⟩
          have : a ≠ p := fun w => by
            subst w
            have hm := q a ha
            rcases List.mem_append.mp hm with u | u
            · exact (List.nodup_append.mp nd).2.2 a u a (by simp) rfl
            · exact (List.nodup_append.mp n2).2.2 a (by simp) a u rfl
          rw [upd_ne this]
          exact ho
        | r y => exact z
        | d u =>
          refine z.elim fun a ⟨w1, w2, w3, w4⟩ => ⟨a, w1, w2, ?_, w4⟩
          have : a ≠ p := fun w => by
            subst w
            have hm := q a (by rw [w1]; simp)
            rcases List.mem_append.mp hm with u | u
            · exact (List.nodup_append.mp nd).2.2 a u a (by simp) rfl
            · exact (List.nodup_append.mp n2).2.2 a (by simp) a u rfl
          rw [upd_ne this]
          exact w3
        | w ds =>
          refine z.elim fun a ⟨xs, w1, w2, w3, w4⟩ => ⟨a, xs, w1, w2, ?_, by rw [em]; exact w4⟩
          have : a ≠ p := fun w => by
            subst w
            have hm := q a (by rw [w1]; simp)
            rcases List.mem_append.mp hm with u | u
            · exact (List.nodup_append.mp nd).2.2 a u a (by simp) rfl
            · exact (List.nodup_append.mp n2).2.2 a (by simp) a u rfl
          rw [upd_ne this]
          exact w3
/-- from now on this list is not written -/
theorem Env.freeze (e : Env c H0 O H σ Γ) {i : Nat} {d : PyData} (h : Γ[i]? = some (some (.o d))) : ∃ O', Env c H0 O' H σ (Γ.set i (some (.v d))) ∧ Same (mns H O) (mns H O') := by
  obtain ⟨fp, hr, nd, sub⟩ := e.rep
  obtain ⟨x, f, pre, post, h1, h2, h3, h4⟩ := hr.nth h
  obtain ⟨v, hv, b⟩ := h2
  subst hv
  subst h3
  have n2 := (List.nodup_append.mp nd).2.1
  have dis : ∀ a ∈ pre ++ post, a ∉ f := fun a ha hf => by
    rcases List.mem_append.mp ha with u | u
    · exact (List.nodup_append.mp nd).2.2 a u a (by simp [hf]) rfl
    · exact (List.nodup_append.mp n2).2.2 a hf a u rfl
  have hm : ∀ a, a ∈ O.filter (fun a => !decide (a ∈ f)) ↔ a ∈ O ∧ a ∉ f := fun a => by simp [List.mem_filter]
  have sm : Same (mns H O) (mns H (O.filter fun a => !decide (a ∈ f))) := mns_sub fun a ha => ((hm a).mp ha).1
  refine ⟨O.filter fun a => !decide (a ∈ f), ⟨e.r0.tr (Rr.same sm), e.j.same sm, fun a ha => e.fr a ((hm a).mp ha).1, fun a ha => e.dm a ((hm a).mp ha).1, ?_⟩, sm⟩
  have hσ : σ.set i (some v) = σ := by
    obtain ⟨hlt, e1⟩ := List.getElem?_eq_some_iff.mp h1
    rw [← e1]
    exact List.set_getElem_self hlt
  have hb : Bo c (mns H (O.filter fun a => !decide (a ∈ f))) v d := by
    refine Fo.bo (fun a ha => e.okO a (sub a (by simp [ha]))) (b.up (fun a xs s => sqT_mns (fun b' hb' => e.dm b' ((hm b').mp hb').1) s) fun a ha o ho => ?_)
    rw [mns_out fun z => ((hm a).mp z).2 ha]
    exact ho
  have := h4 (O.filter fun a => !decide (a ∈ f)) H (some v) (some (.v d)) [] (fun y t g q z => ?_) ⟨rfl, v, rfl, hb⟩
  · rw [hσ] at this
    exact ⟨_, this, nd.sublist (by simp), fun a ha => (hm a).mpr ⟨sub a (by simp at ha ⊢; rcases ha with w | w <;> simp [w]), dis a (by simpa using ha)⟩⟩
  · cases t with
    | none => exact z
    | some t =>
      cases t with
      | v d => exact ⟨z.1, z.2.elim fun v hv => ⟨v, hv.1, hv.2.same sm⟩⟩
      | o d => exact z
      | r y => exact z
      | d u => exact z
      | w ds => exact z.elim fun a ⟨xs, w1, w2, w3, w4⟩ => ⟨a, xs, w1, w2, w3, w4.same sm⟩
/-- a later entry is as good as an earlier one -/
theorem Env.base (e : Env c H0 O H σ Γ) : Env c (mns H O) O H σ Γ := ⟨Rr.rf, e.j, fun a ha => mns_in ha, e.dm, e.rep⟩
theorem Env.fromB {O1 : List Addr} {σ1 : L2.St} {Γ1 : List (Option Rs)} (e : Env c H0 O H σ Γ) (e1 : Env c (mns H O) O1 H1 σ1 Γ1) : Env c H0 O1 H1 σ1 Γ1 :=
  ⟨e.r0.tr e1.r0, e1.j, (fun a ha => by
    have h1 := e1.fr a ha
    cases h : H0 a with
    | none => rfl
    | some o =>
      have k : okA c a := fun st l q z => by
        obtain ⟨ns, x, k, g1, _⟩ := e.j st l q
        rw [← z, h1] at g1
        cases g1
      have := e.r0.1 a o k h
      rw [h1] at this
      cases this), e1.dm, e1.rep⟩
end Lm


namespace Lm
open PySem PySem.Spec PyProof.Rows L2
section
variable {X : Cx} {H : Hp}
def NewT (H : Hp) (xs : List V) (Q : VK) : Prop := ∀ p o, o.dict = none → H p = none → Q (.ref p) (upd H p (.frz o (.tup xs)))
theorem newT {pins : List (Addr × Obj)} {σ : L2.St} {s : Shared} {xs : List V} {us : List Value} {Q : VK} (I : Inv X pins σ H s) (r : Vals xs us) (z : xs.length ≤ sizeLine) (q : NewT H xs Q) :
    EP X pins σ Q (.ref s.heap.objs.size) { s with heap := s.heap.push { cls := .type "tuple", data := .seq us.toArray } } := by
  refine ⟨.ref s.heap.objs.size, upd H s.heap.objs.size (.frz { cls := .type "tuple", data := .seq us.toArray } (.tup xs)), I.laid (t' := s.toks) (fun b u e => Heap.get?_push_of_some _ e) (Nat.le_refl _) ?_, rfl, q _ _ rfl (I.hok.fresh (Nat.le_refl _))⟩
  exact ⟨Heap.get?_push_size _ rfl, z, us, r, ⟨_, Heap.get?_push_size _ rfl, rfl, _, rfl⟩⟩
def tTupN (t : TA) : TE := fun σ H Q => t σ H fun xs H1 => xs.length ≤ sizeLine ∧ NewT H1 xs Q
theorem pe_tupN {es : List Expr} {t : TA} {pos : Pos} {x1} (h : PA X es t) : PE X (.Tuple es x1 pos) (tTupN t) := by
  refine ⟨fun pins s σ H Q I hq => ?_⟩
  refine wpAny_Tuple_spliced (thn (h.run pos pins s σ H _ I hq) fun us s1 ⟨xs, H1, I1, r, z, q⟩ => ⟨by rw [← r.length]; exact z, ?_⟩)
  exact newT I1 r z q
/-- tuple(list), tuple(tuple) -/
def rTuple (K : PySem.W.Frag) : List V → Hp → VK → Prop := fun xs H Q => ∃ p ys, xs = [.ref p] ∧ ((SqL K H p ys ∧ NewT H ys Q) ∨ (SqT K H p ys ∧ Q (.ref p) H))
theorem cr_tuple : CallR X (.type "tuple") (rTuple X.K) := by
  intro pins s σ H xs us Q I r h
  obtain ⟨p, ys, rfl, h⟩ := h
  obtain ⟨u, rfl, rx⟩ := vals1 r
  cases rx
  rcases h with ⟨hq, q⟩ | ⟨hq, q⟩
  · obtain ⟨its, r', pl, hz⟩ := I.list hq
    have hlen := r'.length
    refine call_tuple_list pl.isList (fun h' kp => ?_) (by simp only [List.size_toArray] <;> omega)
    have I1 : Inv X pins σ H { s with heap := h' } := I.kept (t' := s.toks) kp
    exact newT I1 r' hz q
  · obtain ⟨its, r', pl, hz⟩ := I.tuple hq
    exact call_tuple_same pl ⟨.ref p, H, I, rfl, q⟩
/-- t + u -/
def rCatN (K : PySem.W.Frag) : R2 := fun x y H Q => ∃ a b xs ys, x = .ref a ∧ y = .ref b ∧ SqT K H a xs ∧ SqT K H b ys ∧ xs.length + ys.length ≤ sizeLine ∧
  (xs = [] → Q (.ref b) H) ∧ (xs ≠ [] → ys = [] → Q (.ref a) H) ∧ (xs ≠ [] → ys ≠ [] → NewT H (xs ++ ys) Q)
theorem op_catN : OpR X (binaryOp .Add) (rCatN X.K) := by
  intro pins s σ H x y v u Q I rx ry h
  obtain ⟨a, b, xs, ys, rfl, rfl, ha, hb, hz, q0, q1, q2⟩ := h
  cases rx
  cases ry
  obtain ⟨its, r1, p1, _⟩ := I.tuple ha
  obtain ⟨its2, r2, p2, _⟩ := I.tuple hb
  by_cases hx : xs = []
  · subst hx
    cases r1
    exact cat_tup0 p1 p2 ⟨.ref b, H, I, rfl, q0 rfl⟩
  · refine HT.cat_tup p1 p2 (fun z => hx (r1.nil_iff.mp z)) (fun z => ⟨.ref a, H, I, rfl, q1 hx (r2.nil_iff.mp z)⟩) (fun z => ?_) (by rw [← r1.length, ← r2.length]; exact hz)
    have := newT (Q := Q) I (r1.append r2) (by rw [List.length_append]; exact hz) (q2 hx (fun w => z (r2.nil_iff.mpr w)))
    exact this
/-- t[lo:hi] -/
def rSlN (K : PySem.W.Frag) : V → Option Int → Option Int → Hp → VK → Prop := fun x lo hi H Q => ∃ a xs, x = .ref a ∧ SqT K H a xs ∧
  (HT.sIx xs.length 0 lo = 0 ∧ HT.sIx xs.length xs.length hi = xs.length → Q (.ref a) H) ∧ (¬ (HT.sIx xs.length 0 lo = 0 ∧ HT.sIx xs.length xs.length hi = xs.length) → NewT H (cutV xs lo hi) Q)
theorem sl_tupN : SlR X (rSlN X.K) := by
  intro pins s σ H x v vl vu lo hi sl Q I rx hs pl pu h
  obtain ⟨a, xs, rfl, hx, q1, q2⟩ := h
  cases rx
  obtain ⟨its, r, ht, hz⟩ := I.tuple hx
  have hlen : its.toArray.size = xs.length := by rw [List.size_toArray]; exact r.length.symm
  refine ⟨"tuple", _, PyProof.Rows.slot_tuple_getitem.lookup, ht.typeIs, ?_⟩
  by_cases hw : HT.sIx xs.length 0 lo = 0 ∧ HT.sIx xs.length xs.length hi = xs.length
  · exact getItem_tuple_whole ht hs pl pu (by rw [hlen]; exact hw) ⟨.ref a, H, I, rfl, q1 hw⟩
  · refine HT.getItem_tuple_cut ht hs pl pu (by rw [hlen]; exact hw) ?_ (by rw [hlen]; exact hz)
    rw [hlen]
    have := newT (Q := Q) I ((r.drop (HT.sIx xs.length 0 lo)).take (HT.sIx xs.length xs.length hi - HT.sIx xs.length 0 lo)) (Nat.le_trans (cutV_length xs lo hi) hz) (q2 hw)
    exact this
end
end Lm
namespace Lm
open PySem PySem.Spec PyProof.Rows L2
section
variable {X : Cx}
end
end Lm


namespace Lm
open PySem PySem.Spec PyProof.Rows L2
variable {c : Ct} {H H' H0 H1 H2 H3 : Hp} {O : List Addr} {σ : L2.St} {Γ : List (Option Rs)}

/-- what an expression gives: a value that stays, a new list, something to be read at once -/
inductive Kd | v | o | b
def Res (c : Ct) (O : List Addr) (H H2 : Hp) (v : V) (d : PyData) : Kd → Prop
  | .v => Bo c (mns H2 O) v d
  | .o => ∃ fp, Fo c H2 v d fp ∧ fp.Nodup ∧ ∀ a ∈ fp, H a = none
  | .b => Bo c H2 v d
theorem Res.bo {v : V} {d : PyData} {k : Kd} (e : Env c H0 O H σ Γ) (h : Res c O H H2 v d k) : Bo c H2 v d := by
  cases k with
  | v => exact Bo.same mns_same h
  | o =>
    obtain ⟨fp, f, nd, new⟩ := h
    exact f.bo fun a ha => okA.fresh e.jH (new a ha)
  | b => exact h
theorem Res.on {v : V} {d : PyData} {k : Kd} (e : Env c H0 O H σ Γ) (r1 : Rr c H H2) (r : Rr c H2 H3) (h : Res c O H H2 v d k) : Res c O H H3 v d k := by
  have e2 := e.on r1
  cases k with
  | v => exact Bo.mono e2.j (r.mns e2.j e2.okO) h
  | o =>
    obtain ⟨fp, f, nd, new⟩ := h
    exact ⟨fp, f.up (fun _ _ s => r.tup e2.jH s) (fun a ha o q => r.1 a o (okA.fresh e.jH (new a ha)) q), nd, new⟩
  | b => exact Bo.mono e2.jH r h
/-- fresh behind is fresh before -/
theorem Res.back {v : V} {d : PyData} {k : Kd} (e : Env c H0 O H σ Γ) (r1 : Rr c H H2) (h : Res c O H2 H3 v d k) : Res c O H H3 v d k := by
  cases k with
  | v => exact h
  | o =>
    obtain ⟨fp, f, nd, new⟩ := h
    exact ⟨fp, f, nd, fun a ha => r1.back e.jH (new a ha)⟩
  | b => exact h
theorem Bo.flatM {v : V} {d : PyData} (e : Env c H0 O H σ Γ) (r : Rr c H H2) (q : flatD d = true) (h : Bo c H2 v d) : Bo c (mns H2 O) v d :=
  h.flatTo (fun a xs s => sqT_mns (fun b hb => (e.on r).dm b hb) s) q

def Ev (c : Ct) (te : TE) (Γ : List (Option Rs)) (k : Kd) (d : PyData) : Prop :=
  ∀ H0 O H σ, Env c H0 O H σ Γ → ∀ Q : VK, (∀ v H2, Rr c H H2 → Res c O H H2 v d k → Q v H2) → te σ H Q
/-- .. one of several -/
def EvN (c : Ct) (te : TE) (Γ : List (Option Rs)) (k : Kd) (P : PyData → Prop) : Prop :=
  ∀ H0 O H σ, Env c H0 O H σ Γ → ∀ Q : VK, (∀ v d H2, P d → Rr c H H2 → Res c O H H2 v d k → Q v H2) → te σ H Q
def EvT (c : Ct) (tt : TT) (Γ : List (Option Rs)) (b : Bool) : Prop :=
  ∀ H0 O H σ, Env c H0 O H σ Γ → ∀ Q : Bool → Hp → Prop, (∀ H2, Rr c H H2 → Q b H2) → tt σ H Q
def EvTN (c : Ct) (tt : TT) (Γ : List (Option Rs)) : Prop :=
  ∀ H0 O H σ, Env c H0 O H σ Γ → ∀ Q : Bool → Hp → Prop, (∀ b H2, Rr c H H2 → Q b H2) → tt σ H Q
/-- arguments, to be read; (kv) each a value that stays -/
def EvA (c : Ct) (ta : TA) (Γ : List (Option Rs)) (kv : Bool) (ds : List PyData) : Prop :=
  ∀ H0 O H σ, Env c H0 O H σ Γ → ∀ Q : List V → Hp → Prop, (∀ vs H2, Rr c H H2 → BoAll c (if kv then mns H2 O else H2) vs ds → Q vs H2) → ta σ H Q
section
variable {te ta tb tx : TE} {tt tu : TT} {tr : TA} {k ka kb : Kd} {d x y z : PyData} {i j : Int} {a b : Bool} {kv : Bool} {ds : List PyData}
theorem Ev.n (h : Ev c te Γ k d) : EvN c te Γ k (fun x => x = d) := fun H0 O H σ e Q q => h H0 O H σ e Q fun v H2 r s => q v d H2 rfl r s
theorem EvN.det (h : EvN c te Γ k (fun x => x = d)) : Ev c te Γ k d := fun H0 O H σ e Q q => h H0 O H σ e Q fun v d H2 p r s => by subst p; exact q v H2 r s
theorem EvN.imp {P P' : PyData → Prop} (h : EvN c te Γ k P) (i : ∀ d, P d → P' d) : EvN c te Γ k P' := fun H0 O H σ e Q q => h H0 O H σ e Q fun v d H2 p => q v d H2 (i d p)
theorem Ev.to (h : Ev c te Γ k x) (e : x = y) : Ev c te Γ k y := e ▸ h
theorem EvT.to (h : EvT c tt Γ a) (e : a = b) : EvT c tt Γ b := e ▸ h
/-- flat data stay -/
theorem Ev.fl (h : Ev c te Γ k d) (f : flatD d = true) : Ev c te Γ .v d := fun H0 O H σ e Q q => h H0 O H σ e Q fun v H2 r s => q v H2 r (Bo.flatM e r f (Res.bo e s))
theorem Ev.fo (h : Ev c te Γ k d) (f : flatD d = true) : Ev c te Γ .o d := fun H0 O H σ e Q q => h H0 O H σ e Q fun v H2 r s => q v H2 r ⟨[], .leaf f (Res.bo e s), List.nodup_nil, fun _ h => nomatch h⟩
theorem EvN.fo {P : PyData → Prop} (h : EvN c te Γ k P) (f : ∀ d, P d → flatD d = true) : EvN c te Γ .o P := fun H0 O H σ e Q q => h H0 O H σ e Q fun v d H2 p r s => q v d H2 p r ⟨[], .leaf (f d p) (Res.bo e s), List.nodup_nil, fun _ h => nomatch h⟩
theorem EvN.fl {P : PyData → Prop} (h : EvN c te Γ k P) (f : ∀ d, P d → flatD d = true) : EvN c te Γ .v P := fun H0 O H σ e Q q => h H0 O H σ e Q fun v d H2 p r s => q v d H2 p r (Bo.flatM e r (f d p) (Res.bo e s))

/-! ### leaves -/
theorem d_int : Ev c (tC (.int i)) Γ .v (.int i) := fun H0 O H σ e Q q => q _ H Rr.rf (.int i)
theorem d_bl : Ev c (tC (.bl a)) Γ .v (.bool a) := fun H0 O H σ e Q q => q _ H Rr.rf (.bl a)
theorem d_str {s : Str} : Ev c (tC (.str s)) Γ .v (.str s) := fun H0 O H σ e Q q => q _ H Rr.rf (.str s)
theorem d_non : Ev c (tC .non) Γ .v .none := fun H0 O H σ e Q q => q _ H Rr.rf .non
theorem d_var {n : Nat} (h : Γ[n]? = some (some (.v d))) : Ev c (tVar n) Γ .v d := fun H0 O H σ e Q q => by
  obtain ⟨v, hv, b⟩ := e.slotV h
  exact ⟨v, hv, q v H Rr.rf b⟩
theorem d_varO {n : Nat} (h : Γ[n]? = some (some (.o d))) : Ev c (tVar n) Γ .b d := fun H0 O H σ e Q q => by
  obtain ⟨v, fp, hv, f, nd, sub⟩ := e.slotO h
  exact ⟨v, hv, q v H Rr.rf (f.bo fun a ha => e.okO a (sub a ha))⟩
/-! ### two operands -/
theorem d_bin {r : R2} (ha : Ev c ta Γ ka x) (hb : Ev c tb Γ kb y)
    (hr : ∀ H O v u (Q : VK), Bo c H v x → Bo c H u y → (∀ v' H2, Rr c H H2 → Bo c (mns H2 O) v' z → Q v' H2) → r v u H Q) : Ev c (tOp r ta tb) Γ .v z := fun H0 O H σ e Q q =>
  ha H0 O H σ e _ fun v H1 r1 s1 => hb H0 O H1 σ (e.on r1) _ fun u H2 r2 s2 =>
    hr H2 O v u Q (Res.bo e (Res.on e r1 r2 s1)) (Res.bo (e.on r1) s2) fun v' H3 r3 b => q v' H3 ((r1.tr r2).tr r3) b
theorem d_I {C : Int → Int → Prop} {g : Int → Int → V} {w : V} (ha : Ev c ta Γ ka (.int i)) (hb : Ev c tb Γ kb (.int j)) (hc : C i j) (hw : g i j = w) (hz : ∀ H, Bo c H w z) : Ev c (tOp (rI C g) ta tb) Γ .v z :=
  d_bin ha hb fun H O v u Q bv bu q => ⟨i, j, bv.int', bu.int', hc, q _ H Rr.rf (hw ▸ hz _)⟩
theorem d_I0 {g : Int → Int → V} {w : V} (ha : Ev c ta Γ ka (.int i)) (hb : Ev c tb Γ kb (.int j)) (hw : g i j = w) (hz : ∀ H, Bo c H w z) : Ev c (tOp (rI0 g) ta tb) Γ .v z :=
  d_bin ha hb fun H O v u Q bv bu q => ⟨i, j, bv.int', bu.int', q _ H Rr.rf (hw ▸ hz _)⟩
theorem d_sub (ha : Ev c ta Γ ka (.int i)) (hb : Ev c tb Γ kb (.int j)) : Ev c (tOp (rI0 fun i j => .int (i - j)) ta tb) Γ .v (.int (i - j)) := d_I0 ha hb rfl fun _ => .int _
theorem d_lt (ha : Ev c ta Γ ka (.int i)) (hb : Ev c tb Γ kb (.int j)) : Ev c (tOp (rI0 fun i j => .bl (decide (i < j))) ta tb) Γ .v (.bool (decide (i < j))) := d_I0 ha hb rfl fun _ => .bl _
theorem d_le (ha : Ev c ta Γ ka (.int i)) (hb : Ev c tb Γ kb (.int j)) : Ev c (tOp (rI0 fun i j => .bl (decide (i ≤ j))) ta tb) Γ .v (.bool (decide (i ≤ j))) := d_I0 ha hb rfl fun _ => .bl _
theorem d_gt (ha : Ev c ta Γ ka (.int i)) (hb : Ev c tb Γ kb (.int j)) : Ev c (tOp (rI0 fun i j => .bl (decide (j < i))) ta tb) Γ .v (.bool (decide (j < i))) := d_I0 ha hb rfl fun _ => .bl _
theorem d_fdiv (ha : Ev c ta Γ ka (.int i)) (hb : Ev c tb Γ kb (.int j)) (h : CDiv i j) : Ev c (tOp (rI CDiv fun i j => .int (i / j)) ta tb) Γ .v (.int (i / j)) := d_I ha hb h rfl fun _ => .int _
theorem d_mod (ha : Ev c ta Γ ka (.int i)) (hb : Ev c tb Γ kb (.int j)) (h : 0 < j) : Ev c (tOp (rI (fun _ j => 0 < j) fun i j => .int (i % j)) ta tb) Γ .v (.int (i % j)) := d_I ha hb h rfl fun _ => .int _
theorem decI {i j : Int} : decide (V.int i = V.int j) = decide (i = j) := by
  by_cases h : i = j
  · subst h; simp
  · rw [decide_eq_false h, decide_eq_false (fun e => h (V.int.inj e))]
def isNoneD : PyData → Bool
  | .none => true
  | _ => false
theorem Bo.isN {v : V} (h : Bo c H v d) : decide (v = V.non) = isNoneD d := by
  cases h <;> simp [isNoneD]
/-- is None -/
theorem d_isN (ha : Ev c ta Γ ka x) : Ev c (tOp (fun x y H Q => y = .non ∧ Q (.bl (decide (x = .non))) H) ta (tC .non)) Γ .v (.bool (isNoneD x)) :=
  d_bin ha d_non fun H O v u Q bv bu q => ⟨bu.non', by rw [bv.isN]; exact q _ H Rr.rf (.bl _)⟩
theorem d_notN (ha : Ev c ta Γ ka x) : Ev c (tOp (fun x y H Q => y = .non ∧ Q (.bl (!decide (x = .non))) H) ta (tC .non)) Γ .v (.bool (!(isNoneD x))) :=
  d_bin ha d_non fun H O v u Q bv bu q => ⟨bu.non', by rw [bv.isN]; exact q _ H Rr.rf (.bl _)⟩
theorem inV_ints {i : Int} {ns : List Int} : inV (.int i) (ns.map V.int) = decide (i ∈ ns) := by
  induction ns with
  | nil => rfl
  | cons n ns ih =>
    have e : inV (.int i) ((n :: ns).map V.int) = (eqV (.int n) (.int i) || inV (.int i) (ns.map V.int)) := rfl
    rw [e, ih]
    show (decide (n = i) || decide (i ∈ ns)) = _
    by_cases h : n = i
    · subst h; simp
    · have h' : ¬ i = n := fun e => h e.symm
      simp [h, h']
theorem flatV_ints (ns : List Int) : (ns.map V.int).all flatV = true := by
  rw [List.all_map]
  exact List.all_eq_true.mpr fun _ _ => rfl
/-- in a tuple or list of ints -/
theorem d_inT {neg : Bool} {ns : List Int} (ha : Ev c ta Γ ka (.int i)) (hb : Ev c tb Γ kb (.tuple (ns.map .int))) : Ev c (tOp (rIn c.K neg) ta tb) Γ .v (.bool (if neg then !decide (i ∈ ns) else decide (i ∈ ns))) :=
  d_bin ha hb fun H O v u Q bv bu q => by
    obtain ⟨p, xs, rfl, s, al⟩ := bu.tup'
    have := al.ints
    subst this
    rw [bv.int']
    exact ⟨p, _, rfl, .inr s.sq, rfl, flatV_ints ns, by rw [inV_ints]; exact q _ H Rr.rf (.bl _)⟩
theorem d_inL {neg : Bool} {ns : List Int} (ha : Ev c ta Γ ka (.int i)) (hb : Ev c tb Γ kb (.list (ns.map .int))) : Ev c (tOp (rIn c.K neg) ta tb) Γ .v (.bool (if neg then !decide (i ∈ ns) else decide (i ∈ ns))) :=
  d_bin ha hb fun H O v u Q bv bu q => by
    obtain ⟨p, xs, rfl, _, s, al⟩ := bu.lst'
    have := al.ints
    subst this
    rw [bv.int']
    exact ⟨p, _, rfl, .inl s, rfl, flatV_ints ns, by rw [inV_ints]; exact q _ H Rr.rf (.bl _)⟩
/-- an item -/
theorem atI_bo {v : List V} (h : BoAll c H v ds) (e : atI ds i = some d) : ∃ x, atI v i = some x ∧ Bo c H x d := by
  unfold atI at e ⊢
  rw [h.len]
  cases q : ixN ds.length i with
  | none => rw [q] at e; cases e
  | some n =>
    rw [q] at e
    exact h.gets e
/-! ### truth -/
theorem d_andV (ha : Ev c ta Γ ka (.bool a)) (hb : a = true → Ev c tb Γ .v (.bool b)) : Ev c (tAndV ta tb) Γ .v (.bool (a && b)) := fun H0 O H σ e Q q =>
  ha H0 O H σ e _ fun v H1 r1 s1 => ⟨a, (Res.bo e s1).bl', by
    cases a with
    | true =>
      refine iteT (hb rfl H0 O H1 σ (e.on r1) _ fun u H2 r2 s2 => ?_)
      rw [(Res.bo (e.on r1) s2).bl']
      exact q _ H2 (r1.tr r2) (.bl _)
    | false => exact iteF (q _ H1 r1 (.bl _))⟩
theorem t_test (h : Ev c te Γ k (.bool a)) : EvT c (tTest te) Γ a := fun H0 O H σ e Q q => h H0 O H σ e _ fun v H2 r s => ⟨a, (Res.bo e s).bl', q H2 r⟩
theorem t_B (h : Ev c te Γ k (.bool a)) : EvT c (tB te) Γ a := fun H0 O H σ e Q q => h H0 O H σ e _ fun v H2 r s => ⟨a, (Res.bo e s).bl', q H2 r⟩
theorem t_not (h : EvT c tt Γ a) : EvT c (tNot tt) Γ (!a) := fun H0 O H σ e Q q => h H0 O H σ e _ fun H2 r => q H2 r
theorem t_and (h : EvT c tt Γ a) (g : a = true → EvT c tu Γ b) : EvT c (tAnd tt tu) Γ (a && b) := fun H0 O H σ e Q q => h H0 O H σ e _ fun H2 r => by
  cases a with
  | true => exact iteT (g rfl H0 O H2 σ (e.on r) _ fun H3 r3 => q H3 (r.tr r3))
  | false => exact iteF (q H2 r)
theorem t_or (h : EvT c tt Γ a) (g : a = false → EvT c tu Γ b) : EvT c (tOr tt tu) Γ (a || b) := fun H0 O H σ e Q q => h H0 O H σ e _ fun H2 r => by
  cases a with
  | false => exact iteF (g rfl H0 O H2 σ (e.on r) _ fun H3 r3 => q H3 (r.tr r3))
  | true => exact iteT (q H2 r)
theorem t_yes : EvT c tYes Γ true := fun H0 O H σ e Q q => q H Rr.rf
theorem d_if (h : EvT c tt Γ a) (h1 : a = true → Ev c ta Γ k d) (h2 : a = false → Ev c tb Γ k d) : Ev c (tIf tt ta tb) Γ k d := fun H0 O H σ e Q q => h H0 O H σ e _ fun H1 r1 => by
  cases a with
  | true => exact iteT (h1 rfl H0 O H1 σ (e.on r1) _ fun v H2 r2 s => q v H2 (r1.tr r2) (s.back e r1))
  | false => exact iteF (h2 rfl H0 O H1 σ (e.on r1) _ fun v H2 r2 s => q v H2 (r1.tr r2) (s.back e r1))
/-! ### arguments -/
theorem a_nil : EvA c tNil Γ kv [] := fun H0 O H σ e Q q => q [] H Rr.rf .nil
theorem a_cons (h : Ev c te Γ k d) (hr : EvA c tr Γ false ds) : EvA c (tCons te tr) Γ false (d :: ds) := fun H0 O H σ e Q q =>
  h H0 O H σ e _ fun v H1 r1 s1 => hr H0 O H1 σ (e.on r1) _ fun vs H2 r2 s2 => q _ H2 (r1.tr r2) (.cons (Res.bo e (s1.on e r1 r2)) s2)
theorem a_consV (h : Ev c te Γ .v d) (hr : EvA c tr Γ true ds) : EvA c (tCons te tr) Γ true (d :: ds) := fun H0 O H σ e Q q =>
  h H0 O H σ e _ fun v H1 r1 s1 => hr H0 O H1 σ (e.on r1) _ fun vs H2 r2 s2 => q _ H2 (r1.tr r2) (.cons (s1.on e r1 r2) s2)
end
end Lm


namespace Lm
open PySem PySem.Spec PyProof.Rows L2
variable {c : Ct} {H H' H0 H1 H2 H3 : Hp} {O : List Addr} {σ : L2.St} {Γ Γ' : List (Option Rs)}

/-! ### what is walked -/
/-- an item: data, or a tuple made for the target alone -/
inductive Im where
  | d (x : PyData)
  | t (xs : List Im)
mutual
inductive Lo (c : Ct) (F : Hp) (fz : Bool) (H : Hp) : V → Im → Prop
  | leaf {v : V} {d : PyData} : (flatD d = true ∧ Bo c H v d) ∨ (fz = true ∧ Bo c F v d) → Lo c F fz H v (.d d)
  | tup {a : Addr} {xs : List V} {ds : List Im} : SqT c.K H a xs → LoAll c F fz H xs ds → Lo c F fz H (.ref a) (.t ds)
inductive LoAll (c : Ct) (F : Hp) (fz : Bool) (H : Hp) : List V → List Im → Prop
  | nil : LoAll c F fz H [] []
  | cons {v : V} {vs : List V} {d : Im} {ds : List Im} : Lo c F fz H v d → LoAll c F fz H vs ds → LoAll c F fz H (v :: vs) (d :: ds)
end
theorem LoAll.ofFlat {F : Hp} {fz : Bool} : ∀ {v : List V} {d : List PyData}, flatAll d = true → BoAll c H v d → LoAll c F fz H v (d.map Im.d)
  | _, _, _, .nil => .nil
  | _, _, q, .cons a b => by
    have q' : (flatD _ && flatAll _) = true := q
    rw [Bool.and_eq_true] at q'
    exact .cons (.leaf (.inl ⟨q'.1, a⟩)) (LoAll.ofFlat q'.2 b)
theorem LoAll.ofFz {F : Hp} : ∀ {v : List V} {d : List PyData}, BoAll c F v d → LoAll c F true H v (d.map Im.d)
  | _, _, .nil => .nil
  | _, _, .cons a b => .cons (.leaf (.inr ⟨rfl, a⟩)) (LoAll.ofFz b)
theorem LoAll.len {F : Hp} {fz : Bool} : ∀ {v : List V} {d : List Im}, LoAll c F fz H v d → v.length = d.length
  | _, _, .nil => rfl
  | _, _, .cons _ b => by simp [LoAll.len b]
/-- a tuple's parts -/
theorem Lo.parts {F : Hp} {fz : Bool} {v : V} {ds : List PyData} (j : Ji c F) (r : Rr c F H) (h : Lo c F fz H v (.d (.tuple ds))) : ∃ a xs, v = .ref a ∧ SqT c.K H a xs ∧ LoAll c F fz H xs (ds.map Im.d) := by
  cases h with
  | leaf h =>
    rcases h with ⟨q, b⟩ | ⟨q, b⟩
    · obtain ⟨a, xs, rfl, s, al⟩ := b.tup'
      exact ⟨a, xs, rfl, s.sq, .ofFlat (by simpa [flatD] using q) al⟩
    · obtain ⟨a, xs, rfl, s, al⟩ := b.tup'
      subst q
      exact ⟨a, xs, rfl, (r.tup j s).sq, .ofFz al⟩
def WD (c : Ct) (F : Hp) (fz : Bool) (J : It) (ds : List Im) : Prop :=
  Ji c F ∧ Walk J ds.length (fun H => Rr c F H) (fun i H x H' => Same H H' ∧ ∃ d, ds[i]? = some d ∧ Lo c F fz H' x d)
def EvI (c : Ct) (wi : TI) (Γ : List (Option Rs)) (fz : Bool) (ds : List Im) : Prop :=
  ∀ H0 O H σ, Env c H0 O H σ Γ → ∀ R : It → Hp → Prop, (∀ J H1, Rr c H H1 → WD c (if fz then mns H1 O else H1) fz J ds → R J H1) → wi σ H R
/-- a target takes an item -/
def EvG (c : Ct) (g : TG) (d : Im) (Γ Γ' : List (Option Rs)) (js : List Nat) : Prop :=
  ∀ H0 O H σ F fz x, Env c H0 O H σ Γ → Ji c F → Rr c F H → (fz = true → Rr c F (mns H O)) → Lo c F fz H x d → ∀ Q : L2.St → Hp → Prop,
    (∀ σ', Env c H0 O H σ' Γ' → (∀ vs, (∀ j ∈ js, j ∈ vs) → wipe σ' vs = wipe σ vs) → Q σ' H) → g x σ H Q
def EvGs (c : Ct) (g : TGs) (ds : List Im) (Γ Γ' : List (Option Rs)) (js : List Nat) : Prop :=
  ∀ H0 O H σ F fz xs, Env c H0 O H σ Γ → Ji c F → Rr c F H → (fz = true → Rr c F (mns H O)) → LoAll c F fz H xs ds → ∀ Q : L2.St → Hp → Prop,
    (∀ σ', Env c H0 O H σ' Γ' → (∀ vs, (∀ j ∈ js, j ∈ vs) → wipe σ' vs = wipe σ vs) → Q σ' H) → g xs σ H Q
theorem wipe_set {x : Option V} {j : Nat} {σ : L2.St} : ∀ {vs : List Nat}, j ∈ vs → wipe (σ.set j x) vs = wipe σ vs
  | [], h => by simp at h
  | v :: vs, h => by
    unfold wipe
    by_cases hj : j ∈ vs
    · rw [wipe_set hj]
    · have e : j = v := by simpa [hj] using h
      subst e
      have : ∀ (us : List Nat) (σ : L2.St), (wipe (σ.set j x) us).set j none = (wipe σ us).set j none := by
        intro us
        induction us with
        | nil => intro σ; simp [wipe]
        | cons u us ih =>
          intro σ
          show ((wipe (σ.set j x) us).set u none).set j none = ((wipe σ us).set u none).set j none
          by_cases q : u = j
          · subst q; simpa using ih σ
          · rw [List.set_comm _ _ q, ih σ, List.set_comm _ _ (fun z => q z.symm)]
      exact this vs σ
theorem wipe_wipe {σ : L2.St} : ∀ {vs us : List Nat}, (∀ v ∈ vs, v ∈ us) → wipe (wipe σ vs) us = wipe σ us
  | [], us, h => rfl
  | v :: vs, us, h => by
    show wipe ((wipe σ vs).set v none) us = wipe σ us
    rw [wipe_set (h v (by simp)), wipe_wipe fun w hw => h w (by simp [hw])]
def wipeG (Γ : List (Option Rs)) : List Nat → List (Option Rs)
  | [] => Γ
  | v :: vs => (wipeG Γ vs).set v none
theorem Env.wipe (e : Env c H0 O H σ Γ) : ∀ vs : List Nat, Env c H0 O H (L2.wipe σ vs) (wipeG Γ vs)
  | [] => e
  | v :: vs => (Env.wipe e vs).setN
theorem g_name {j : Nat} {d : PyData} : EvG c (gName j) (.d d) Γ (Γ.set j (some (.v d))) [j] := fun H0 O H σ F fz x e jF rF rM h Q q => by
  have b : Bo c (mns H O) x d := by
    cases h with
    | leaf h =>
      rcases h with ⟨f, b⟩ | ⟨f, b⟩
      · exact b.flatTo (fun a xs s => sqT_mns (fun b hb => e.dm b hb) s) f
      · exact b.mono jF (rM f)
  exact q _ (e.setV b) fun vs hv => wipe_set (hv j (by simp))
theorem g_nil : EvGs c gNil [] Γ Γ [] := fun H0 O H σ F fz xs e jF rF rM h Q q => by
  cases h
  exact ⟨rfl, q σ e fun _ _ => rfl⟩
theorem g_cons {g : TG} {gs : TGs} {d : Im} {ds : List Im} {Γ1 Γ2 : List (Option Rs)} {js ks : List Nat} (h : EvG c g d Γ Γ1 js) (hs : EvGs c gs ds Γ1 Γ2 ks) : EvGs c (gCons g gs) (d :: ds) Γ Γ2 (js ++ ks) := fun H0 O H σ F fz xs e jF rF rM l Q q => by
  cases l with
  | cons a b =>
    exact ⟨_, _, rfl, h H0 O H σ F fz _ e jF rF rM a _ fun σ1 e1 w1 => hs H0 O H σ1 F fz _ e1 jF rF rM b _ fun σ2 e2 w2 => q σ2 e2 fun vs hv =>
      (w2 vs fun j hj => hv j (by simp [hj])).trans (w1 vs fun j hj => hv j (by simp [hj]))⟩
theorem g_tup {n : Nat} {gs : TGs} {ds : List Im} {js : List Nat} (hn : ds.length = n) (hs : EvGs c gs ds Γ Γ' js) : EvG c (gTup c.K n gs) (.t ds) Γ Γ' js := fun H0 O H σ F fz x e jF rF rM h Q q => by
  cases h with
  | tup s al => exact ⟨_, _, rfl, s, al.len.trans hn, hs H0 O H σ F fz _ e jF rF rM al Q q⟩
theorem g_tupD {n : Nat} {gs : TGs} {ds : List PyData} {js : List Nat} (hn : ds.length = n) (hs : EvGs c gs (ds.map Im.d) Γ Γ' js) : EvG c (gTup c.K n gs) (.d (.tuple ds)) Γ Γ' js := fun H0 O H σ F fz x e jF rF rM h Q q => by
  obtain ⟨a, xs, rfl, s, al⟩ := h.parts jF rF
  exact ⟨_, _, rfl, s, al.len.trans (by simpa using hn), hs H0 O H σ F fz _ e jF rF rM al Q q⟩
end Lm


namespace Lm
open PySem PySem.Spec PyProof.Rows L2
variable {c : Ct} {H H' H0 H1 H2 H3 : Hp} {O : List Addr} {σ : L2.St} {Γ Γ' : List (Option Rs)}
variable {te ta tb tx tl : TE} {tt tu : TT} {tr : TA} {k ka kb : Kd} {d x y z : PyData} {i j : Int} {a b : Bool} {kv fz : Bool} {ds es : List PyData}

/-! ### what is walked: lists, tuples, ranges -/
theorem sizeOk {n : Nat} (h : n ≤ 1000000) : n ≤ sizeLine := Nat.le_trans h (by decide)
theorem map_get? {α : Type} {f : PyData → α} {i : Nat} {d : PyData} (h : ds[i]? = some d) : (ds.map f)[i]? = some (f d) := by simp [h]
/-- the frozen part -/
theorem Res.frozen {v : V} (e : Env c H0 O H σ Γ) (r : Rr c H H2) (h : Res c O H H2 v d k) (hk : k ≠ .b) : Bo c (mns H2 O) v d := by
  cases k with
  | v => exact h
  | o =>
    obtain ⟨fp, f, nd, new⟩ := h
    have e2 := e.on r
    have no : ∀ a ∈ fp, a ∉ O := fun a ha hO => by
      obtain ⟨xs, q, _⟩ := e.dm a hO
      rw [new a ha] at q
      cases q
    exact (f.up (fun a xs s => sqT_mns (fun b hb => e2.dm b hb) s) fun a ha o q => by rw [mns_out (no a ha)]; exact q).bo fun a ha => okA.fresh e.jH (new a ha)
  | b => exact absurd rfl hk
theorem i_core {J : It} {xs : List V} {F : Hp} (jF : Ji c F) (hw : Walk J xs.length (fun H => Rr c F H) (YAt xs)) (hb : BoAll c F xs ds) (hf : fz = true ∨ flatAll ds = true) : WD c F fz J (ds.map Im.d) := by
  refine ⟨jF, ?_⟩
  have hl : xs.length = (ds.map Im.d).length := by rw [hb.len]; simp
  rw [hl] at hw
  refine hw.mono (fun _ h => h) fun i H x H' hi g y => ?_
  obtain ⟨rfl, hx⟩ := y
  obtain ⟨d, hd, bd⟩ := hb.get hx
  refine ⟨Same.refl _, .d d, map_get? hd, .leaf ?_⟩
  rcases hf with hf | hf
  · exact .inr ⟨hf, bd⟩
  · refine .inl ⟨?_, bd.mono jF g⟩
    have : ∀ (l : List PyData), flatAll l = true → ∀ d ∈ l, flatD d = true := by
      intro l
      induction l with
      | nil => intro _ _ h; simp at h
      | cons a l ih =>
        intro q d hd
        have q' : (flatD a && flatAll l) = true := q
        rw [Bool.and_eq_true] at q'
        rcases List.mem_cons.mp hd with w | w
        · rw [w]; exact q'.1
        · exact ih q'.2 d w
    exact this ds hf d (List.mem_of_getElem? hd)
theorem i_listB (h : Ev c tl Γ k (.list ds)) (hf : flatAll ds = true) : EvI c (iList c.K tl) Γ false (ds.map Im.d) := fun H0 O H σ e R q =>
  h H0 O H σ e _ fun v H1 r s => by
    obtain ⟨p, xs, rfl, kp, sl, al⟩ := (Res.bo e s).lst'
    have j1 := (e.on r).jH
    exact ⟨p, rfl, ⟨xs, sl⟩, q _ H1 r (i_core j1 (walk_list.mono (fun H h => h.lst kp sl) fun _ _ _ _ _ _ y => y) al (.inr hf))⟩
theorem i_list (h : Ev c tl Γ k (.list ds)) (hk : k ≠ .b) : EvI c (iList c.K tl) Γ true (ds.map Im.d) := fun H0 O H σ e R q =>
  h H0 O H σ e _ fun v H1 r s => by
    obtain ⟨p, xs, rfl, kp, sl, al⟩ := (Res.frozen e r s hk).lst'
    exact ⟨p, rfl, ⟨xs, mns_same.seq sl⟩, q _ H1 r (i_core (e.on r).j (walk_list.mono (fun H h => h.lst kp sl) fun _ _ _ _ _ _ y => y) al (.inl rfl))⟩
theorem i_tup (h : Ev c tl Γ k (.tuple ds)) (hk : k ≠ .b) : EvI c (iTup c.K tl) Γ true (ds.map Im.d) := fun H0 O H σ e R q =>
  h H0 O H σ e _ fun v H1 r s => by
    obtain ⟨p, xs, rfl, sl, al⟩ := (Res.frozen e r s hk).tup'
    exact ⟨p, rfl, ⟨xs, (sqT_same mns_same sl).sq⟩, q _ H1 r (i_core (e.on r).j (walk_tup.mono (fun H h => (h.tup (e.on r).j sl).sq) fun _ _ _ _ _ _ y => y) al (.inl rfl))⟩
/-- the upI from lo on, n of them -/
def upI (lo : Int) (n : Nat) : List Int := (List.range n).map fun (i : Nat) => lo + (i : Int)
theorem i_range {F : Hp} (jF : Ji c F) {lo : Int} {n : Nat} : WD c F fz (Itr lo n) ((upI lo n).map fun i => Im.d (.int i)) := by
  refine ⟨jF, ?_⟩
  have hl : ((upI lo n).map fun i => Im.d (.int i)).length = n := by simp [upI]
  rw [hl]
  refine walk_range.mono (fun _ _ => trivial) fun i H x H' hi g y => ?_
  obtain ⟨rfl, rfl⟩ := y
  exact ⟨Same.refl _, .d (.int (lo + i)), by simp [upI, hi], .leaf (.inl ⟨rfl, .int _⟩)⟩
theorem i_rng1 {n : Int} (h : EvA c tr Γ kv [.int n]) (hn : n ≤ 1000000) (hn' : -1000000 ≤ n) : EvI c (iRng1 tr) Γ true ((upI 0 n.toNat).map fun i => Im.d (.int i)) := fun H0 O H σ e R q =>
  h H0 O H σ e _ fun vs H1 r s => by
    cases s with
    | cons b bs =>
      cases bs
      have := b.int'
      subst this
      exact ⟨n, rfl, by omega, by omega, q _ H1 r (i_range (e.on r).j)⟩
theorem i_rng2 {m n : Int} (h : EvA c tr Γ kv [.int m, .int n]) (hn : n ≤ 1000000) (hn' : -1000000 ≤ n) (hm : m ≤ 1000000) (hm' : -1000000 ≤ m) : EvI c (iRng2 tr) Γ true ((upI m (n - m).toNat).map fun i => Im.d (.int i)) := fun H0 O H σ e R q =>
  h H0 O H σ e _ fun vs H1 r s => by
    cases s with
    | cons b bs =>
      cases bs with
      | cons b' bs =>
        cases bs
        have := b.int'
        subst this
        have := b'.int'
        subst this
        exact ⟨m, n, rfl, ⟨by omega, by omega, by omega, by omega⟩, q _ H1 r (i_range (e.on r).j)⟩

/-! ### comprehensions -/
theorem flatAll_one {d : PyData} {ds : List PyData} (h : flatAll ds = true) (m : d ∈ ds) : flatD d = true := by
  induction ds with
  | nil => simp at m
  | cons a l ih =>
    have q' : (flatD a && flatAll l) = true := h
    rw [Bool.and_eq_true] at q'
    rcases List.mem_cons.mp m with w | w
    · rw [w]; exact q'.1
    · exact ih q'.2 w
theorem ifFz {F : Hp} {H1 : Hp} {O : List Addr} (e : Env c H0 O H σ Γ) (r1 : Rr c H H1) (r : Rr c H1 H2) : Rr c (if fz then mns H1 O else H1) H2 ∧ (fz = true → Rr c (if fz then mns H1 O else H1) (mns H2 O)) := by
  cases fz with
  | true => exact ⟨(Rr.same mns_same).tr r, fun _ => r.mns (e.on r1).j e.okO⟩
  | false => exact ⟨r, fun h => nomatch h⟩
theorem n_lc {wi : TI} {g : TG} {vs : List Nat} {items : List Im} (M : Nat → List PyData → Prop) (hi : EvI c wi Γ fz items) (hl : items.length ≤ 1000000) (h0 : M 0 [])
    (hb : ∀ (n : Nat) (a : Im) (acc : List PyData), items[n]? = some a → M n acc → ∃ Γ' js, EvG c g a (wipeG Γ vs) Γ' js ∧ (∀ j ∈ js, j ∈ vs) ∧
      ∃ (b : Bool) (P : PyData → Prop), EvT c tt Γ' b ∧ (b = true → EvN c te Γ' .o P ∧ ∀ d, P d → M (n + 1) (acc ++ [d])) ∧ (b = false → M (n + 1) acc)) :
    EvN c (tLc wi g tt te vs) Γ .o (fun d => ∃ acc, d = .list acc ∧ M items.length acc) := fun H0 O H σ e Q q =>
  hi H0 O H σ e _ fun J H1 r1 w D hD => by
    obtain ⟨jF, w⟩ := w
    refine lc_it w (fun n H' => Rr c H1 H' ∧ ∃ acc ds fp, H' D = some (.lst acc) ∧ FoAll c H' acc ds fp ∧ fp.Nodup ∧ (∀ a ∈ fp, H1 a = none) ∧ D ∉ fp ∧ ds.length ≤ n ∧ M n ds) ?_ ?_ ?_ ?_
    · exact ⟨Rr.same fun b o z => by rw [upd_ne (ne_of_none z hD)]; exact z, [], [], [], upd_same, .nil, List.nodup_nil, (fun _ h => nomatch h), (fun h => nomatch h), Nat.le_refl _, h0⟩
    · intro n H' _ p
      exact (ifFz (F := H) e r1 p.1).1
    · rintro n x H' H'' hn ⟨p1, acc, ds, fp, p2, p3, p4, p5, p6, p7, p8⟩ ⟨sm, im, him, lo⟩
      have e2 : Env c H0 O H'' σ Γ := e.on ((r1.tr p1).tr (Rr.same sm))
      have fzz := ifFz (fz := fz) (F := H) e r1 (p1.tr (Rr.same sm))
      obtain ⟨Γ', js, hg, hjs, b, P, ht, hy, hno⟩ := hb n im ds him p8
      refine hg H0 O H'' _ _ fz x (e2.wipe vs) jF fzz.1 fzz.2 lo _ fun σ2 e3 hw => ⟨(hw vs hjs).trans (wipe_wipe fun _ h => h), ht H0 O H'' σ2 e3 _ fun H3 r3 => ?_⟩
      have p3' : FoAll c H'' acc ds fp := p3.up (fun _ _ s => sqT_same sm s) fun a _ o z => sm a o z
      have okf : ∀ a ∈ fp, okA c a := fun a ha => okA.fresh (e.on r1).jH (p5 a ha)
      have okD : okA c D := okA.fresh (e.on r1).jH hD
      have f3 : FoAll c H3 acc ds fp := p3'.up (fun _ _ s => r3.tup e2.jH s) fun a ha o z => r3.1 a o (okf a ha) z
      have D3 : H3 D = some (.lst acc) := r3.1 D _ okD (sm _ _ p2)
      have r13 : Rr c H1 H3 := (p1.tr (Rr.same sm)).tr r3
      cases b with
      | true =>
        refine iteT ?_
        obtain ⟨hyN, hyM⟩ := hy rfl
        refine hyN H0 O H3 σ2 (e3.on r3) _ fun v d H4 pd r4 s4 => ?_
        obtain ⟨fq, f4, nq, newq⟩ := s4
        have e3' := e3.on r3
        have D4 : H4 D = some (.lst acc) := r4.1 D _ okD D3
        have f3' : FoAll c H4 acc ds fp := f3.up (fun _ _ s => r4.tup e3'.jH s) fun a ha o z => r4.1 a o (okf a ha) z
        have Dq : D ∉ fq := fun z => by rw [newq D z] at D3; cases D3
        have all : FoAll c H4 (acc ++ [v]) (ds ++ [d]) (fp ++ (fq ++ [])) := f3'.app (.cons f4 .nil)
        rw [List.append_nil] at all
        have lacc : acc.length = ds.length := (f3'.bo okf).len
        have hle : ds.length ≤ 1000000 := by omega
        have nodq : ∀ a ∈ fp, a ∉ fq := fun a ha hq => by
          obtain ⟨xs, z⟩ := f3.isL a ha
          rw [newq a hq] at z; cases z
        refine ⟨acc, D4, by rw [lacc, sizeLine_eq]; omega, ?_, acc ++ [v], ds ++ [d], fp ++ fq, upd_same, ?_, ?_, ?_, ?_, by simp; omega, hyM d pd⟩
        · refine ⟨fun a o ok z => ?_, fun jj => ?_⟩
          · rw [upd_ne (ne_of_none z hD)]; exact (r13.tr r4).1 a o ok z
          · intro st l eq
            obtain ⟨ns, x, k, g1, g2, g3, g4⟩ := (r13.tr r4).2 jj st l eq
            have d1 : st ≠ D := fun z => by
              obtain ⟨ns', x', k', g1', _⟩ := jj st l eq
              rw [z, hD] at g1'; cases g1'
            have d2 : l ≠ D := fun z => by
              obtain ⟨ns', x', k', _, g2', _⟩ := jj st l eq
              rw [z, hD] at g2'; cases g2'
            exact ⟨ns, x, k, by rw [upd_ne d1]; exact g1, by rw [upd_ne d2]; exact g2, g3, g4⟩
        · refine all.up (fun _ _ s => sqT_upd D4 s) fun a ha o z => ?_
          have : a ≠ D := fun w => by
            subst w
            rcases List.mem_append.mp ha with u | u
            · exact p6 u
            · exact Dq u
          rw [upd_ne this]; exact z
        · rw [List.nodup_append]
          exact ⟨p4, nq, fun a ha b hb z => by subst z; exact nodq a ha hb⟩
        · intro a ha
          rcases List.mem_append.mp ha with u | u
          · exact p5 a u
          · exact r13.back (e.on r1).jH (newq a u)
        · intro z
          rcases List.mem_append.mp z with u | u
          · exact p6 u
          · exact Dq u
      | false =>
        exact iteF ⟨r13, acc, ds, fp, D3, f3, p4, p5, p6, by omega, hno rfl⟩
    · rintro H' ⟨p1, acc, ds, fp, p2, p3, p4, p5, p6, p7, p8⟩
      refine q (.ref D) (.list ds) H' ⟨ds, rfl, p8⟩ (r1.tr p1) ⟨D :: fp, .lst p2 p3, ?_, fun a ha => ?_⟩
      · exact List.nodup_cons.mpr ⟨p6, p4⟩
      · rcases List.mem_cons.mp ha with w | w
        · rw [w]; exact r1.back e.jH hD
        · exact r1.back e.jH (p5 a w)
theorem d_lc {α : Type} {wi : TI} {g : TG} {vs : List Nat} {l : List α} {en : α → Im} (p : α → Bool) (m : α → PyData) (hi : EvI c wi Γ fz (l.map en)) (hl : l.length ≤ 1000000)
    (hb : ∀ a ∈ l, ∃ Γ' js, EvG c g (en a) (wipeG Γ vs) Γ' js ∧ (∀ j ∈ js, j ∈ vs) ∧ EvT c tt Γ' (p a) ∧ (p a = true → Ev c te Γ' .o (m a))) :
    Ev c (tLc wi g tt te vs) Γ .o (.list ((l.filter p).map m)) := by
  refine ((n_lc (fun n acc => acc = ((l.take n).filter p).map m) hi (by simpa using hl) rfl ?_).imp ?_).det
  · intro n a acc hn hacc
    rw [List.getElem?_map] at hn
    cases ha : l[n]? with
    | none => rw [ha] at hn; cases hn
    | some a0 =>
      rw [ha] at hn
      have : en a0 = a := Option.some.inj hn
      subst this
      have tk : l.take (n + 1) = l.take n ++ [a0] := by
        rw [List.take_add_one, ha]; rfl
      obtain ⟨Γ', js, h1, h2, h3, h4⟩ := hb a0 (List.mem_of_getElem? ha)
      refine ⟨Γ', js, h1, h2, p a0, fun d => d = m a0, h3, fun hp => ⟨(h4 hp).n, fun d hd => ?_⟩, fun hp => ?_⟩
      · rw [hacc, tk, hd]; simp [hp]
      · rw [hacc, tk]; simp [hp]
  · rintro d ⟨acc, rfl, h⟩
    have : (l.map en).length = l.length := by simp
    rw [this, List.take_length] at h
    rw [h]
/-- without a test -/
theorem d_lcA {α : Type} {wi : TI} {g : TG} {vs : List Nat} {l : List α} {en : α → Im} (m : α → PyData) (hi : EvI c wi Γ fz (l.map en)) (hl : l.length ≤ 1000000)
    (hb : ∀ a ∈ l, ∃ Γ' js, EvG c g (en a) (wipeG Γ vs) Γ' js ∧ (∀ j ∈ js, j ∈ vs) ∧ Ev c te Γ' .o (m a)) :
    Ev c (tLc wi g tYes te vs) Γ .o (.list (l.map m)) := by
  have := d_lc (te := te) (tt := tYes) (g := g) (vs := vs) (fun _ => true) m hi hl fun a ha => by
    obtain ⟨Γ', js, h1, h2, h3⟩ := hb a ha
    exact ⟨Γ', js, h1, h2, t_yes, fun _ => h3⟩
  have e : l.filter (fun _ => true) = l := List.filter_eq_self.mpr fun _ _ => rfl
  rwa [e] at this
end Lm


namespace Lm
open PySem PySem.Spec PyProof.Rows L2
variable {c : Ct} {H H' H0 H1 H2 H3 : Hp} {O : List Addr} {σ : L2.St} {Γ Γ' Γ1 : List (Option Rs)}
variable {te ta tb tx tl : TE} {tt tu : TT} {tr : TA} {k ka kb : Kd} {d x y z : PyData} {i j : Int} {a b : Bool} {kv fz : Bool} {ds es : List PyData}

/-! ### how a statement ends -/
inductive Out where
  | nx (Γ : List (Option Rs))
  | rt (k : Kd) (d : PyData)
  | bk (Γ : List (Option Rs))
  | ct (Γ : List (Option Rs))
def Rt (c : Ct) (H0 H : Hp) (v : V) (d : PyData) : Kd → Prop
  | .v => flatD d = true ∧ Bo c H v d
  | .o => ∃ fp, Fo c H v d fp ∧ fp.Nodup ∧ ∀ a ∈ fp, H0 a = none
  | .b => (∃ x, c.so = some x) ∧ Bo c H v d
def Sat (c : Ct) (H0 : Hp) (D : Ends) : Out → Prop
  | .nx Γ => ∀ O H σ, Env c H0 O H σ Γ → D.nx σ H
  | .rt k d => ∀ v H, Rr c H0 H → Rt c H0 H v d k → D.rt v H
  | .bk Γ => ∀ O H σ, Env c H0 O H σ Γ → D.bk σ H
  | .ct Γ => ∀ O H σ, Env c H0 O H σ Γ → D.ct σ H
def Sd (c : Ct) (t : TS) (Γ : List (Option Rs)) (P : Out → Prop) : Prop :=
  ∀ H0 O H σ D, Env c H0 O H σ Γ → (∀ o, P o → Sat c H0 D o) → t D σ H
section
variable {t u w : TS} {P P1 : Out → Prop} {n : Nat}
theorem Env.back0 (e : Env c H0 O H σ Γ) {a : Addr} (h : mns H O a = none) : H0 a = none := by
  cases q : H0 a with
  | none => rfl
  | some o =>
    have k : okA c a := fun st l z w => by
      obtain ⟨ns, x, k, g1, _⟩ := e.j st l z
      rw [← w, h] at g1
      cases g1
    have := e.r0.1 a o k q
    rw [h] at this
    cases this
theorem s_next (h : P (.nx Γ)) : Sd c tNext Γ P := fun H0 O H σ D e s => s _ h O H σ e
theorem s_seq (h : Sd c t Γ P1) (hn : ∀ Γ1, P1 (.nx Γ1) → Sd c u Γ1 P) (hr : ∀ k d, P1 (.rt k d) → P (.rt k d)) (hb : ∀ Γ1, P1 (.bk Γ1) → P (.bk Γ1)) (hc : ∀ Γ1, P1 (.ct Γ1) → P (.ct Γ1)) : Sd c (tSeq t u) Γ P := fun H0 O H σ D e s =>
  h H0 O H σ _ e fun o po => match o with
    | .nx Γ1 => fun O1 H1 σ1 e1 => hn Γ1 po H0 O1 H1 σ1 D e1 s
    | .rt k d => fun v H1 r q => s _ (hr k d po) v H1 r q
    | .bk Γ1 => fun O1 H1 σ1 e1 => s _ (hb Γ1 po) O1 H1 σ1 e1
    | .ct Γ1 => fun O1 H1 σ1 e1 => s _ (hc Γ1 po) O1 H1 σ1 e1
theorem s_seq1 (h : Sd c t Γ (fun o => o = .nx Γ1)) (hn : Sd c u Γ1 P) : Sd c (tSeq t u) Γ P :=
  s_seq h (fun _ e => by cases e; exact hn) (fun _ _ e => nomatch e) (fun _ e => nomatch e) (fun _ e => nomatch e)
theorem Sd.imp (h : Sd c t Γ P1) (i : ∀ o, P1 o → P o) : Sd c t Γ P := fun H0 O H σ D e s => h H0 O H σ D e fun o po => s o (i o po)
/-- another description of the slots -/
theorem Sd.pre (h : Sd c t Γ1 P) (i : ∀ H0 O H σ, Env c H0 O H σ Γ → ∃ O', Env c H0 O' H σ Γ1) : Sd c t Γ P := fun H0 O H σ D e s => by
  obtain ⟨O', e'⟩ := i H0 O H σ e
  exact h H0 O' H σ D e' s
theorem s_freeze (h : Γ[n]? = some (some (.o d))) (hs : Sd c t (Γ.set n (some (.v d))) P) : Sd c t Γ P :=
  hs.pre fun H0 O H σ e => let ⟨O', e', _⟩ := e.freeze h; ⟨O', e'⟩
/-- what an expression gave is stored: to be returned -/
theorem Rt.of {v : V} (e : Env c H0 O H σ Γ) (r : Rr c H H2) (h : Res c O H H2 v d k) (hk : k = .o ∨ (k = .v ∧ flatD d = true)) : Rt c H0 H2 v d k := by
  rcases hk with rfl | ⟨rfl, f⟩
  · obtain ⟨fp, q, nd, new⟩ := h
    refine ⟨fp, q, nd, fun a ha => e.back0 ?_⟩
    have : a ∉ O := fun z => by
      obtain ⟨xs, w, _⟩ := e.dm a z
      rw [new a ha] at w; cases w
    rw [mns_out this]; exact new a ha
  · exact ⟨f, Bo.same mns_same h⟩
theorem s_ret (h : Ev c te Γ k d) (hk : k = .o ∨ (k = .v ∧ flatD d = true)) (p : P (.rt k d)) : Sd c (tRet te) Γ P := fun H0 O H σ D e s =>
  h H0 O H σ e _ fun v H2 r q => s _ p v H2 (e.rH.tr r) (Rt.of e r q hk)
/-- a list of one's own is returned -/
theorem s_retO (h : Γ[n]? = some (some (.o d))) (p : P (.rt .o d)) : Sd c (tRet (tVar n)) Γ P := fun H0 O H σ D e s => by
  obtain ⟨v, fp, hv, f, nd, sub⟩ := e.slotO h
  exact ⟨v, hv, s _ p v H e.rH ⟨fp, f, nd, fun a ha => e.fr a (sub a ha)⟩⟩
theorem s_asg (h : Ev c te Γ .v d) (p : P (.nx (Γ.set n (some (.v d))))) : Sd c (tAsg te (gName n)) Γ P := fun H0 O H σ D e s =>
  h H0 O H σ e _ fun v H2 r q => s _ p O H2 _ ((e.on r).setV q)
theorem s_asgO (h : Ev c te Γ .o d) (p : P (.nx (Γ.set n (some (.o d))))) : Sd c (tAsg te (gName n)) Γ P := fun H0 O H σ D e s =>
  h H0 O H σ e _ fun v H2 r ⟨fp, f, nd, new⟩ => s _ p _ H2 _ (e.setO r f nd new)
theorem q_asg (h : Ev c te Γ .v d) (p : Sd c u (Γ.set n (some (.v d))) P) : Sd c (tSeq (tAsg te (gName n)) u) Γ P := s_seq1 (s_asg h rfl) p
theorem q_asgO (h : Ev c te Γ .o d) (p : Sd c u (Γ.set n (some (.o d))) P) : Sd c (tSeq (tAsg te (gName n)) u) Γ P := s_seq1 (s_asgO h rfl) p
theorem q_asgN (Pd : PyData → Prop) (h : EvN c te Γ .v Pd) (p : ∀ d, Pd d → Sd c u (Γ.set n (some (.v d))) P) : Sd c (tSeq (tAsg te (gName n)) u) Γ P := fun H0 O H σ D e s =>
  h H0 O H σ e _ fun v d H2 pd r q => p d pd H0 O H2 _ D ((e.on r).setV q) s
theorem q_drop (h : Ev c te Γ k d) (p : Sd c u Γ P) : Sd c (tSeq (tDrop te) u) Γ P := fun H0 O H σ D e s =>
  h H0 O H σ e _ fun v H2 r q => p H0 O H2 σ D (e.on r) s
theorem s_drop (h : Ev c te Γ k d) (p : P (.nx Γ)) : Sd c (tDrop te) Γ P := fun H0 O H σ D e s =>
  h H0 O H σ e _ fun v H2 r q => s _ p O H2 σ (e.on r)
theorem s_if (h : EvT c tt Γ a) (h1 : a = true → Sd c t Γ P) (h2 : a = false → Sd c u Γ P) : Sd c (tIfS tt t u) Γ P := fun H0 O H σ D e s =>
  h H0 O H σ e _ fun H2 r => by
    cases a with
    | true => exact iteT (h1 rfl H0 O H2 σ D (e.on r) s)
    | false => exact iteF (h2 rfl H0 O H2 σ D (e.on r) s)
theorem s_ifN (h : EvTN c tt Γ) (h1 : Sd c t Γ P) (h2 : Sd c u Γ P) : Sd c (tIfS tt t u) Γ P := fun H0 O H σ D e s =>
  h H0 O H σ e _ fun b H2 r => by
    cases b with
    | true => exact iteT (h1 H0 O H2 σ D (e.on r) s)
    | false => exact iteF (h2 H0 O H2 σ D (e.on r) s)
/-- if, then the rest -/
theorem q_if (h : EvT c tt Γ a) (h1 : a = true → Sd c (tSeq t w) Γ P) (h2 : a = false → Sd c (tSeq u w) Γ P) : Sd c (tSeq (tIfS tt t u) w) Γ P := fun H0 O H σ D e s =>
  h H0 O H σ e _ fun H2 r => by
    cases a with
    | true => exact iteT (h1 rfl H0 O H2 σ D (e.on r) s)
    | false => exact iteF (h2 rfl H0 O H2 σ D (e.on r) s)
theorem q_next (h : Sd c u Γ P) : Sd c (tSeq tNext u) Γ P := fun H0 O H σ D e s => h H0 O H σ D e s
theorem q_ret (h : Ev c te Γ k d) (hk : k = .o ∨ (k = .v ∧ flatD d = true)) (p : P (.rt k d)) : Sd c (tSeq (tRet te) u) Γ P := fun H0 O H σ D e s =>
  h H0 O H σ e _ fun v H2 r q => s _ p v H2 (e.rH.tr r) (Rt.of e r q hk)
/-- if that surely is not so (or is) -/
theorem q_no (h : EvT c tt Γ false) (h2 : Sd c w Γ P) : Sd c (tSeq (tIfS tt t tNext) w) Γ P := q_if h (fun e => nomatch e) (fun _ => q_next h2)
theorem s_no (h : EvT c tt Γ false) (h2 : Sd c u Γ P) : Sd c (tIfS tt t u) Γ P := s_if h (fun e => nomatch e) (fun _ => h2)
theorem s_yes (h : EvT c tt Γ true) (h2 : Sd c t Γ P) : Sd c (tIfS tt t u) Γ P := s_if h (fun _ => h2) (fun e => nomatch e)
/-- x += e -/
theorem s_aug {f : Int → Int → Int} (hx : Γ[n]? = some (some (.v (.int i)))) (h : Ev c te Γ k (.int j)) (p : P (.nx (Γ.set n (some (.v (.int (f i j))))))) : Sd c (tAug n te (ipI f)) Γ P := fun H0 O H σ D e s => by
  obtain ⟨v, hv, b⟩ := e.slotV hx
  refine ⟨v, hv, h H0 O H σ e _ fun w H2 r q => ⟨i, j, b.int', (Res.bo e q).int', s _ p O H2 _ ((e.on r).setV (.int _))⟩⟩
theorem q_aug {f : Int → Int → Int} (hx : Γ[n]? = some (some (.v (.int i)))) (h : Ev c te Γ k (.int j)) (p : Sd c u (Γ.set n (some (.v (.int (f i j))))) P) : Sd c (tSeq (tAug n te (ipI f)) u) Γ P := s_seq1 (s_aug hx h rfl) p
/-- xs.append(e) -/
theorem s_app (hx : Γ[n]? = some (some (.o (.list ds)))) (h : Ev c te Γ k d) (hf : flatD d = true) (hl : ds.length < 1000000) (p : P (.nx (Γ.set n (some (.o (.list (ds ++ [d]))))))) : Sd c (tDrop (tBM c.K "list" rAppend (tVar n) (tCons te tNil))) Γ P := fun H0 O H σ D e s => by
  obtain ⟨q, xs, f, hq, hp, fa, qf, qO, _⟩ := e.write (es := ds ++ [d]) hx
  refine ⟨.ref q, hq, .inl ⟨rfl, xs, .inl (.inl hp)⟩, h H0 O H σ e _ fun v H2 r rs => ?_⟩
  have e2 := e.on r
  obtain ⟨q', xs', f', hq', hp', fa', qf', qO', wr⟩ := e2.write (es := ds ++ [d]) hx
  have : q' = q := by rw [hq] at hq'; cases hq'; rfl
  subst this
  have bo : Bo c H2 v d := Res.bo e rs
  have lx : xs'.length = ds.length := (fa'.bo fun a ha => e.okO a (qO' a ha)).len
  refine ⟨q', xs', v, rfl, rfl, hp', by rw [lx, sizeLine_eq]; omega, s _ p O _ σ (wr (xs' ++ [v]) ?_)⟩
  have := fa'.app (.cons (.leaf hf bo) .nil : FoAll c H2 [v] [d] ([] ++ []))
  rw [List.append_nil, List.append_nil] at this
  exact this.up (fun _ _ s => sqT_upd hp' s) fun a ha o z => by
    have : a ≠ q' := fun w => qf' (w ▸ ha)
    rw [upd_ne this]; exact z
theorem q_app (hx : Γ[n]? = some (some (.o (.list ds)))) (h : Ev c te Γ k d) (hf : flatD d = true) (hl : ds.length < 1000000) (p : Sd c u (Γ.set n (some (.o (.list (ds ++ [d]))))) P) : Sd c (tSeq (tDrop (tBM c.K "list" rAppend (tVar n) (tCons te tNil))) u) Γ P :=
  s_seq1 (s_app hx h hf hl rfl) p
/-! ### for -/
theorem s_for {wi : TI} {g : TG} {tb : TS} {items : List Im} (hi : EvI c wi Γ true items) (I : Nat → List (Option Rs) → Prop) (h0 : I 0 Γ)
    (hs : ∀ n a Γ1, items[n]? = some a → I n Γ1 → ∃ Γ2 js, EvG c g a Γ1 Γ2 js ∧
      Sd c tb Γ2 (fun o => (∃ Γ3, (o = .nx Γ3 ∨ o = .ct Γ3) ∧ I (n + 1) Γ3) ∨ (∃ Γ3, o = .bk Γ3 ∧ P (.nx Γ3)) ∨ ∃ k d, o = .rt k d ∧ P o))
    (hd : ∀ Γ1, I items.length Γ1 → P (.nx Γ1)) : Sd c (tFor wi g tb) Γ P := fun H0 O H σ D e s =>
  hi H0 O H σ e _ fun J H1 r1 w => by
    obtain ⟨jF, w⟩ := w
    have e1 := e.on r1
    refine for_it w (fun n σ' H' => ∃ O' Γ', I n Γ' ∧ Env c (mns H1 O) O' H' σ' Γ') ⟨O, Γ, h0, e1.base⟩ ?_ ?_ ?_
    · rintro n σ' H' _ ⟨O', Γ', _, e'⟩
      exact e'.rH
    · rintro n x σ' H' H'' hn ⟨O', Γ', hI, e'⟩ ⟨sm, im, him, lo⟩
      have e2 := e'.on (Rr.same sm)
      obtain ⟨Γ2, js, hg, hb⟩ := hs n im Γ' him hI
      refine hg _ _ _ _ _ true x e2 jF e2.rH (fun _ => e2.r0) lo _ fun σ2 e3 _ => hb _ _ _ _ _ e3 fun o po => ?_
      rcases po with ⟨Γ3, ho, h3⟩ | ⟨Γ3, ho, h3⟩ | ⟨k, d, ho, h3⟩
      · rcases ho with rfl | rfl
        · exact fun O4 H4 σ4 e4 => ⟨O4, Γ3, h3, e4⟩
        · exact fun O4 H4 σ4 e4 => ⟨O4, Γ3, h3, e4⟩
      · subst ho
        exact fun O4 H4 σ4 e4 => s _ h3 O4 H4 σ4 (e1.fromB e4)
      · subst ho
        intro v H4 r4 rt
        refine s _ h3 v H4 ((e.r0.tr (r1.mns e.j e.okO)).tr r4) ?_
        cases k with
        | v => exact rt
        | o =>
          obtain ⟨fp, q, nd, new⟩ := rt
          exact ⟨fp, q, nd, fun a ha => e1.back0 (new a ha)⟩
        | b => exact rt
    · rintro σ' H' ⟨O', Γ', hI, e'⟩
      exact s _ (hd Γ' hI) O' H' σ' (e1.fromB e')
theorem q_for {wi : TI} {g : TG} {tb : TS} {items : List Im} (hi : EvI c wi Γ true items) (I : Nat → List (Option Rs) → Prop) (h0 : I 0 Γ)
    (hs : ∀ n a Γ1, items[n]? = some a → I n Γ1 → ∃ Γ2 js, EvG c g a Γ1 Γ2 js ∧
      Sd c tb Γ2 (fun o => (∃ Γ3, (o = .nx Γ3 ∨ o = .ct Γ3) ∧ I (n + 1) Γ3) ∨ (∃ Γ3, o = .bk Γ3 ∧ Sd c u Γ3 P) ∨ ∃ k d, o = .rt k d ∧ P o))
    (hd : ∀ Γ1, I items.length Γ1 → Sd c u Γ1 P) : Sd c (tSeq (tFor wi g tb) u) Γ P :=
  s_seq (P1 := fun o => match o with | .nx Γ3 => Sd c u Γ3 P | .rt k d => P (.rt k d) | _ => False)
    (s_for hi I h0 (fun n a Γ1 h1 h2 => by
      obtain ⟨Γ2, js, hg, hb⟩ := hs n a Γ1 h1 h2
      refine ⟨Γ2, js, hg, hb.imp fun o po => ?_⟩
      rcases po with w | ⟨Γ3, ho, h3⟩ | ⟨k, d, ho, h3⟩
      · exact .inl w
      · exact .inr (.inl ⟨Γ3, ho, h3⟩)
      · subst ho; exact .inr (.inr ⟨k, d, rfl, h3⟩)) hd) (fun _ h => h) (fun _ _ h => h) (fun _ h => h.elim) (fun _ h => h.elim)
end

/-! ### new tuples and lists; built-ins -/
theorem newTk {xs : List V} {Q : VK} (h : ∀ p H2, H p = none → Same H H2 → TpN c.K H2 p xs → Q (.ref p) H2) : NewT H xs Q := fun p o ho hp =>
  h p _ hp (fun b u z => by rw [upd_ne (ne_of_none z hp)]; exact z) (.inl ⟨o, ho, upd_same⟩)
theorem BoAll.vm {O : List Addr} {vs : List V} (h : BoAll c (if true = true then mns H O else H) vs ds) : BoAll c (mns H O) vs ds := h
theorem new_notO (e : Env c H0 O H σ Γ) {p : Addr} (h : H p = none) : p ∉ O := fun z => by
  obtain ⟨xs, w, _⟩ := e.dm p z
  rw [h] at w; cases w
theorem tpN_mns (e : Env c H0 O H σ Γ) (r : Rr c H H2) {p : Addr} {xs : List V} (h : TpN c.K H2 p xs) : TpN c.K (mns H2 O) p xs := sqT_mns (fun b hb => (e.on r).dm b hb) h
theorem d_tup (h : EvA c tr Γ true ds) (hl : ds.length ≤ 1000000) : Ev c (tTupN tr) Γ .v (.tuple ds) := fun H0 O H σ e Q q =>
  h H0 O H σ e _ fun vs H1 r s => by
    have s' := BoAll.vm s
    refine ⟨by rw [s'.len]; exact sizeOk hl, newTk (c := c) fun p H2 hp sm tp => q _ H2 (r.tr (Rr.same sm)) ?_⟩
    have r2 : Rr c H H2 := r.tr (Rr.same sm)
    exact .tup (tpN_mns e r2 tp) (s'.mono (e.on r).j ((Rr.same sm : Rr c H1 H2).mns (e.on r).j e.okO))
theorem d_lst (h : EvA c tr Γ kv ds) (hf : flatAll ds = true) (hl : ds.length ≤ 1000000) : Ev c (tLst tr) Γ .o (.list ds) := fun H0 O H σ e Q q =>
  h H0 O H σ e _ fun vs H1 r s => by
    have s' : BoAll c H1 vs ds := by
      cases kv with
      | true => exact BoAll.same mns_same (BoAll.vm s)
      | false => exact s
    refine ⟨by rw [s'.len]; exact sizeOk hl, fun p hp => q _ _ (r.tr (Rr.same fun b u z => by rw [upd_ne (ne_of_none z hp)]; exact z)) ?_⟩
    have sm : Same H1 (upd H1 p (.lst vs)) := fun b u z => by rw [upd_ne (ne_of_none z hp)]; exact z
    exact ⟨[p], .lst upd_same (FoAll.leaves hf (s'.same sm)), by simp, fun a ha => by
      have : a = p := by simpa using ha
      rw [this]; exact r.back e.jH hp⟩
/-- a call by values -/
theorem d_cb {r : List V → Hp → VK → Prop} (h : EvA c tr Γ false ds) (hr : ∀ H O vs (Q : VK), BoAll c H vs ds → (∀ v H2, Rr c H H2 → Bo c (mns H2 O) v z → Q v H2) → r vs H Q) : Ev c (tCB r tr) Γ .v z := fun H0 O H σ e Q q =>
  h H0 O H σ e _ fun vs H1 r1 s => hr H1 O vs Q s fun v H2 r2 b => q v H2 (r1.tr r2) b
theorem BoAll.one {v : List V} (h : BoAll c H v [d]) : ∃ x, v = [x] ∧ Bo c H x d := by
  cases h with
  | cons a b => cases b; exact ⟨_, rfl, a⟩
theorem BoAll.two {v : List V} (h : BoAll c H v [d, x]) : ∃ y z, v = [y, z] ∧ Bo c H y d ∧ Bo c H z x := by
  cases h with
  | cons a b =>
    cases b with
    | cons a' b => cases b; exact ⟨_, _, rfl, a, a'⟩
def rLen (K : PySem.W.Frag) : List V → Hp → VK → Prop := fun xs H Q => ∃ p ys, xs = [.ref p] ∧ (SqL K H p ys ∨ SqT K H p ys) ∧ Q (.int ys.length) H
theorem d_lenT (h : Ev c te Γ k (.tuple ds)) : Ev c (tCB (rLen c.K) (tCons te tNil)) Γ .v (.int ds.length) :=
  d_cb (a_cons h a_nil) fun H O vs Q s q => by
    obtain ⟨x, rfl, b⟩ := s.one
    obtain ⟨p, xs, rfl, s, al⟩ := b.tup'
    exact ⟨p, xs, rfl, .inr s.sq, by rw [al.len]; exact q _ H Rr.rf (.int _)⟩
theorem d_lenL (h : Ev c te Γ k (.list ds)) : Ev c (tCB (rLen c.K) (tCons te tNil)) Γ .v (.int ds.length) :=
  d_cb (a_cons h a_nil) fun H O vs Q s q => by
    obtain ⟨x, rfl, b⟩ := s.one
    obtain ⟨p, xs, rfl, _, s, al⟩ := b.lst'
    exact ⟨p, xs, rfl, .inl s, by rw [al.len]; exact q _ H Rr.rf (.int _)⟩
theorem d_all {bs : List Bool} (h : Ev c te Γ k (.list (bs.map .bool))) : Ev c (tCB (rAll c.K) (tCons te tNil)) Γ .v (.bool (bs.all id)) :=
  d_cb (a_cons h a_nil) fun H O vs Q s q => by
    obtain ⟨x, rfl, b⟩ := s.one
    obtain ⟨p, xs, rfl, _, s, al⟩ := b.lst'
    have := al.bools
    subst this
    exact ⟨p, bs, rfl, s, q _ H Rr.rf (.bl _)⟩
theorem d_any {bs : List Bool} (h : Ev c te Γ k (.list (bs.map .bool))) : Ev c (tCB (rAny c.K) (tCons te tNil)) Γ .v (.bool (bs.any id)) :=
  d_cb (a_cons h a_nil) fun H O vs Q s q => by
    obtain ⟨x, rfl, b⟩ := s.one
    obtain ⟨p, xs, rfl, _, s, al⟩ := b.lst'
    have := al.bools
    subst this
    exact ⟨p, bs, rfl, s, q _ H Rr.rf (.bl _)⟩
theorem n_tuple {P : List PyData → Prop} (h : EvN c te Γ k (fun d => ∃ ds, d = .list ds ∧ P ds)) (hf : ∀ ds, P ds → flatAll ds = true) : EvN c (tCB (rTuple c.K) (tCons te tNil)) Γ .v (fun d => ∃ ds, d = .tuple ds ∧ P ds) := fun H0 O H σ e Q q =>
  h H0 O H σ e _ fun v d H1 ⟨ds, hd, pd⟩ r s => by
    subst hd
    obtain ⟨p, xs, rfl, _, sl, al⟩ := (Res.bo e s).lst'
    refine ⟨p, xs, rfl, .inl ⟨sl, newTk (c := c) fun p' H2 hp sm tp => q _ (.tuple ds) H2 ⟨ds, rfl, pd⟩ (r.tr (Rr.same sm)) ?_⟩⟩
    have r2 : Rr c H H2 := r.tr (Rr.same sm)
    exact .tup (tpN_mns e r2 tp) ((al.same sm).flatTo (fun a xs s => sqT_mns (fun b hb => (e.on r2).dm b hb) s) (hf ds pd))
theorem d_tuple (h : Ev c te Γ k (.list ds)) (hf : flatAll ds = true) : Ev c (tCB (rTuple c.K) (tCons te tNil)) Γ .v (.tuple ds) :=
  ((n_tuple (P := fun es => es = ds) (h.n.imp fun d hd => ⟨ds, hd, rfl⟩) fun es he => he ▸ hf).imp fun d ⟨es, h1, h2⟩ => by rw [h1, h2]).det
end Lm


namespace Lm
open PySem PySem.Spec PyProof.Rows L2
variable {c : Ct} {H H' H0 H1 H2 H3 : Hp} {O : List Addr} {σ : L2.St} {Γ Γ' Γ1 : List (Option Rs)}
variable {te ta tb tx tl : TE} {tt tu : TT} {tr : TA} {k ka kb : Kd} {d x y z : PyData} {i j : Int} {a b : Bool} {kv fz : Bool} {ds es : List PyData}

/-! ### promises of defs over data -/
abbrev pc (K : PySem.W.Frag) : Ct := ⟨K, none⟩
/-- args, how the answer is held, the answer -/
abbrev Pre := List PyData → Kd → PyData → Prop
def spD (K : PySem.W.Frag) (pre : Pre) : Sp := fun vs H Q _ => ∃ ds k d, BoAll (pc K) H vs ds ∧ pre ds k d ∧ ∀ v H', Same H H' → Rt (pc K) H H' v d k → Q v H'
/-- with the stream first: one of several answers -/
abbrev PreS := List PyData → Kd → (PyData → Prop) → Prop
abbrev sc (K : PySem.W.Frag) (st l : Addr) : Ct := ⟨K, some (st, l)⟩
def spS (K : PySem.W.Frag) (pre : PreS) : Sp := fun vs H Q _ => ∃ st l vs' ds k P, vs = .ref st :: vs' ∧ Str1 K st l H ∧ BoAll (sc K st l) H vs' ds ∧ pre ds k P ∧ ∀ v d H', P d → Rr (sc K st l) H H' → Rt (sc K st l) H H' v d k → Q v H'
mutual
theorem Fo.ct {c' : Ct} (hk : c'.K = c.K) : ∀ {v : V} {d : PyData} {fp : List Addr}, Fo c H v d fp → Fo c' H v d fp
  | _, _, _, .leaf q b => .leaf q (b.flat hk q)
  | _, _, _, .lst e a => .lst e (FoAll.ct hk a)
theorem FoAll.ct {c' : Ct} (hk : c'.K = c.K) : ∀ {v : List V} {d : List PyData} {fp : List Addr}, FoAll c H v d fp → FoAll c' H v d fp
  | _, _, _, .nil => .nil
  | _, _, _, .cons a b => .cons (Fo.ct hk a) (FoAll.ct hk b)
end
theorem Rt.res {v : V} (e : Env c H0 O H σ Γ) (r : Rr c H H2) (h : Rt c H H2 v d k) : Res c O H H2 v d k := by
  cases k with
  | v => exact Bo.flatM e r h.1 h.2
  | o => exact h
  | b => exact h.2
theorem d_call {pre : Pre} {E : XK} (h : EvA c tr Γ false ds) (hp : pre ds k d) : Ev c (tCall (spD c.K pre) [] E tr) Γ k d := fun H0 O H σ e Q q =>
  h H0 O H σ e _ fun vs H1 r s => by
    refine ⟨ds, k, d, by rw [List.append_nil]; exact s.pure, hp, fun v H2 sm rt => q v H2 (r.tr (Rr.same sm)) ?_⟩
    have r2 : Rr c H H2 := r.tr (Rr.same sm)
    cases k with
    | v => exact (Bo.flat (c := pc c.K) (c' := c) rfl rt.1 rt.2).flatM e r2 rt.1
    | o =>
      obtain ⟨fp, f, nd, new⟩ := rt
      exact ⟨fp, Fo.ct (c := pc c.K) (c' := c) rfl f, nd, fun a ha => r.back e.jH (new a ha)⟩
    | b => obtain ⟨⟨_, e⟩, _⟩ := rt; exact nomatch e
theorem n_call {pre : PreS} {E : XK} {st l : Addr} {P : PyData → Prop} {n : Nat} (hc : c.so = some (st, l)) (hst : Γ[n]? = some (some (.r (.ref st)))) (h : EvA c tr Γ false ds) (hp : pre ds k P) :
    EvN c (tCall (spS c.K pre) [] E (tCons (tVar n) tr)) Γ k P := fun H0 O H σ e Q q => by
  have hcc : c = sc c.K st l := by cases c; cases hc; rfl
  refine ⟨_, e.slotR hst, h H0 O H σ e _ fun vs H1 r s => ?_⟩
  refine ⟨st, l, vs, ds, k, P, by simp, (e.on r).jH st l hc, by rw [← hcc]; exact s, hp, fun v d H2 pd r2 rt => ?_⟩
  rw [← hcc] at r2 rt
  refine q v d H2 pd (r.tr r2) ?_
  exact (Rt.res (e.on r) r2 rt).back e r
/-! ### a def's body -/
def argsG (ds : List PyData) (n : Nat) : List (Option Rs) := ds.map (fun d => some (.v d)) ++ List.replicate (n - ds.length) none
theorem reps_none {O : List Addr} : ∀ n : Nat, Reps c O H (List.replicate n none) (List.replicate n none) []
  | 0 => .nil
  | n + 1 => .cons (f := []) (fs := []) rfl (reps_none n)
theorem reps_args {O : List Addr} {rest : L2.St} {restG : List (Option Rs)} (hr : Reps c O H rest restG []) : ∀ {vs : List V} {ds : List PyData}, BoAll c (mns H O) vs ds → Reps c O H (vs.map some ++ rest) (ds.map (fun d => some (.v d)) ++ restG) []
  | _, _, .nil => hr
  | _, _, .cons a b => .cons (f := []) (fs := []) ⟨rfl, _, rfl, a⟩ (reps_args hr b)
theorem env_args {N : List Str} {vs : List V} (j : Ji c H) (h : BoAll c H vs ds) : Env c H [] H (start N vs) (argsG ds N.length) := by
  refine ⟨Rr.same (by rw [mns_nil]; exact Same.refl _), by rw [mns_nil]; exact j, (fun _ h => nomatch h), (fun _ h => nomatch h), [], ?_, List.nodup_nil, (fun _ h => nomatch h)⟩
  unfold L2.start argsG
  rw [h.len]
  exact reps_args (reps_none _) (by rw [mns_nil]; exact h)
theorem Ji.pc {K : PySem.W.Frag} {H : Hp} : Ji (pc K) H := fun _ _ e => nomatch e
/-- the body of a def without the stream -/
theorem run_pure {K : PySem.W.Frag} {N : List Str} {t : TS} {pre : Pre} {vs : List V} {Q : VK} {E : XK} (hs : ∀ ds k d, pre ds k d → Sd (pc K) t (argsG ds N.length) (fun o => o = .rt k d ∨ (k = .v ∧ d = .none ∧ ∃ Γ, o = .nx Γ)))
    (h : spD K pre vs H Q E) : t { nx := fun _ H' => Q .non H', rt := Q } (start N vs) H := by
  obtain ⟨ds, k, d, hb, hp, hq⟩ := h
  have sm : ∀ H', Rr (Lm.pc K) H H' → Same H H' := fun H' r a o z => r.1 a o (fun _ _ e => nomatch e) z
  refine hs ds k d hp H [] H (start N vs) _ (env_args Ji.pc hb) fun o po => ?_
  rcases po with rfl | ⟨rfl, rfl, Γ, rfl⟩
  · exact fun v H' r rt => hq v H' (sm H' r) rt
  · intro O H' σ e
    exact hq .non H' (sm H' (e.r0.tr (Rr.same mns_same))) ⟨rfl, .non⟩
theorem spD_len {K : PySem.W.Frag} {pre : Pre} {vs : List V} {Q : VK} {E : XK} {n : Nat} (h : spD K pre vs H Q E) (hl : ∀ ds k d, pre ds k d → ds.length = n) : vs.length = n := by
  obtain ⟨ds, k, d, hb, hp, _⟩ := h
  rw [hb.len, hl ds k d hp]
/-- the body of a def with the stream first -/
theorem run_str {K : PySem.W.Frag} {N : List Str} {t : TS} {pre : PreS} {vs : List V} {Q : VK} {E : XK}
    (hs : ∀ st l ds k P, pre ds k P → Sd (sc K st l) t (some (.r (.ref st)) :: (ds.map (fun d => some (.v d)) ++ List.replicate (N.length - (ds.length + 1)) none)) (fun o => ∃ d, o = .rt k d ∧ P d))
    (h : spS K pre vs H Q E) : t { nx := fun _ H' => Q .non H', rt := Q } (start N vs) H := by
  obtain ⟨st, l, vs', ds, k, P, rfl, hst, hb, hp, hq⟩ := h
  have j : Ji (sc K st l) H := fun st' l' e => by cases e; exact hst
  refine hs st l ds k P hp H [] H (start N (.ref st :: vs')) _ ⟨Rr.same (by rw [mns_nil]; exact Same.refl _), by rw [mns_nil]; exact j, (fun _ h => nomatch h), (fun _ h => nomatch h), [], ?_, List.nodup_nil, (fun _ h => nomatch h)⟩ fun o po => ?_
  · unfold L2.start
    have : (V.ref st :: vs').length = ds.length + 1 := by simp [hb.len]
    rw [this]
    exact .cons (f := []) (fs := []) ⟨rfl, rfl⟩ (reps_args (reps_none _) (by rw [mns_nil]; exact hb))
  · obtain ⟨d, rfl, pd⟩ := po
    exact fun v H' r rt => hq v d H' pd r rt
theorem spS_len {K : PySem.W.Frag} {pre : PreS} {vs : List V} {Q : VK} {E : XK} {n : Nat} (h : spS K pre vs H Q E) (hl : ∀ ds k P, pre ds k P → ds.length + 1 = n) : vs.length = n := by
  obtain ⟨st, l, vs', ds, k, P, rfl, _, hb, hp, _⟩ := h
  simp [hb.len, hl ds k P hp]
/-- what a caller knows of a def: where it stands, what it promises -/
structure Cal (P : Program) (w : World) (K : PySem.W.Frag) (mg : Str → Option Value) (base : Heap) (CX : CXT) (k : Nat) (x : Str) (ps : List Str) (sp : Sp) : Prop where
  ok : ∃ f fd, FnOk P w K mg base CX k f fd ps sp ∧ mg x = some (.ref f) ∧ PySem.W.keepIn K (.ref f) = true ∧ Binds K fd ps []
section
variable {X : Cx}
theorem pe_cal {CX : CXT} {E : XK} {k : Nat} {x : Str} {ps : List Str} {sp : Sp} {p pos : Pos} {e : Expr} {es : List Expr} {t : TA} (F : Cal X.prog X.w X.K X.mg X.base CX k x ps sp) (hr : Room k X.A) (hg : Gl X x) (hx : Passes CX X E) (ha : PA X (e :: es) t)
    (hdb : (x == ("__debug__" : Str)) = false := by decide) (he : starEach (e :: es) X.env = (false, eval e X.env) :: starEach es X.env := by rfl) (hpl : (backTo pos (starEach es X.env)).any (·.1) = false := by rfl) :
    PE X (.Call (.Name x p) (e :: es) [] pos) (tCall sp [] E t) := by
  obtain ⟨f, fd, F1, F2, F3, F4⟩ := F.ok
  exact pe_call F1 hr hg F2 F3 F4 .nil hx ha hdb he hpl
end
/-! ### methods of tuples -/
end Lm


namespace Lm
open PySem PySem.Spec PyProof.Rows L2
/-! ### enumerate(tuple) -/
/-- the turns of enumerate over the tuple at a: its items as they stand, each in a pair -/
def IteT (K : PySem.W.Frag) (a : Addr) : It where
  go := fun i H => ∃ (xs : List V) (x : V), SqT K H a xs ∧ xs[i]? = some x
  yld := fun i H v H' => ∃ T x, v = .ref T ∧ H T = none ∧ H' = upd H T (.tup [.int (i : Nat), x]) ∧ ∀ xs, SqT K H a xs → xs[i]? = some x
  stop := fun i H => ∃ xs : List V, SqT K H a xs ∧ xs.length = i
theorem turnEnumT {P : Program} {w : World} {K : PySem.W.Frag} {elts : List Expr} {kk : Nat} {tpos : Pos} (a e it : Addr) :
    Turn P w K (.Tuple elts kk tpos) (IteT K a) [e, it] e fun i h => (∃ old, IsEnum h e it ((i : Nat) : Int) old) ∧ h.IsTupleIter it a i ∧ e ≠ it ∧ a ≠ it where
  mem := List.mem_cons_self
  obj := by
    rintro i h ⟨⟨old, he⟩, ⟨o, ho, hc, hd⟩, _⟩ b hb
    rcases List.mem_cons.mp hb with rfl | hb
    · exact ⟨_, he, fun v q => nomatch q⟩
    · cases List.mem_singleton.mp hb
      exact ⟨o, ho, fun v q => by rw [hd] at q; cases q⟩
  keep := by
    rintro i h h' ⟨⟨old, he⟩, hi, hne⟩ k
    exact ⟨⟨old, k e List.mem_cons_self _ he⟩, hi.at fun o q => k it (List.mem_cons_of_mem _ List.mem_cons_self) o q, hne⟩
  item := by
    intro X hP hw hK hc i pins s σ H E I hf ⟨⟨old, he⟩, hit, hne, hai⟩ ⟨xs, x, hq, hx⟩
    subst hP hw hK
    obtain ⟨its, rv, p, hz⟩ := I.tuple hq
    obtain ⟨u, hu, ru⟩ := rv.get hx
    have hlt : i < its.toArray.size := by rw [List.size_toArray]; exact (List.getElem?_eq_some_iff.mp hu).1
    have hel := Heap.lt_size he
    have hil : it < s.heap.objs.size := let ⟨_, q, _⟩ := hit; Heap.lt_size q
    have hea : e ≠ a := fun z => by
      have h0 := (hf e List.mem_cons_self).1
      obtain ⟨ob, g, gc, n, gd⟩ := p
      rw [← z, he] at g
      cases g
      exact absurd gc (by simp)
    have DT := Draws.tuple (prog := X.prog) (w := X.w) (A := X.A.in1) (show X.A.in1.handled = none from I.ok.hd hc) it a hai its.toArray
    refine PySem.wpAny_pyNext_enum_itemD DT he ⟨hit, p⟩ hlt hne (by simpa [hne] using hea) fun x' h' tk hx' ho hs' hT hsz hk => ?_
    have ex : x' = u := by
      have : its[i]? = some x' := by simpa using hx'
      rw [hu] at this
      exact (Option.some.inj this).symm
    subst ex
    refine ⟨_, rfl, wpAny_letOwnedTupleGo_enum (s := { s with heap := h', toks := tk + 1 }) ho fun h'' he' sb => ?_⟩
    have hT2 := (sb.2 _ (Nat.ne_of_gt hel)).trans hT
    have new : ObjOk X.prog X.w (upd H s.heap.objs.size (.tup [.int (i : Nat), x])) h'' s.heap.objs.size (.tup [.int (i : Nat), x]) :=
      ⟨(by decide : 2 ≤ sizeLine), [.int i tk, x'], .cons ⟨_, rfl⟩ (.cons ru .nil), _, hT2, rfl, _, rfl⟩
    have I1 := I.turnedNew (t' := tk + 1) (ch := [e, it]) (fun b ob hb q => (sb.2 b fun z => hb (z ▸ List.mem_cons_self)).trans (hk b ob (fun z => hb (z ▸ List.mem_cons_self)) (fun z => hb (z ▸ List.mem_cons_of_mem _ List.mem_cons_self)) q)) hf (Nat.le_refl _) new
    refine ⟨.ref s.heap.objs.size, _, I1, rfl, ⟨_, x, rfl, I.hok.fresh (Nat.le_refl _), rfl, fun ys hy => by rw [I.tuple_inj hy hq]; exact hx⟩, ⟨⟨x', ?_⟩, hs'.1.at fun o q => (sb.2 it hne.symm).trans q, hne, hai⟩, fun b hb => ?_⟩
    · have e1 : ((i + 1 : Nat) : Int) = (i : Int) + 1 := by omega
      rw [e1]; exact he'
    · have hb' : b < s.heap.objs.size := by
        rcases List.mem_cons.mp hb with rfl | hb
        · exact hel
        · cases List.mem_singleton.mp hb; exact hil
      rw [upd_ne (Nat.ne_of_lt hb')]
      exact (hf b hb).1
  done := by
    intro X hP hw hK hc i pins s σ H E I hf ⟨⟨old, he⟩, hit, hne, hai⟩ ⟨xs, hq, hx⟩
    subst hP hw hK
    obtain ⟨its, rv, p, hz⟩ := I.tuple hq
    obtain ⟨f0, f1, f2, f3, f4, f5⟩ := hf it (List.mem_cons_of_mem _ List.mem_cons_self)
    have hl : its.toArray.size = i := by rw [List.size_toArray, ← rv.length]; exact hx
    have DT := Draws.tuple (prog := X.prog) (w := X.w) (A := X.A.in1) (show X.A.in1.handled = none from I.ok.hd hc) it a hai its.toArray
    rw [hl] at DT
    exact PySem.wpAny_pyNext_enum_endD DT he ⟨hit, p⟩
      fun h' eb => ⟨rfl, I.turned (t' := s.toks) (fun b o hb q => eb b o hb q) f0 f1 f3 f4 f5⟩
  self := fun A i s Q E ⟨⟨_, he⟩, _⟩ h => wpAny_pyIter_enum he h
theorem meetsEnumT {l : Addr} {items : Array Value} :
    Meets (Builtin.«enumerate.__new__» ⟨[.type "enumerate", .ref l], []⟩) fun _ R s => s.heap.IsTuple l items ∧
      R (.ok (.ret (.ref (s.heap.push { cls := .type "tuple_iterator", data := .fields #[.ref l, .int 0 0] }).objs.size)))
        { s with heap := (s.heap.push { cls := .type "tuple_iterator", data := .fields #[.ref l, .int 0 0] }).push { cls := .type "enumerate", data := .fields #[.none, .bool false, .ref s.heap.objs.size, rawInt 0, .none, .none] } } :=
  .of_wp fun prog w A R s h => by
    obtain ⟨hp, g, d, tk, os⟩ := s
    obtain ⟨hl, h⟩ := h
    have q1 : ∀ {A' : Around} {E Q : Value → Shared → Prop}, Q (.ref hp.objs.size) ⟨hp.push { cls := .type "tuple_iterator", data := .fields #[.ref l, .int 0 0] }, g, d, tk, os⟩ → wpAny (model prog w) A' (pyIter (.ref l)) Q E ⟨hp, g, d, tk, os⟩ := fun q => wpAny_pyIter_tuple hl q
    have hsub := sub_enumerate
    wp_walk using q1
    refine wpAny_stack_any fun st => wpAny_pure ?_
    split
    · rename_i c _ _ _ _ _
      cases (c == Value.type "enumerate") <;> (wp_walk using q1; exact ⟨_, rfl, h⟩)
    · wp_walk using q1
      exact ⟨_, rfl, h⟩
theorem callEnumT {prog : Program} {w : World} {A : Around} {E : Value → Shared → Prop} {s : Shared} {l : Addr} {items : Array Value} {Q : Value → Shared → Prop} (hL : s.heap.IsTuple l items)
    (h : ∀ h', IsEnum h' (s.heap.objs.size + 1) s.heap.objs.size 0 .none → h'.IsTupleIter s.heap.objs.size l 0 → (∀ b o, s.heap.get? b = some o → h'.get? b = some o) → Q (.ref (s.heap.objs.size + 1)) { s with heap := h' }) :
    wpAny (model prog w) A (call (.type "enumerate") [.ref l]) Q E s := by
  refine callType_new F.called_enumerate (by decide) (F.typeCall_enumerate_1 _) (F.newCall_enumerate_1 _) (fun obj => F.args_object_init_2 obj _) F.entry_enumerate_new meetsEnumT ⟨hL, ?_⟩
  generalize hto : ({ cls := .type "tuple_iterator", data := .fields #[.ref l, .int 0 0] } : Obj) = to
  have hz : (s.heap.push to).objs.size = s.heap.objs.size + 1 := Heap.size_push ..
  show _ ∧ _
  rw [hz]
  have he : IsEnum ((s.heap.push to).push { cls := .type "enumerate", data := .fields #[.none, .bool false, .ref s.heap.objs.size, rawInt 0, .none, .none] }) (s.heap.objs.size + 1) s.heap.objs.size 0 .none := by
    have := Heap.get?_push_size (s.heap.push to) (o := { cls := .type "enumerate", data := .fields #[.none, .bool false, .ref s.heap.objs.size, rawInt 0, .none, .none] }) rfl
    rw [hz] at this
    exact this
  have hfree : to.isFreed = false := by rw [← hto]; rfl
  refine ⟨⟨_, he, rfl⟩, h _ he ?_ fun b o x => Heap.get?_push_of_some _ (Heap.get?_push_of_some _ x)⟩
  exact ⟨to, Heap.get?_push_of_some _ (Heap.get?_push_size _ hfree), by rw [← hto], by rw [← hto]; rfl⟩
def iEnumA (K : PySem.W.Frag) (ta : TA) : TI := fun σ H R => ta σ H fun vs H1 => ∃ a xs, vs = [.ref a] ∧ ((SqL K H1 a xs ∧ R (Ite K a) H1) ∨ (SqT K H1 a xs ∧ R (IteT K a) H1))
theorem pi_enumA {X : Cx} {e : Expr} {ta : TA} {p pos tpos : Pos} {elts : List Expr} {kk : Nat} (hg : Gl X "enumerate") (hm : X.mg "enumerate" = none) (ha : PA X [e] ta) (hs : starEach [e] X.env = [(false, eval e X.env)] := by rfl) :
    PI X (.Tuple elts kk tpos) (.Call (.Name "enumerate" p) [e] [] pos) (iEnumA X.K ta) := by
  refine ⟨fun pins s σ H R I h => Call_ (ld_blt I hg hm boot_enumerate (PyProof.Rows.callWith_type1 (thn (ha.run pos pins s σ H _ I h) fun us s1 ⟨vs, H1, I1, r1, q1⟩ => ?_) hs rfl))⟩
  obtain ⟨a, xs, rfl, q⟩ := q1
  obtain ⟨u, rfl, ru⟩ := vals1 r1
  cases ru
  have fresh2 : ∀ b ∈ [s1.heap.objs.size + 1, s1.heap.objs.size], FpOk X pins H1 b := fun b hb => by
    have hle : s1.heap.objs.size ≤ b := by
      rcases List.mem_cons.mp hb with rfl | hb
      · exact Nat.le_succ _
      · cases List.mem_singleton.mp hb; exact Nat.le_refl _
    exact I1.fpOk hle (I1.hok.fresh hle)
  rcases q with ⟨hq, q⟩ | ⟨hq, q⟩
  · obtain ⟨its, rv, p', hz⟩ := I1.list hq
    refine call_enumerate_list p'.isList fun h' he hit hsz hk => wpAny_pyIter_enum he ?_
    exact ⟨_, _, _, _, H1, rfl, I1.kept (t' := s1.toks) hk, turn_enum a (s1.heap.objs.size + 1) s1.heap.objs.size, ⟨⟨.none, he⟩, hit, Nat.succ_ne_self _⟩, fresh2, q⟩
  · obtain ⟨its, rv, p', hz⟩ := I1.tuple hq
    have ha : a < s1.heap.objs.size := let ⟨_, g, _⟩ := p'; Heap.lt_size g
    refine callEnumT p' fun h' he hit hk => wpAny_pyIter_enum he ?_
    exact ⟨_, _, _, _, H1, rfl, I1.kept (t' := s1.toks) hk, turnEnumT a (s1.heap.objs.size + 1) s1.heap.objs.size, ⟨⟨.none, he⟩, hit, Nat.succ_ne_self _, Nat.ne_of_lt ha⟩, fresh2, q⟩
theorem walk_enumT {K : PySem.W.Frag} {a : Addr} {xs : List V} : Walk (IteT K a) xs.length (fun H => SqT K H a xs) (YPair (fun i => some (.int (i : Nat))) fun i => xs[i]?) where
  goes := fun i _ hi q => ⟨xs, xs[i], q, List.getElem?_eq_getElem hi⟩
  stops := fun _ q => ⟨xs, q, rfl⟩
  yields := fun i H v H' _ q ⟨T, x, h1, h2, h3, h4⟩ => ⟨T, _, x, h1, h2, h3, rfl, h4 xs q⟩
end Lm


namespace Lm
open PySem PySem.Spec PyProof.Rows L2
/-- the greatest one of these and m -/
def mxOf (m : Int) (ns : List Int) : Int := ns.foldl (fun m n => if n > m then n else m) m
section
variable {prog : Program} {w : World} {A : Around} {E : Value → Shared → Prop} {s : Shared}
/-- a call of a built-in function with keywords, by its tree -/
theorem callFnKw {id : String} {b : Builtin} {args : List Value} {kw : List (Str × Value)} {Q : Value → Shared → Prop} (hk : builtinKind id = none) (hp : plainId id = true) (hb : entryFor table id = some b) (ha : argsOk id ⟨args, kw⟩)
    (hc : wpAny (model prog w) A.in1 (b ⟨args, kw⟩) (fun fin s' => match fin with
      | .done f => (match (Except.ok f : Result) with | .ok (.ret v) => Q v s' | .ok _ => False | .error e => E e s')
      | .again c' => c'.quiet = true ∧ codeAny (model prog w) A c' (fun r s' => match r with | .ok (.ret v) => Q v s' | .ok _ => False | .error e => E e s') s') E s) :
    wpAny (model prog w) A (call (.builtin id) args kw) Q E s := by
  refine wpAny_call (codeAny_call_builtin hp hb ?_)
  simp only [checkBuiltinCall, hk]
  cases hsig : Manifest.signature? id with
  | none => exact wpAny_pure hc
  | some sig =>
    have h2 : Bind.checkArgs id sig ⟨args, kw⟩ = pure () := by simpa only [argsOk, hsig] using ha
    show wpAny _ A.in1 (Bind.checkArgs id sig ⟨args, kw⟩) _ _ s
    exact h2 ▸ wpAny_pure hc
/-- max's loop with any keywords, from the j-th item on, the greatest so far being m -/
theorem maxLoopKw {R : Result → Shared → Prop} {I a S : Addr} {its : Array Value} {ns : List Int} {kw : List (Str × Value)} (hh : A.handled = none) (hi : IntsAre its.toList ns) (hSI : S ≠ I) (hSa : S ≠ a) (haI : a ≠ I) :
    ∀ (k j : Nat) (s : Shared) (m : Int) (t : Tok) (c : Nat), ns.length - j = k → j ≤ ns.length → s.heap.IsTupleIter I a j → s.heap.IsTuple a its → s.heap.get? S = some { cls := .type "list", data := .seq #[.int m t, .int m t] c } →
    (∀ h' tk t', (∀ b o, b ≠ I → b ≠ S → s.heap.get? b = some o → h'.get? b = some o) → R (.ok (.ret (.int (mxOf m (ns.drop j)) t'))) { s with heap := h', toks := tk }) →
    codeAny (model prog w) A (.builtin "max.loop" ⟨[.ref I, .none, .ref S], kw⟩) R s := by
  have hname : (toString "max" ++ toString ".loop" : String) = "max.loop" := by decide
  have hsz : its.size = ns.length := by rw [← Array.length_toList]; exact hi.length
  have W := Walks.tuple (prog := prog) (w := w) (A := A.in1) hh I a haI its
  intro k
  induction k with
  | zero =>
    intro j s m t c hk hj hit ht hS hR
    have e : j = ns.length := by omega
    subst e
    refine codeAny_builtin F.entry_max_loop ?_
    rw [Around.under_plainId F.plain_max_loop _]
    show wpAny _ A.in1 (seqItems? (.ref S) >>= _) _ _ s
    refine wpAny_bind (wpAny_seqItems hS rfl (wpAny_bind (wpAny_tryCatch (W.done s _ _ (hsz ▸ ⟨hit, ht⟩) fun h' tk hk' => ?_))))
    have hS' := hk' S _ (by simpa using hSI) hS
    show wpAny _ A.in1 (updateSeq S (fun _ => #[]) >>= _) _ _ _
    refine wpAny_bind (wpAny_updateSeq hS' rfl (wpAny_bind (wpAny_letGo (wpAny_pure ?_))))
    have := hR (h'.update S (Obj.mapSeq fun _ => #[])) tk t fun b o hb hb' q => (Heap.get?_update_other _ _ hb'.symm).trans (hk' b o (by simpa using hb) q)
    rw [List.drop_length] at this
    exact this
  | succ k ih =>
    intro j s m t c hk hj hit ht hS hR
    have hlt : j < ns.length := by omega
    obtain ⟨tj, hjt⟩ := hi.get j ns[j] (List.getElem?_eq_getElem hlt)
    refine codeAny_builtin F.entry_max_loop ?_
    rw [Around.under_plainId F.plain_max_loop _]
    show wpAny _ A.in1 (seqItems? (.ref S) >>= _) _ _ s
    refine wpAny_bind (wpAny_seqItems hS rfl (wpAny_bind (wpAny_tryCatch (W.item j s _ _ (by omega) ⟨hit, ht⟩ fun v h' tk hP hst' hk' => ?_))))
    have ev : v = .int ns[j] tj := by
      have h1 : its.toList[j]? = some v := by simpa using hP
      rw [hjt] at h1
      exact (Option.some.inj h1).symm
    subst ev
    have hS' := hk' S _ (by simpa using hSI) hS
    have hdrop : ns.drop j = ns[j] :: ns.drop (j + 1) := List.drop_eq_getElem_cons hlt
    have gt : ∀ (s0 : Shared) (Q0 E0 : Value → Shared → Prop), Q0 (.bool (decide (ns[j] > m))) s0 → wpAny (model prog w) A.in1 (richCompare .Gt (.int ns[j] tj) (.int m t)) Q0 E0 s0 := fun s0 Q0 E0 q =>
      CmpOf.ints_gt (A := A.in1) (P := fun i v => (i = 0 ∧ v = .int ns[j] tj) ∨ (i = 1 ∧ v = .int m t)) (fun i => if i = 0 then ns[j] else m) (by rintro i v (⟨rfl, rfl⟩ | ⟨rfl, rfl⟩) <;> exact ⟨_, rfl⟩) 0 1 _ _ s0 Q0 E0 (.inl ⟨rfl, rfl⟩) (.inr ⟨rfl, rfl⟩) (by simpa using q)
    refine wpAny_bind (wpAny_pure ?_)
    refine wpAny_bind (wpAny_tryCatch (wpAny_holding (wpAny_bind (gt _ _ _ (wpAny_bind (wpAny_holding (wpAny_truthy_bool (wpAny_bind (wpAny_letGo (wpAny_pure ?_))))))))))
    by_cases hb : ns[j] > m
    · simp only [hb, decide_true, if_true]
      have e2 : mxOf m (ns.drop j) = mxOf ns[j] (ns.drop (j + 1)) := by
        rw [hdrop]
        exact congrArg (fun z => mxOf z (ns.drop (j + 1))) (if_pos hb)
      refine wpAny_bind (wpAny_updateSeq hS' rfl (wpAny_bind (wpAny_letGo ?_)))
      rw [hname]
      have oth : ∀ b o, b ≠ S → h'.get? b = some o → (h'.update S (Obj.mapSeq fun _ => #[.int ns[j] tj, .int ns[j] tj])).get? b = some o := fun b o q e => (Heap.get?_update_other _ _ q.symm).trans e
      refine wpAny_pure ⟨plainId_quiet F.plain_max_loop _, ih (j + 1) _ ns[j] tj _ (by omega) hlt (hst'.1.at fun o q => oth _ _ hSI.symm q) (hst'.2.at fun o q => oth _ _ hSa.symm q) (Heap.get?_update_self _ hS' rfl) fun h'' tk'' t'' hk'' => ?_⟩
      exact e2 ▸ hR h'' tk'' t'' fun b o hbI hbS q => hk'' b o hbI hbS (oth b o hbS (hk' b o (by simpa using hbI) q))
    · simp only [hb, decide_false, Bool.false_eq_true, if_false]
      have e2 : mxOf m (ns.drop j) = mxOf m (ns.drop (j + 1)) := by
        rw [hdrop]
        exact congrArg (fun z => mxOf z (ns.drop (j + 1))) (if_neg hb)
      refine wpAny_bind (wpAny_letGo ?_)
      rw [hname]
      refine wpAny_pure ⟨plainId_quiet F.plain_max_loop _, ih (j + 1) _ m t c (by omega) hlt hst'.1 hst'.2 hS' fun h'' tk'' t'' hk'' => ?_⟩
      exact e2 ▸ hR h'' tk'' t'' fun b o hbI hbS q => hk'' b o hbI hbS (hk' b o (by simpa using hbI) q)
/-- max(t, default=d) of a tuple of ints -/
theorem callMaxD {a : Addr} {its : Array Value} {ns : List Int} {d : Value} {Q : Value → Shared → Prop} (hh : A.handled = none) (ht : s.heap.IsTuple a its) (hi : IntsAre its.toList ns)
    (h0 : ns = [] → ∀ h' tk, (∀ b o, s.heap.get? b = some o → h'.get? b = some o) → Q d { s with heap := h', toks := tk })
    (h1 : ∀ n ms, ns = n :: ms → ∀ h' tk t', (∀ b o, s.heap.get? b = some o → h'.get? b = some o) → Q (.int (mxOf n ms) t') { s with heap := h', toks := tk }) :
    wpAny (model prog w) A (call (.builtin "max") [.ref a] [("default", d)]) Q E s := by
  have hname : (toString "max" ++ toString ".loop" : String) = "max.loop" := by decide
  refine callFnKw F.kind_max F.plain_max F.entry_max (by unfold argsOk; kernel_rfl) ?_
  show wpAny _ A.in1 (Builtin.Builtins.bindParams "max" ["key", "default"] 0 ⟨[], [("default", d)]⟩ >>= _) _ _ s
  refine wpAny_bind (wpAny_of_eq (a := [none, some d]) rfl (wpAny_bind (wpAny_pure (wpAny_bind (wpAny_pyIter_tuple ht ?_)))))
  refine wpAny_bind (wpAny_newObj_type ?_)
  have haL : a < s.heap.objs.size := let ⟨_, g, _⟩ := ht; Heap.lt_size g
  generalize hhp : (s.heap.push { cls := .type "tuple_iterator", data := .fields #[.ref a, .int 0 0] }) = hp
  have hps : hp.objs.size = s.heap.objs.size + 1 := by rw [← hhp]; exact Heap.size_push ..
  have old : ∀ b o, s.heap.get? b = some o → hp.get? b = some o := fun b o q => by rw [← hhp]; exact Heap.get?_push_of_some _ q
  rw [hname]
  have W := Walks.tuple (prog := prog) (w := w) (A := A.in1) hh s.heap.objs.size a (Nat.ne_of_lt haL) its
  have sz : its.size = ns.length := by rw [← Array.length_toList]; exact hi.length
  have hS : (hp.push (seqObj "list" #[] 0)).get? hp.objs.size = some { cls := .type "list", data := .seq #[] 0 } := Heap.get?_push_size _ rfl
  have hitI : (hp.push (seqObj "list" #[] 0)).IsTupleIter s.heap.objs.size a 0 := ⟨_, Heap.get?_push_of_some _ (by rw [← hhp]; exact Heap.get?_push_size _ rfl), rfl, rfl⟩
  have htI : (hp.push (seqObj "list" #[] 0)).IsTuple a its := ht.at fun o q => Heap.get?_push_of_some _ (old _ _ q)
  have nIS : hp.objs.size ≠ s.heap.objs.size := by omega
  have nSa : hp.objs.size ≠ a := Nat.ne_of_gt (Nat.lt_of_lt_of_le haL (hps ▸ Nat.le_succ _))
  refine wpAny_pure ⟨plainId_quiet F.plain_max_loop _, codeAny_builtin F.entry_max_loop ?_⟩
  rw [Around.under_plainId F.plain_max_loop _]
  show wpAny _ A.in1 (seqItems? (.ref hp.objs.size) >>= _) _ _ _
  refine wpAny_bind (wpAny_seqItems hS rfl ?_)
  cases ns with
  | nil =>
    refine wpAny_bind (wpAny_tryCatch (W.done _ _ _ (sz ▸ ⟨hitI, htI⟩) fun h' tk hk => ?_))
    refine wpAny_bind (wpAny_rule (wpAny_pure ?_))
    exact h0 rfl h' tk fun b o q => hk b o (by simpa using Nat.ne_of_lt (Heap.lt_size q)) (Heap.get?_push_of_some _ (old b o q))
  | cons n ms =>
    obtain ⟨t0, ht0⟩ := hi.get 0 n rfl
    refine wpAny_bind (wpAny_tryCatch (W.item 0 _ _ _ (by rw [sz]; exact Nat.succ_pos _) ⟨hitI, htI⟩ fun v h' tk hP hst hk => ?_))
    have ev : v = .int n t0 := by
      have h1 : its.toList[0]? = some v := by simpa using hP
      rw [ht0] at h1
      exact (Option.some.inj h1).symm
    subst ev
    have hS' := hk _ _ (by simpa using nIS) hS
    refine wpAny_bind (wpAny_pure (wpAny_bind (wpAny_updateSeq hS' rfl ?_)))
    have oth : ∀ b o, b ≠ hp.objs.size → h'.get? b = some o → (h'.update hp.objs.size (Obj.mapSeq fun _ => #[.int n t0, .int n t0])).get? b = some o := fun b o q e => (Heap.get?_update_other _ _ q.symm).trans e
    rw [hname]
    refine wpAny_pure ⟨plainId_quiet F.plain_max_loop _, maxLoopKw hh hi nIS nSa (Nat.ne_of_lt haL) _ 1 _ n t0 _ rfl (Nat.succ_le_succ (Nat.zero_le _)) (hst.1.at fun o q => oth _ _ nIS.symm q) (hst.2.at fun o q => oth _ _ nSa.symm q) (Heap.get?_update_self _ hS' rfl) fun h'' tk'' t'' hk'' => ?_⟩
    refine h1 n ms rfl h'' tk'' t'' fun b o q => ?_
    have lb := Heap.lt_size q
    have b1 : b ≠ s.heap.objs.size := Nat.ne_of_lt lb
    have b2 : b ≠ hp.objs.size := Nat.ne_of_lt (Nat.lt_of_lt_of_le lb (hps ▸ Nat.le_succ _))
    exact hk'' b o b1 b2 (oth b o b2 (hk b o (by simpa using b1) (Heap.get?_push_of_some _ (old b o q))))
end
def rMaxDT (K : PySem.W.Frag) : List V → List V → Hp → VK → Prop := fun xs zs H Q => ∃ (a : Addr) (ns : List Int) (d : Int), xs = [.ref a] ∧ zs = [.int d] ∧ SqT K H a (ns.map V.int) ∧ Q (.int (match ns with | [] => d | n :: ms => mxOf n ms)) H
theorem cr_maxD {X : Cx} (hc : X.calm = true) : CallRK X (.builtin "max") [Str.ofString "default"] (rMaxDT X.K) := by
  intro pins s σ H vs zs us ws Q I r rz h
  obtain ⟨a, ns, d, rfl, rfl, hs, q⟩ := h
  obtain ⟨u, rfl, e⟩ := vals1 r
  cases e
  obtain ⟨w1, rfl, t, rfl⟩ := vals1 rz
  obtain ⟨its, rv, p, hz⟩ := I.tuple hs
  have hi := ints_of_vals rv
  refine callMaxD (ns := ns) (I.ok.hd hc) (show s.heap.IsTuple a its.toArray from p) hi (fun e h' tk hk => ?_) fun n ms e h' tk t' hk => ?_
  · subst e
    exact ⟨.int d, H, I.kept hk, ⟨_, rfl⟩, q⟩
  · subst e
    exact ⟨.int (mxOf n ms), H, I.kept hk, ⟨_, rfl⟩, q⟩
end Lm


namespace Lm
open PySem PySem.Spec PyProof.Rows L2
section
variable {X : Cx}
/-! ### rules that serve several kinds of values: the derivation need not know which -/
def rAddA (K : PySem.W.Frag) : R2 := fun x y H Q => rI0 (fun i j => .int (i + j)) x y H Q ∨ rCatN K x y H Q ∨ rCat x y H Q
theorem op_addA : OpR X (binaryOp .Add) (rAddA X.K) := op_add.or (op_catN.or op_cat)
def rMulA : R2 := fun x y H Q => rI CMul (fun i j => .int (i * j)) x y H Q ∨ rRep x y H Q
theorem op_mulA : OpR X (binaryOp .Mult) rMulA := op_mul.or op_rep
def rEqA (K : PySem.W.Frag) : R2 := fun x y H Q => rEq x y H Q ∨ rEqD K x y H Q
theorem op_eqA (hu : X.A.units + 64 < cLine) : OpR X (compareOp .Eq) (rEqA X.K) := op_eq.or (op_eqD hu)
def rNeA (K : PySem.W.Frag) : R2 := fun x y H Q => rNe x y H Q ∨ rNeD K x y H Q
theorem op_neA (hu : X.A.units + 64 < cLine) : OpR X (compareOp .NotEq) (rNeA X.K) := op_ne.or (op_neD hu)
def iSeq (K : PySem.W.Frag) (tl : TE) : TI := fun σ H R => iList K tl σ H R ∨ iTup K tl σ H R
theorem pi_seq {e tg : Expr} {tl : TE} (h : PE X e tl) : PI X tg e (iSeq X.K tl) := by
  refine ⟨fun pins s σ H R I q => ?_⟩
  rcases q with q | q
  · exact (pi_list h).run pins s σ H R I q
  · exact (pi_tup h).run pins s σ H R I q
def rUnits {k : Nat} {A : Around} (hr : Room k A) : A.units + 64 < cLine := by have := hr.un; omega
end
variable {c : Ct} {H H' H0 H1 H2 H3 : Hp} {O : List Addr} {σ : L2.St} {Γ Γ' Γ1 : List (Option Rs)}
variable {te ta tb tx tl : TE} {tt tu : TT} {tr : TA} {k ka kb kc : Kd} {d x y z : PyData} {i j : Int} {a b : Bool} {kv fz : Bool} {ds es : List PyData}
theorem e_add (ha : Ev c ta Γ ka (.int i)) (hb : Ev c tb Γ kb (.int j)) : Ev c (tOp (rAddA c.K) ta tb) Γ .v (.int (i + j)) :=
  d_bin ha hb fun H O v u Q bv bu q => .inl ⟨i, j, bv.int', bu.int', q _ H Rr.rf (.int _)⟩
theorem e_mul (ha : Ev c ta Γ ka (.int i)) (hb : Ev c tb Γ kb (.int j)) (h : CMul i j) : Ev c (tOp rMulA ta tb) Γ .v (.int (i * j)) :=
  d_bin ha hb fun H O v u Q bv bu q => .inl ⟨i, j, bv.int', bu.int', h, q _ H Rr.rf (.int _)⟩
theorem e_eqI (ha : Ev c ta Γ ka (.int i)) (hb : Ev c tb Γ kb (.int j)) : Ev c (tOp (rEqA c.K) ta tb) Γ .v (.bool (decide (i = j))) :=
  d_bin ha hb fun H O v u Q bv bu q => .inl ⟨by rw [bv.int', bu.int']; rfl, by rw [bv.int', bu.int', decI]; exact q _ H Rr.rf (.bl _)⟩
theorem e_neI (ha : Ev c ta Γ ka (.int i)) (hb : Ev c tb Γ kb (.int j)) : Ev c (tOp (rNeA c.K) ta tb) Γ .v (.bool (!decide (i = j))) :=
  d_bin ha hb fun H O v u Q bv bu q => .inl ⟨by rw [bv.int', bu.int']; rfl, by rw [bv.int', bu.int', decI]; exact q _ H Rr.rf (.bl _)⟩
theorem e_neD (ha : Ev c ta Γ ka x) (hb : Ev c tb Γ kb y) (hx : SeqAt.shaped x = true) (hy : SeqAt.shaped y = true) : Ev c (tOp (rNeA c.K) ta tb) Γ .v (.bool (!PyData.eqv x y)) :=
  d_bin ha hb fun H O v u Q bv bu q => .inr ⟨x, y, bv.dp, bu.dp, hx, hy, q _ H Rr.rf (.bl _)⟩
theorem e_ixT (ha : Ev c ta Γ ka (.tuple ds)) (hb : Ev c tb Γ kb (.int i)) (he : atI ds i = some d) (hf : flatD d = true) : Ev c (tOp (rIx c.K) ta tb) Γ .v d := fun H0 O H σ e Q q =>
  ha H0 O H σ e _ fun v H1 r1 s1 => hb H0 O H1 σ (e.on r1) _ fun u H2 r2 s2 => by
    obtain ⟨p, xs, rfl, s, al⟩ := (Res.bo e (Res.on e r1 r2 s1)).tup'
    obtain ⟨x, hx, bx⟩ := atI_bo al he
    exact .inr (.inl ⟨p, xs, i, x, rfl, (Res.bo (e.on r1) s2).int', s.sq, hx, q x H2 (r1.tr r2) (Bo.flatM e (r1.tr r2) hf bx)⟩)
theorem e_ixL (ha : Ev c ta Γ ka (.list ds)) (hb : Ev c tb Γ kb (.int i)) (he : atI ds i = some d) (hf : flatD d = true) : Ev c (tOp (rIx c.K) ta tb) Γ .v d := fun H0 O H σ e Q q =>
  ha H0 O H σ e _ fun v H1 r1 s1 => hb H0 O H1 σ (e.on r1) _ fun u H2 r2 s2 => by
    obtain ⟨p, xs, rfl, _, s, al⟩ := (Res.bo e (Res.on e r1 r2 s1)).lst'
    obtain ⟨x, hx, bx⟩ := atI_bo al he
    exact .inl ⟨p, xs, i, x, rfl, (Res.bo (e.on r1) s2).int', s, hx, q x H2 (r1.tr r2) (Bo.flatM e (r1.tr r2) hf bx)⟩
/-- an item of a frozen tuple, whatever it is -/
theorem e_ixTv (ha : Ev c ta Γ .v (.tuple ds)) (hb : Ev c tb Γ kb (.int i)) (he : atI ds i = some d) : Ev c (tOp (rIx c.K) ta tb) Γ .v d := fun H0 O H σ e Q q =>
  ha H0 O H σ e _ fun v H1 r1 s1 => hb H0 O H1 σ (e.on r1) _ fun u H2 r2 s2 => by
    obtain ⟨p, xs, rfl, s, al⟩ := Bo.tup' (Res.on e r1 r2 s1)
    obtain ⟨x, hx, bx⟩ := atI_bo al he
    exact .inr (.inl ⟨p, xs, i, x, rfl, (Res.bo (e.on r1) s2).int', (sqT_same mns_same s).sq, hx, q x H2 (r1.tr r2) bx⟩)
theorem e_ixLv (ha : Ev c ta Γ .v (.list ds)) (hb : Ev c tb Γ kb (.int i)) (he : atI ds i = some d) : Ev c (tOp (rIx c.K) ta tb) Γ .v d := fun H0 O H σ e Q q =>
  ha H0 O H σ e _ fun v H1 r1 s1 => hb H0 O H1 σ (e.on r1) _ fun u H2 r2 s2 => by
    obtain ⟨p, xs, rfl, _, s, al⟩ := Bo.lst' (Res.on e r1 r2 s1)
    obtain ⟨x, hx, bx⟩ := atI_bo al he
    exact .inl ⟨p, xs, i, x, rfl, (Res.bo (e.on r1) s2).int', mns_same.seq s, hx, q x H2 (r1.tr r2) bx⟩
theorem e_ixLb (ha : Ev c ta Γ ka (.list ds)) (hb : Ev c tb Γ kb (.int i)) (he : atI ds i = some d) : Ev c (tOp (rIx c.K) ta tb) Γ .b d := fun H0 O H σ e Q q =>
  ha H0 O H σ e _ fun v H1 r1 s1 => hb H0 O H1 σ (e.on r1) _ fun u H2 r2 s2 => by
    obtain ⟨p, xs, rfl, _, s, al⟩ := (Res.bo e (Res.on e r1 r2 s1)).lst'
    obtain ⟨x, hx, bx⟩ := atI_bo al he
    exact .inl ⟨p, xs, i, x, rfl, (Res.bo (e.on r1) s2).int', s, hx, q x H2 (r1.tr r2) bx⟩
/-- a < b < c of ints -/
theorem d_chain {f g : Int → Int → Bool} {l : Int} (ha : Ev c ta Γ ka (.int i)) (hb : Ev c tb Γ kb (.int j)) (hc : f i j = true → Ev c tx Γ kc (.int l)) :
    Ev c (tChain (rI0 fun i j => .bl (f i j)) (rI0 fun i j => .bl (g i j)) ta tb tx) Γ .v (.bool (f i j && g j l)) := fun H0 O H σ e Q q =>
  ha H0 O H σ e _ fun v H1 r1 s1 => hb H0 O H1 σ (e.on r1) _ fun u H2 r2 s2 => by
    refine ⟨i, j, (Res.bo e s1).int', (Res.bo (e.on r1) s2).int', f i j, rfl, ?_⟩
    cases hf : f i j with
    | true =>
      refine iteT (hc hf H0 O H2 σ ((e.on r1).on r2) _ fun w H3 r3 s3 => ?_)
      exact ⟨j, l, (Res.bo (e.on r1) s2).int', (Res.bo ((e.on r1).on r2) s3).int', by
        have := q (.bl (g j l)) H3 ((r1.tr r2).tr r3)
        rw [hf, Bool.true_and] at this
        exact this (.bl _)⟩
    | false =>
      refine iteF ?_
      have := q (.bl false) H2 (r1.tr r2)
      rw [hf, Bool.false_and] at this
      exact this (.bl _)
/-! ### isinstance -/
def tyD : PyData → String
  | .none => "NoneType"
  | .bool _ => "bool"
  | .int _ => "int"
  | .str _ => "str"
  | .list _ => "list"
  | .tuple _ => "tuple"
  | .dict _ => "dict"
theorem Bo.ty {v : V} (h : Bo c H v d) : TyX c.K H v (.type (tyD d)) := by
  cases h with
  | non => exact .base .non
  | bl b => exact .base (.bl b)
  | int i => exact .base (.int i)
  | str x => exact .base (.str x)
  | lst _ s a =>
    rcases s with (s | ⟨o, s⟩) | ⟨o, its, n, h1, h2, _⟩
    · exact .base (.lst s)
    · exact .base (.frz s)
    · exact .kList h1 h2
  | tup s a =>
    rcases s with ⟨o, _, s⟩ | ⟨o, its, n, h1, h2, _⟩
    · exact .fTuple s
    · exact .kTuple h1 h2
theorem e_isi {n : String} (h : Ev c te Γ k d) (e : kitB (tyD d) n = some b) : Ev c (tCB (rIsi c.K) (tCons te (tCons (tC (.ty n)) tNil))) Γ .v (.bool b) := fun H0 O H σ en Q q =>
  h H0 O H σ en _ fun v H1 r1 s1 => ⟨v, .ty n, _, _, b, rfl, .ty n, (Res.bo en s1).ty, kit_ty e, q _ H1 r1 (.bl b)⟩
/-! ### what is walked -/
theorem i_seqL (h : Ev c tl Γ k (.list ds)) (hk : k ≠ .b) : EvI c (iSeq c.K tl) Γ true (ds.map Im.d) := fun H0 O H σ e R q => .inl (i_list h hk H0 O H σ e R q)
theorem i_seqB (h : Ev c tl Γ k (.list ds)) (hf : flatAll ds = true) : EvI c (iSeq c.K tl) Γ false (ds.map Im.d) := fun H0 O H σ e R q => .inl (i_listB h hf H0 O H σ e R q)
theorem i_seqT (h : Ev c tl Γ k (.tuple ds)) (hk : k ≠ .b) : EvI c (iSeq c.K tl) Γ true (ds.map Im.d) := fun H0 O H σ e R q => .inr (i_tup h hk H0 O H σ e R q)
/-- the places and the items -/
def enumI (ds : List PyData) : List Im := ds.zipIdx.map fun p => .t [.d (.int (p.2 : Nat)), .d p.1]
theorem enum_core {J : It} {xs : List V} {F : Hp} (jF : Ji c F) (hw : Walk J xs.length (fun H => Rr c F H) (YPair (fun i => some (.int (i : Nat))) fun i => xs[i]?)) (hb : BoAll c F xs ds) (hf : fz = true ∨ flatAll ds = true) : WD c F fz J (enumI ds) := by
  refine ⟨jF, ?_⟩
  have hl : xs.length = (enumI ds).length := by rw [hb.len]; simp [enumI]
  rw [hl] at hw
  refine hw.mono (fun _ h => h) fun i H x H' hi g y => ?_
  obtain ⟨T, x1, x2, rfl, hT, rfl, h1, h2⟩ := y
  cases h1
  obtain ⟨d, hd, bd⟩ := hb.get h2
  have sm : Same H (upd H T (.tup [.int (i : Nat), x2])) := fun b o z => by rw [upd_ne (ne_of_none z hT)]; exact z
  refine ⟨sm, .t [.d (.int (i : Nat)), .d d], ?_, .tup (.inl (.inl upd_same)) (.cons (.leaf (.inl ⟨rfl, .int _⟩)) (.cons (.leaf ?_) .nil))⟩
  · simp [enumI, hd]
  · rcases hf with hf | hf
    · exact .inr ⟨hf, bd⟩
    · exact .inl ⟨flatAll_one hf (List.mem_of_getElem? hd), bd.mono jF (g.tr (Rr.same sm))⟩
theorem i_enumT (h : EvA c tr Γ true [.tuple ds]) : EvI c (iEnumA c.K tr) Γ true (enumI ds) := fun H0 O H σ e R q =>
  h H0 O H σ e _ fun vs H1 r s => by
    obtain ⟨x, rfl, b⟩ := (BoAll.vm s).one
    obtain ⟨p, xs, rfl, sl, al⟩ := b.tup'
    exact ⟨p, xs, rfl, .inr ⟨(sqT_same mns_same sl).sq, q _ H1 r (enum_core (e.on r).j (walk_enumT.mono (fun H h => (h.tup (e.on r).j sl).sq) fun _ _ _ _ _ _ y => y) al (.inl rfl))⟩⟩
/-- max(t, default=d) -/
def mxD (d : Int) : List Int → Int
  | [] => d
  | n :: ms => mxOf n ms
theorem e_maxD {ns : List Int} (h : Ev c ta Γ ka (.tuple (ns.map .int))) (hb : Ev c tb Γ kb (.int i)) : Ev c (tCKw (rMaxDT c.K) (tCons ta tNil) (tCons tb tNil)) Γ .v (.int (mxD i ns)) := fun H0 O H σ e Q q =>
  h H0 O H σ e _ fun v H1 r1 s1 => hb H0 O H1 σ (e.on r1) _ fun u H2 r2 s2 => by
    obtain ⟨p, xs, rfl, s, al⟩ := (Res.bo e (Res.on e r1 r2 s1)).tup'
    have := al.ints
    subst this
    refine ⟨p, ns, i, rfl, by rw [(Res.bo (e.on r1) s2).int'], s.sq, ?_⟩
    cases ns with
    | nil => exact q _ H2 (r1.tr r2) (.int _)
    | cons n ms => exact q _ H2 (r1.tr r2) (.int _)
end Lm


namespace Lm
open PySem PySem.Spec PyProof.Rows L2
section
variable {prog : Program} {w : World} {A : Around} {E : Value → Shared → Prop} {s : Shared}
/-- iter(t), what it takes to walk t -/
theorem iterTup {a : Addr} {its : Array Value} {Q : Value → Shared → Prop} (ht : s.heap.IsTuple a its)
    (h : ∀ s2 : Shared, s2 = { s with heap := s.heap.push { cls := .type "tuple_iterator", data := .fields #[.ref a, .int 0 0] } } → s2.heap.IsTupleIter s.heap.objs.size a 0 ∧ s2.heap.IsTuple a its → (∀ b ∈ [s.heap.objs.size, a], b < s2.heap.objs.size) → a ≠ s.heap.objs.size →
      (∀ b o, s.heap.get? b = some o → b ∉ [s.heap.objs.size] ∧ s2.heap.get? b = some o) → Q (.ref s.heap.objs.size) s2) : wpAny (model prog w) A (pyIter (.ref a)) Q E s := by
  have hlt : a < s.heap.objs.size := let ⟨_, g, _⟩ := ht; Heap.lt_size g
  refine wpAny_pyIter_tuple ht (h _ rfl ⟨⟨_, Heap.get?_push_size _ rfl, rfl, rfl⟩, ht.at fun o q => Heap.get?_push_of_some _ q⟩ (fun b hb => ?_) (Nat.ne_of_lt hlt) fun b o q => ⟨by simpa using Nat.ne_of_lt (Heap.lt_size q), Heap.get?_push_of_some _ q⟩)
  show b < (s.heap.push _).objs.size
  rw [Heap.size_push]
  rcases List.mem_cons.mp hb with rfl | hb
  · exact Nat.lt_succ_self _
  · cases List.mem_singleton.mp hb
    exact Nat.lt_succ_of_lt hlt
theorem preSum_take (ns : List Int) : ∀ j, j ≤ ns.length → preSum (fun i => ns.getD i 0) j = (ns.take j).sum
  | 0, _ => rfl
  | j + 1, h => by
    have e : ns[j]? = some ns[j] := List.getElem?_eq_getElem h
    rw [preSum, preSum_take ns j (Nat.le_of_succ_le h), sum_take e, List.getD_eq_getElem?_getD, e]
    rfl
theorem callSumT {a : Addr} {its : Array Value} {ns : List Int} {Q : Value → Shared → Prop} (hh : A.handled = none) (ht : s.heap.IsTuple a its) (hi : IntsAre its.toList ns)
    (h : ∀ h' tk t', (∀ b o, s.heap.get? b = some o → h'.get? b = some o) → Q (.int ns.sum t') { s with heap := h', toks := tk }) : wpAny (model prog w) A (call (.builtin "sum") [.ref a]) Q E s := by
  have hsz : its.size = ns.length := by rw [← Array.length_toList]; exact hi.length
  refine call_sum_walkG (iterTup ht fun s2 e st hfp hne old => ?_)
  refine ⟨_, _, _, ns.length, _, _, fun i => ns.getD i 0, rfl, hsz ▸ Walks.tuple (A := A.in1) hh _ a hne its, st, hfp, fun i v q => ?_, fun h' tk t' hk => ?_⟩
  · have h1 : its.toList[i]? = some v := by simpa using q
    have hlt : i < ns.length := by rw [← hi.length]; exact (List.getElem?_eq_some_iff.mp h1).1
    obtain ⟨t, h2⟩ := hi.get i ns[i] (List.getElem?_eq_getElem hlt)
    rw [h1] at h2
    refine ⟨t, ?_⟩
    show v = Value.int (ns.getD i 0) t
    rw [List.getD_eq_getElem?_getD, List.getElem?_eq_getElem hlt]
    exact Option.some.inj h2
  · rw [preSum_take ns _ (Nat.le_refl _), List.take_length]
    subst e
    exact h h' tk t' fun b o q => hk b o (old b o q).1 (old b o q).2
end
def rSumT (K : PySem.W.Frag) : List V → Hp → VK → Prop := fun vs H Q => ∃ (a : Addr) (ns : List Int), vs = [V.ref a] ∧ SqT K H a (ns.map V.int) ∧ Q (.int ns.sum) H
def rSumA (K : PySem.W.Frag) : List V → Hp → VK → Prop := fun vs H Q => rSum K vs H Q ∨ rSumT K vs H Q
section
variable {X : Cx}
theorem cr_sumT (hc : X.calm = true) : CallR X (.builtin "sum") (rSumT X.K) := by
  rintro pins s σ H vs us Q I r ⟨a, ns, rfl, hs, q⟩
  obtain ⟨its, rv, p, _⟩ := I.tuple hs
  rw [Vals.ref1 r]
  exact callSumT (I.ok.hd hc) (show s.heap.IsTuple a its.toArray from p) rv.ints fun h' tk t' hk => ⟨.int _, H, I.kept hk, ⟨_, rfl⟩, q⟩
theorem cr_sumA (hc : X.calm = true) : CallR X (.builtin "sum") (rSumA X.K) := (cr_sum hc).or (cr_sumT hc)
theorem cr_len : CallR X (.builtin "len") (rLen X.K) := call_len_seq
/-- a module's int -/
theorem pe_const {x : Str} {n : Int} {pos : Pos} (hg : Gl X x) (hm : ∃ t, X.mg x = some (.int n t)) (hd : (x == ("__debug__" : Str)) = false := by decide) : PE X (.Name x pos) (tC (.int n)) := by
  obtain ⟨t, h⟩ := hm
  exact pe_glob hg h ⟨t, rfl⟩ hd
/-- a built-in class as a value -/
theorem pe_ty {x : Str} {n : String} {pos : Pos} (hg : Gl X x) (hm : X.mg x = none) (hv : bootBuiltins x = some (.type n)) (hn : x ≠ "__name__" := by decide) (hd : (x == ("__debug__" : Str)) = false := by decide) : PE X (.Name x pos) (tC (.ty n)) :=
  pe_bltn hg hm hv rfl hn hd
/-- list(x) -/
def rListA (K : PySem.W.Frag) : List V → Hp → VK → Prop := fun xs H Q => ∃ p ys, xs = [.ref p] ∧ (SqL K H p ys ∨ SqT K H p ys) ∧ ∀ l, H l = none → Q (.ref l) (upd H l (.lst ys))
theorem cr_list : CallR X (.type "list") (rListA X.K) := call_list_of
end
variable {c : Ct} {H H' H0 H1 H2 H3 : Hp} {O : List Addr} {σ : L2.St} {Γ Γ' Γ1 : List (Option Rs)}
variable {te ta tb tx tl : TE} {tt tu : TT} {tr : TA} {k ka kb kc : Kd} {d x y z : PyData} {i j : Int} {a b : Bool} {kv fz : Bool} {ds es : List PyData}
theorem e_sumT {ns : List Int} (h : Ev c te Γ k (.tuple (ns.map .int))) : Ev c (tCB (rSumA c.K) (tCons te tNil)) Γ .v (.int ns.sum) :=
  d_cb (a_cons h a_nil) fun H O vs Q s q => by
    obtain ⟨x, rfl, b⟩ := s.one
    obtain ⟨p, xs, rfl, s, al⟩ := b.tup'
    have := al.ints
    subst this
    exact .inr ⟨p, ns, rfl, s.sq, q _ H Rr.rf (.int _)⟩
theorem e_sumL {ns : List Int} (h : Ev c te Γ k (.list (ns.map .int))) : Ev c (tCB (rSumA c.K) (tCons te tNil)) Γ .v (.int ns.sum) :=
  d_cb (a_cons h a_nil) fun H O vs Q s q => by
    obtain ⟨x, rfl, b⟩ := s.one
    obtain ⟨p, xs, rfl, _, s, al⟩ := b.lst'
    have := al.ints
    subst this
    exact .inl ⟨p, ns, rfl, s, q _ H Rr.rf (.int _)⟩
theorem e_listT (h : Ev c te Γ k (.tuple ds)) (hf : flatAll ds = true) : Ev c (tCB (rListA c.K) (tCons te tNil)) Γ .o (.list ds) := fun H0 O H σ e Q q =>
  h H0 O H σ e _ fun v H1 r s => by
    obtain ⟨p, xs, rfl, sl, al⟩ := (Res.bo e s).tup'
    refine ⟨p, xs, rfl, .inr sl.sq, fun l hl => ?_⟩
    have sm : Same H1 (upd H1 l (.lst xs)) := fun b u z => by rw [upd_ne (ne_of_none z hl)]; exact z
    exact q _ _ (r.tr (Rr.same sm)) ⟨[l], .lst upd_same (FoAll.leaves hf (al.same sm)), by simp, fun a ha => by
      cases List.mem_singleton.mp ha
      exact r.back e.jH hl⟩
end Lm
namespace Lm
open PySem PySem.Spec PyProof.Rows L2
variable {c : Ct} {Γ : List (Option Rs)} {te : TE} {tt : TT} {fz : Bool} {α : Type} {wi : TI} {g : TG} {vs : List Nat} {l : List α} {en : α → Im}
theorem d_lcB (m : α → Bool) (hi : EvI c wi Γ fz (l.map en)) (hl : l.length ≤ 1000000)
    (hb : ∀ a ∈ l, ∃ Γ' js, EvG c g (en a) (wipeG Γ vs) Γ' js ∧ (∀ j ∈ js, j ∈ vs) ∧ ∃ k, Ev c te Γ' k (.bool (m a))) : Ev c (tLc wi g tYes te vs) Γ .o (.list ((l.map m).map .bool)) := by
  have := d_lcA (te := te) (g := g) (vs := vs) (fun a => PyData.bool (m a)) hi hl fun a ha => by
    obtain ⟨Γ', js, h1, h2, k, h3⟩ := hb a ha
    exact ⟨Γ', js, h1, h2, h3.fo rfl⟩
  rw [List.map_map]
  exact this
theorem d_lcI (m : α → Int) (hi : EvI c wi Γ fz (l.map en)) (hl : l.length ≤ 1000000)
    (hb : ∀ a ∈ l, ∃ Γ' js, EvG c g (en a) (wipeG Γ vs) Γ' js ∧ (∀ j ∈ js, j ∈ vs) ∧ ∃ k, Ev c te Γ' k (.int (m a))) : Ev c (tLc wi g tYes te vs) Γ .o (.list ((l.map m).map .int)) := by
  have := d_lcA (te := te) (g := g) (vs := vs) (fun a => PyData.int (m a)) hi hl fun a ha => by
    obtain ⟨Γ', js, h1, h2, k, h3⟩ := hb a ha
    exact ⟨Γ', js, h1, h2, h3.fo rfl⟩
  rw [List.map_map]
  exact this
end Lm
namespace Lm
open PySem
theorem flatT (ns : List Int) : flatD (.tuple (ns.map .int)) = true := flatAll_ints ns
end Lm
namespace Lm
open PySem PySem.Spec PyProof.Rows L2
end Lm
namespace Lm
open PySem PySem.Spec PyProof.Rows L2
def imI (n : Int) : Im := .d (.int n)
theorem i_seqTI {c : Ct} {Γ : List (Option Rs)} {tl : TE} {k : Kd} {ns : List Int} (h : Ev c tl Γ k (.tuple (ns.map .int))) (hk : k ≠ .b) : EvI c (iSeq c.K tl) Γ true (ns.map imI) := by
  have := i_seqT h hk
  rwa [List.map_map] at this
theorem i_seqLI {c : Ct} {Γ : List (Option Rs)} {tl : TE} {k : Kd} {ns : List Int} (h : Ev c tl Γ k (.list (ns.map .int))) (hk : k ≠ .b) : EvI c (iSeq c.K tl) Γ true (ns.map imI) := by
  have := i_seqL h hk
  rwa [List.map_map] at this
theorem kv_ne : Kd.v ≠ Kd.b := fun h => nomatch h
theorem ko_ne : Kd.o ≠ Kd.b := fun h => nomatch h
end Lm


/-! the rules, the written part given by name (within a comprehension's block it may not be read off the context) -/
namespace Lm
open PySem PySem.Spec PyProof.Rows L2
section
variable {X : Cx} {K : PySem.W.Frag} (hK : X.K = K)
include hK
theorem k_add : OpR X (binaryOp .Add) (rAddA K) := hK ▸ op_addA
theorem k_eq (hu : X.A.units + 64 < cLine) : OpR X (compareOp .Eq) (rEqA K) := hK ▸ op_eqA hu
theorem k_ne (hu : X.A.units + 64 < cLine) : OpR X (compareOp .NotEq) (rNeA K) := hK ▸ op_neA hu
theorem k_in : OpR X (compareOp .In) (rIn K false) := hK ▸ op_in_seq
theorem k_notIn : OpR X (compareOp .NotIn) (rIn K true) := hK ▸ op_notIn_seq
theorem k_ix : IxR X (rIx K) := hK ▸ ix_seq
theorem k_slT : SlR X (rSlN K) := hK ▸ sl_tupN
theorem k_isi : CallR X (.builtin "isinstance") (rIsi K) := hK ▸ call_isi
theorem k_len : CallR X (.builtin "len") (rLen K) := hK ▸ cr_len
theorem k_all (hc : X.calm = true) : CallR X (.builtin "all") (rAll K) := hK ▸ cr_all hc
theorem k_any (hc : X.calm = true) : CallR X (.builtin "any") (rAny K) := hK ▸ cr_any hc
theorem k_sum (hc : X.calm = true) : CallR X (.builtin "sum") (rSumA K) := hK ▸ cr_sumA hc
theorem k_tuple : CallR X (.type "tuple") (rTuple K) := hK ▸ cr_tuple
theorem k_list : CallR X (.type "list") (rListA K) := hK ▸ cr_list
theorem k_maxD (hc : X.calm = true) : CallRK X (.builtin "max") [Str.ofString "default"] (rMaxDT K) := hK ▸ cr_maxD hc
theorem k_seq {e tg : Expr} {tl : TE} (h : PE X e tl) : PI X tg e (iSeq K tl) := hK ▸ pi_seq h
theorem k_enum {e : Expr} {ta : TA} {p pos tpos : Pos} {elts : List Expr} {kk : Nat} (hg : Gl X "enumerate") (hm : X.mg "enumerate" = none) (ha : PA X [e] ta) (hs : starEach [e] X.env = [(false, eval e X.env)] := by rfl) :
    PI X (.Tuple elts kk tpos) (.Call (.Name "enumerate" p) [e] [] pos) (iEnumA K ta) := hK ▸ pi_enumA hg hm ha hs
theorem k_zip {e e2 : Expr} {ta : TA} {p pos tpos : Pos} {elts : List Expr} {kk : Nat} (hg : Gl X "zip") (hm : X.mg "zip" = none) (ha : PA X [e, e2] ta)
    (hs : starEach [e, e2] X.env = (false, eval e X.env) :: starEach [e2] X.env := by rfl) (hpl : (backTo pos (starEach [e2] X.env)).any (·.1) = false := by rfl) :
    PI X (.Tuple elts kk tpos) (.Call (.Name "zip" p) [e, e2] [] pos) (RZ.iZipA K ta) := hK ▸ RZ.pi_zipA hg hm ha hs hpl
theorem k_tup {es : List Expr} {k : Nat} {t : TGs} {n : Nat} {pos : Pos} (hc : X.calm = true) (h : PGs X es t)
    (hn : (assignEach es X.env).length = n := by rfl) (hst : (assignEach es X.env).findIdx? (·.1) = none := by rfl) : PG X (.Tuple es k pos) (gTup K n t) := hK ▸ pg_tup hc h hn hst
theorem k_bm {T : String} {name : Str} {id : String} {r : V → List V → Hp → VK → Prop} {o e : Expr} {es : List Expr} {to : TE} {t : TA} {apos cpos : Pos} (pa : PlainAttrs T) (slot : Slot T name id) (hty : typeOf (.builtin id) = pure (.type "method_descriptor")) (hm : MtR X id r) (ho : PE X o to) (ha : PA X (e :: es) t)
    (hbase : attributeBase o name X.env (eval o X.env) = eval o X.env := by rfl)
    (hfew : ((backTo cpos (starEach (e :: es) X.env)).all (fun x => !x.1) && (backToKw cpos (keywordEach [] X.env)).all (fun x => x.1.isSome) && decide ((e :: es).length + ([] : List Keyword).length + (if ([] : List Keyword).isEmpty then 0 else 1) < 30)) = true := by rfl)
    (hline : (apos.endLine == cpos.line) = true := by rfl) (hs : starEach (e :: es) X.env = (false, eval e X.env) :: starEach es X.env := by rfl) (hplain : (backTo cpos (starEach es X.env)).any (·.1) = false := by rfl) :
    PE X (.Call (.Attribute o name apos) (e :: es) [] cpos) (tBM K T r to t) := hK ▸ pe_bm pa slot hty hm ho ha hbase hfew hline hs hplain
end
end Lm


/-! the law's own start and end -/
namespace Lm
open PySem PySem.Spec PyProof.Rows L2
variable {c : Ct} {H H' H0 H1 H2 H3 : Hp} {O : List Addr} {σ : L2.St} {Γ Γ' Γ1 : List (Option Rs)}
variable {te ta tb tx tl : TE} {tt tu : TT} {tr : TA} {k ka kb kc : Kd} {d x y z : PyData} {i j : Int} {a b : Bool} {kv fz : Bool} {ds es : List PyData}
/-- law's: a list of at most 63 ints is handed in, True comes out -/
def spLaw (K : PySem.W.Frag) : Sp := fun vs H Q _ => ∃ (a : Addr) (ns : List Int), vs = [.ref a] ∧ SqL K H a (ns.map V.int) ∧ ns.length ≤ 63 ∧ ∀ H', Q (.bl true) H'
def spStream (K : PySem.W.Frag) : Sp := fun vs H Q _ => ∃ (a : Addr) (ns : List Int), vs = [.ref a] ∧ SqL K H a (ns.map V.int) ∧ ns.length ≤ 63 ∧ ∀ st l H', Same H H' → H st = none → Str1 K st l H' → Q (.ref st) H'
theorem run_law {K : PySem.W.Frag} {N : List Str} {t : TS} {vs : List V} {Q : VK} {E E' : XK} (hN : 2 ≤ N.length)
    (hs : ∀ st l, Sd (sc K st l) t (none :: some (.r (.ref st)) :: List.replicate (N.length - 2) none) (fun o => o = .rt .v (.bool true))) (h : spLaw K vs H Q E) :
    tSeq (tAsg (tCall (spStream K) [] E' (tCons (tVar 0) tNil)) (gName 1)) t { nx := fun _ H' => Q .non H', rt := Q } (start N vs) H := by
  obtain ⟨a, ns, rfl, hS, hl, hq⟩ := h
  have es : start N [.ref a] = some (.ref a) :: List.replicate (N.length - 1) none := rfl
  rw [es]
  refine ⟨.ref a, rfl, a, ns, rfl, hS, hl, fun st l H1 sm hst str => ?_⟩
  have j : Ji (sc K st l) H1 := fun st' l' e => by cases e; exact str
  refine hs st l H1 [] H1 _ _ ⟨Rr.same (by rw [mns_nil]; exact Same.refl _), by rw [mns_nil]; exact j, (fun _ h => nomatch h), (fun _ h => nomatch h), [], ?_, List.nodup_nil, (fun _ h => nomatch h)⟩ fun o po => ?_
  · have e2 : List.replicate (N.length - 1) (none : Option V) = none :: List.replicate (N.length - 2) none := by
      have : N.length - 1 = (N.length - 2) + 1 := by omega
      rw [this, List.replicate_succ]
    rw [e2]
    exact .cons (f := []) (fs := []) rfl (.cons (f := []) (fs := []) ⟨rfl, rfl⟩ (reps_none _))
  · subst po
    intro v H' _ rt
    have := rt.2.bl'
    subst this
    exact hq H'
/-! one of several answers -/
theorem n_bin {r : R2} {Pa Pb P : PyData → Prop} (ha : EvN c ta Γ ka Pa) (hb : EvN c tb Γ kb Pb)
    (hr : ∀ x y, Pa x → Pb y → ∃ z, P z ∧ ∀ H O v u (Q : VK), Bo c H v x → Bo c H u y → (∀ v' H2, Rr c H H2 → Bo c (mns H2 O) v' z → Q v' H2) → r v u H Q) : EvN c (tOp r ta tb) Γ .v P := fun H0 O H σ e Q q =>
  ha H0 O H σ e _ fun v x H1 px r1 s1 => hb H0 O H1 σ (e.on r1) _ fun u y H2 py r2 s2 => by
    obtain ⟨z, pz, hz⟩ := hr x y px py
    exact hz H2 O v u Q (Res.bo e (Res.on e r1 r2 s1)) (Res.bo (e.on r1) s2) fun v' H3 r3 b => q v' z H3 pz ((r1.tr r2).tr r3) b
/-- some int with Q -/
abbrev SomeI (Q : Int → Prop) : PyData → Prop := fun d => ∃ n : Int, d = .int n ∧ Q n
theorem n_add {Qa Qb Q : Int → Prop} (ha : EvN c ta Γ ka (SomeI Qa)) (hb : EvN c tb Γ kb (SomeI Qb)) (h : ∀ m n, Qa m → Qb n → Q (m + n)) : EvN c (tOp (rAddA c.K) ta tb) Γ .v (SomeI Q) :=
  n_bin ha hb fun x y ⟨m, hm, qm⟩ ⟨n, hn, qn⟩ => ⟨.int (m + n), ⟨_, rfl, h m n qm qn⟩, fun H O v u Q bv bu q => by
    subst hm; subst hn
    exact .inl ⟨m, n, bv.int', bu.int', q _ H Rr.rf (.int _)⟩⟩
theorem Ev.sm {Q : Int → Prop} (h : Ev c te Γ k (.int i)) (q : Q i) : EvN c te Γ k (SomeI Q) := h.n.imp fun d e => ⟨i, e, q⟩
/-- a comparison of drawn ints, as a test of either answer -/
theorem tn_cmp {r : R2} {Qa Qb : Int → Prop} (ha : EvN c ta Γ ka (SomeI Qa)) (hb : EvN c tb Γ kb (SomeI Qb))
    (hr : ∀ m n H (Q : VK), (∀ b, Q (.bl b) H) → r (.int m) (.int n) H Q) : EvTN c (tTest (tOp r ta tb)) Γ := fun H0 O H σ e Q q =>
  ha H0 O H σ e _ fun v x H1 ⟨m, hm, _⟩ r1 s1 => hb H0 O H1 σ (e.on r1) _ fun u y H2 ⟨n, hn, _⟩ r2 s2 => by
    subst hm; subst hn
    rw [(Res.bo e (Res.on e r1 r2 s1)).int', (Res.bo (e.on r1) s2).int']
    exact hr m n H2 _ fun b => ⟨b, rfl, q b H2 (r1.tr r2)⟩
theorem tn_eq {Qa Qb : Int → Prop} (ha : EvN c ta Γ ka (SomeI Qa)) (hb : EvN c tb Γ kb (SomeI Qb)) : EvTN c (tTest (tOp (rEqA c.K) ta tb)) Γ :=
  tn_cmp ha hb fun m n H Q q => .inl ⟨rfl, q _⟩
end Lm


/-! what the defs promise -/
namespace Lm
open PySem PySem.Spec PyProof.Rows L2
/-- is an int from lo to hi -/
def isIntD : PyData → Int → Int → Bool
  | .int i, lo, hi => decide (lo ≤ i) && decide (i ≤ hi)
  | _, _, _ => false
def isIntTy : PyData → Bool
  | .int _ => true
  | .bool _ => true
  | _ => false
def isBoolTy : PyData → Bool
  | .bool _ => true
  | _ => false
theorem kit_int (x : PyData) : kitB (tyD x) "int" = some (isIntTy x) := by cases x <;> (simp only [tyD, isIntTy, isBoolTy]; decide +kernel)
theorem kit_bool (x : PyData) : kitB (tyD x) "bool" = some (isBoolTy x) := by cases x <;> (simp only [tyD, isIntTy, isBoolTy]; decide +kernel)
def sp_is_integer (K : PySem.W.Frag) : Sp := spD K fun ds k d => ∃ x lo hi, ds = [x, .int lo, .int hi] ∧ k = .v ∧ d = .bool (isIntD x lo hi)


def sp_require (K : PySem.W.Frag) : Sp := spD K fun ds k d => ∃ nm, ds = [.bool true, .str nm] ∧ k = .v ∧ d = .none
/-- a tuple of ints from lo to hi -/
def areInts : PyData → Int → Int → Bool
  | .tuple ds, lo, hi => ds.all fun d => isIntD d lo hi
  | _, _, _ => false
def isTupTy : PyData → Bool
  | .tuple _ => true
  | _ => false
theorem kit_tuple (x : PyData) : kitB (tyD x) "tuple" = some (isTupTy x) := by cases x <;> (simp only [tyD, isTupTy]; decide +kernel)
/-- tuples are not too long -/
def SmallT (x : PyData) : Prop := ∀ es, x = .tuple es → es.length ≤ 1000000
def sp_are_integers (K : PySem.W.Frag) : Sp := spD K fun ds k d => ∃ x lo hi, ds = [x, .int lo, .int hi] ∧ SmallT x ∧ k = .v ∧ d = .bool (areInts x lo hi)
theorem isInt_int {d : PyData} {lo hi : Int} (h : isIntD d lo hi = true) : ∃ n, d = .int n ∧ lo ≤ n ∧ n ≤ hi := by
  cases d with
  | int i =>
    simp only [isIntD, Bool.and_eq_true, decide_eq_true_eq] at h
    exact ⟨i, rfl, h.1, h.2⟩
  | _ => simp [isIntD] at h
theorem areInts_ints {x : PyData} {lo hi : Int} (h : areInts x lo hi = true) : ∃ ns : List Int, x = .tuple (ns.map .int) ∧ ∀ n ∈ ns, lo ≤ n ∧ n ≤ hi := by
  cases x with
  | tuple ds =>
    have h' : (ds.all fun d => isIntD d lo hi) = true := h
    clear h
    induction ds with
    | nil => exact ⟨[], rfl, fun _ h => nomatch h⟩
    | cons d ds ih =>
      rw [List.all_cons, Bool.and_eq_true] at h'
      obtain ⟨n, rfl, h1, h2⟩ := isInt_int h'.1
      obtain ⟨ns, e, h3⟩ := ih h'.2
      refine ⟨n :: ns, by rw [PyData.tuple.inj e]; rfl, fun m hm => ?_⟩
      rcases List.mem_cons.mp hm with q | q
      · rw [q]; exact ⟨h1, h2⟩
      · exact h3 m q
  | _ => simp [areInts] at h
theorem areInts_of {ns : List Int} {lo hi : Int} (h : ∀ n ∈ ns, lo ≤ n ∧ n ≤ hi) : areInts (.tuple (ns.map .int)) lo hi = true := by
  show ((ns.map PyData.int).all fun d => isIntD d lo hi) = true
  rw [List.all_map, List.all_eq_true]
  intro n hn
  have := h n hn
  simp [isIntD, this.1, this.2]


def lenT : PyData → Nat
  | .tuple ds => ds.length
  | _ => 0
theorem lenT_ints (ns : List Int) : lenT (.tuple (ns.map .int)) = ns.length := by simp [lenT]
/-- how often each variant occurs -/
def countsI (ns : List Int) (v : Int) : List Int := (upI 0 v.toNat).map fun i => (ns.count i : Int)
/-- an assignment of at most 20 buckets to v variants -/
structure Asg (ns : List Int) (v : Int) : Prop where
  len : ns.length ≤ 20
  rng : ∀ n ∈ ns, 0 ≤ n ∧ n < v
theorem small_ints {ns : List Int} (h : ns.length ≤ 1000000) : SmallT (.tuple (ns.map .int)) := fun es e => by
  rw [← PyData.tuple.inj e]
  simpa using h
theorem Asg.small {ns : List Int} {v : Int} (h : Asg ns v) : SmallT (.tuple (ns.map .int)) := small_ints (by have := h.len; omega)
def sp__law_next (K : PySem.W.Frag) : Sp := spS K fun ds k P => ∃ m : Int, ds = [.int m] ∧ 0 < m ∧ m < 1073741824 ∧ k = .v ∧ P = fun d => ∃ n : Int, d = .int n ∧ 0 ≤ n ∧ n < m
theorem Str1.put {K : PySem.W.Frag} {st l : Addr} {H : Hp} {ns : List Int} {x k : Int} (h2 : H l = some (.lst (ns.map V.int))) (h3 : l ≠ st) (h4 : 0 ≤ k) : Str1 K st l (upd H st (.lst [.ref l, .int x, .int k])) :=
  ⟨ns, x, k, upd_same, by rw [upd_ne h3]; exact h2, h3, h4⟩


/-! the law's helpers -/

def sp__law_stream := spStream
/-- data that _law_equal may look at, to some depth -/
inductive EqOk : Nat → PyData → Prop
  | non {n} : EqOk n .none
  | bl {n} (b : Bool) : EqOk n (.bool b)
  | int {n} (i : Int) : EqOk n (.int i)
  | str {n} (s : Str) : EqOk n (.str s)
  | lst {n} {xs : List PyData} : xs.length ≤ 1000000 → (∀ x ∈ xs, EqOk n x) → EqOk (n + 1) (.list xs)
  | tup {n} {xs : List PyData} : xs.length ≤ 1000000 → (∀ x ∈ xs, EqOk n x) → EqOk (n + 1) (.tuple xs)
theorem EqOk.ints {n : Nat} {ns : List Int} (h : ns.length ≤ 1000000) : EqOk (n + 1) (.tuple (ns.map .int)) := .tup (by simpa using h) fun x hx => by
  obtain ⟨i, _, rfl⟩ := List.mem_map.mp hx
  exact .int i
theorem EqOk.up {n : Nat} {x : PyData} (h : EqOk n x) : ∀ {m : Nat}, n ≤ m → EqOk m x := by
  induction h with
  | non => intro m _; exact .non
  | bl b => intro m _; exact .bl b
  | int i => intro m _; exact .int i
  | str s => intro m _; exact .str s
  | lst hl _ ih =>
    intro m hm
    cases m with
    | zero => omega
    | succ m => exact .lst hl fun x hx => ih x hx (by omega)
  | tup hl _ ih =>
    intro m hm
    cases m with
    | zero => omega
    | succ m => exact .tup hl fun x hx => ih x hx (by omega)


theorem upI0 (v : Nat) : upI 0 v = (List.range v).map fun (i : Nat) => (i : Int) := by
  unfold upI
  apply List.map_congr_left
  intro i _
  omega
theorem upI_count {v : Nat} {n : Int} (h0 : 0 ≤ n) (h1 : n < v) : (upI 0 v).count n = 1 := by
  obtain ⟨m, rfl⟩ := Int.eq_ofNat_of_zero_le h0
  have hm : m < v := by omega
  rw [upI0, List.count_eq_countP, List.countP_map]
  have e : ((fun x : Int => x == (m : Int)) ∘ fun (i : Nat) => (i : Int)) = fun i : Nat => i == m := by
    funext i
    show ((i : Int) == (m : Int)) = (i == m)
    rw [Bool.eq_iff_iff]
    simp
    omega
  rw [e]
  have : List.countP (fun i => i == m) (List.range v) = (List.range v).count m := rfl
  rw [this, List.nodup_range.count]
  simp [hm]
theorem count_sum (v : Nat) : ∀ ns : List Int, (∀ n ∈ ns, 0 ≤ n ∧ n < (v : Int)) → ((upI 0 v).map fun i => (ns.count i : Int)).sum = ns.length := by
  intro ns
  induction ns with
  | nil =>
    intro _
    generalize upI 0 v = l
    induction l with
    | nil => rfl
    | cons a l ih =>
      rw [List.map_cons, List.sum_cons, ih]
      rfl
  | cons n ns ih =>
    intro hv
    have ih' := ih fun m hm => hv m (by simp [hm])
    have hn := hv n (by simp)
    have key : ∀ l : List Int, (l.map fun i => ((n :: ns).count i : Int)).sum = (l.map fun i => (ns.count i : Int)).sum + l.count n := by
      intro l
      induction l with
      | nil => rfl
      | cons a l ihl =>
        rw [List.map_cons, List.sum_cons, List.map_cons, List.sum_cons, ihl, List.count_cons, List.count_cons]
        by_cases h : n = a
        · subst h
          rw [beq_self_eq_true, if_pos rfl]
          omega
        · rw [beq_eq_false_iff_ne.mpr h, beq_eq_false_iff_ne.mpr (fun e => h e.symm)]
          simp
          omega
    rw [key, ih', upI_count hn.1 hn.2]
    simp
end Lm


/-! more rules: a list unpacked, tuple.index of an int, the number of a tuple's different ints, list.pop(i) -/
namespace Lm
open PySem PySem.Spec PyProof.Rows L2
section
variable {prog : Program} {w : World} {A : Around} {E : Value → Shared → Prop} {s : Shared}
theorem drawL {it t : Addr} {items : Array Value} (hne : t ≠ it) : ∀ (n i : Nat) (s : Shared) (Q : List Value → Shared → Prop), s.heap.IsListIter it t i → s.heap.IsList t items → i + n ≤ items.size →
    (∀ h', h'.IsListIter it t (i + n) → Heap.SameBut it s.heap h' → Q ((items.toList.drop i).take n) { s with heap := h' }) → wpAny (model prog w) A (draw (.ref it) n) Q E s
  | 0, i, s, Q, hit, _, _, hQ => by
    show wpAny _ _ (pure []) Q E s
    exact wpAny_pure (by simpa using hQ s.heap hit (Heap.SameBut.refl ..))
  | n + 1, i, s, Q, hit, ht, hle, hQ => by
    have hlt : i < items.size := by omega
    show wpAny _ _ (pyNext (.ref it) >>= _) Q E s
    refine wpAny_bind (wpAny_pyNext_list_item hit ht (x := items[i]) (by simp [hlt]) fun h₁ hit₁ hs₁ => ?_)
    refine wpAny_bind (wpAny_holding (drawL hne n (i + 1) _ _ hit₁ (ht.extBut hs₁.extBut hne) (by omega) fun h₂ hit₂ hs₂ => wpAny_pure ?_))
    have e1 : items.toList.drop i = items[i] :: items.toList.drop (i + 1) := by simp [List.drop_eq_getElem_cons, hlt]
    have e2 := hQ h₂ (by rw [show i + (n + 1) = i + 1 + n by omega]; exact hit₂) (hs₁.trans hs₂)
    rw [e1, List.take_succ_cons] at e2
    exact e2
theorem unpackL {t : Addr} {items : Array Value} {Q : List Value → Shared → Prop} (hh : A.handled = none) (ht : s.heap.IsList t items)
    (hQ : ∀ h', Heap.ExtBut s.heap.objs.size s.heap h' → Q items.toList { s with heap := h' }) : wpAny (model prog w) A (unpackItems (.ref t) items.size none) Q E s := by
  have hlt : t ≠ s.heap.objs.size := by obtain ⟨o, ho, _⟩ := ht; exact Nat.ne_of_lt (Heap.lt_size ho)
  unfold unpackItems
  refine wpAny_bind ?_
  · unfold notIterableAtAll
    refine wpAny_bind (wpAny_specialOf ht.typeIs F.slot_list_iter.lookup ?_)
    refine wpAny_pure ?_
    simp only [Bool.false_eq_true, if_false]
    refine wpAny_bind (wpAny_holding (wpAny_pyIter_list ht ?_))
    refine wpAny_bind (wpAny_holding (drawL hlt items.size 0 _ _ ⟨_, Heap.get?_push_size _ rfl, rfl, rfl⟩ (ht.push _) (by omega) fun h₁ hit₁ hs₁ => ?_))
    have e1 : List.take items.size (List.drop 0 items.toList) = items.toList := by
      rw [List.drop_zero]; exact List.take_of_length_le (by simp)
    rw [e1, if_neg (by simp)]
    have ht₁ : h₁.IsList t items := (ht.push _).extBut hs₁.extBut hlt
    refine wpAny_bind (wpAny_holding (wpAny_pyNext_list_end hh hit₁ ht₁ (by simp) fun h₂ he₂ => ?_))
    simp only [Option.isSome_none, Bool.false_eq_true, if_false]
    exact wpAny_pure (hQ h₂ fun b o hb e => he₂ b o hb (hs₁.extBut b o hb (Heap.get?_push_of_some _ e)))
theorem assignTupL {env : PySem.Env} {elts : List Expr} {x1} {pos : Pos} {t : Addr} {items : Array Value} {Q : Unit → Shared → Prop} (hh : A.handled = none) (ht : s.heap.IsList t items)
    (hn : (assignEach elts env).length = items.size) (hstar : (assignEach elts env).findIdx? (·.1) = none)
    (h : ∀ h', Heap.ExtBut s.heap.objs.size s.heap h' → wpAny (model prog w) A (assignInOrder ((assignEach elts env).map (·.2)) items.toList) Q E { s with heap := h' }) :
    wpAny (model prog w) A (assign (.Tuple elts x1 pos) env (.ref t)) Q E s := by
  rw [arm_assign_Tuple]
  refine wpAny_bind (wpAny_standAt ?_)
  unfold unpack
  rw [hn, hstar]
  exact wpAny_bind (wpAny_holding (unpackL hh ht h))
end
/-- (a, b, ..) = a tuple or a list of that length -/
def gTupA (K : PySem.W.Frag) (n : Nat) (t : TGs) : TG := fun v σ H Q => ∃ a xs, v = .ref a ∧ (SqT K H a xs ∨ SqL K H a xs) ∧ xs.length = n ∧ t xs σ H Q
section
variable {X : Cx}
theorem pg_tupA {es : List Expr} {k : Nat} {t : TGs} {n : Nat} {pos : Pos} (hc : X.calm = true) (h : PGs X es t)
    (hn : (assignEach es X.env).length = n := by rfl) (hst : (assignEach es X.env).findIdx? (·.1) = none := by rfl) : PG X (.Tuple es k pos) (gTupA X.K n t) := by
  refine ⟨fun pins s σ H v u Q I r hw => ?_⟩
  obtain ⟨a, xs, e1, hq, hl, hw⟩ := hw
  rcases hq with hq | hq
  · exact (pg_tup hc h hn hst).run pins s σ H v u Q I r ⟨a, xs, e1, hq, hl, hw⟩
  · subst e1
    cases r
    obtain ⟨its, rv, ht, hz⟩ := I.list hq
    refine assignTupL (I.ok.hd hc) ht.isList (by simp [hn, ← hl, rv.length]) hst fun h' hx => ?_
    have I1 : Inv X pins σ H { s with heap := h' } := I.kept (t' := s.toks) fun b o e => hx b o (Nat.ne_of_lt (Heap.lt_size e)) e
    exact h.run pins _ σ H xs _ Q I1 (by simpa using rv) hw
/-- how many different ints a tuple has -/
def tLenSetT (K : PySem.W.Frag) (ta : TE) : TE := fun σ H Q => ta σ H fun x H1 => ∃ (l : Addr) (ns ks : List Int), x = .ref l ∧ SqT K H1 l (ns.map V.int) ∧ ns.length ≤ 4000 ∧ ks.Nodup ∧ (∀ k, k ∈ ks ↔ k ∈ ns) ∧ Q (.int (ks.length : Nat)) H1
theorem length_sub : ∀ {as bs : List Int}, as.Nodup → (∀ k, k ∈ as → k ∈ bs) → as.length ≤ bs.length
  | [], _, _, _ => Nat.zero_le _
  | a :: as, bs, ha, h => by
    have hm : a ∈ bs := h a (by simp)
    obtain ⟨hna, hnd⟩ := List.nodup_cons.mp ha
    have := length_sub (bs := bs.erase a) hnd fun k q => (List.mem_erase_of_ne fun (z : k = a) => hna (by rw [← z]; exact q)).mpr (h k (by simp [q]))
    rw [List.length_erase_of_mem hm] at this
    have : 0 < bs.length := List.length_pos_of_mem hm
    simp only [List.length_cons]
    omega
theorem same_length {as bs : List Int} (ha : as.Nodup) (hb : bs.Nodup) (h : ∀ k, k ∈ as ↔ k ∈ bs) : as.length = bs.length :=
  Nat.le_antisymm (length_sub ha fun k q => (h k).mp q) (length_sub hb fun k q => (h k).mpr q)
theorem pe_lenSetT {a : Expr} {ta : TE} {p p2 q pos : Pos} (hg : Gl X "len") (hm : X.mg "len" = none) (hg2 : Gl X "set") (hm2 : X.mg "set" = none) (ha : PE X a ta) (hc : X.calm = true := by rfl)
    (na : starEach [a] X.env = (false, eval a X.env) :: starEach [] X.env := by rfl) : PE X (.Call (.Name "len" p) [.Call (.Name "set" p2) [a] [] q] [] pos) (tLenSetT X.K ta) := by
  refine ⟨fun pins s σ H Q I h => ?_⟩
  refine Call_ (ld_blt I hg hm boot_len (PyProof.Rows.callWith_builtin1 (PyProof.Rows.args_cons ?_ rfl) rfl rfl))
  refine Call_ (ld_blt I hg2 hm2 boot_set ?_)
  refine PyProof.Rows.callWith_type1 (PyProof.Rows.args_cons (thn (ha.run pins s σ H _ I h) fun v s1 ⟨x, H1, I1, r1, q1⟩ => PyProof.Rows.args_nil ?_) na) na rfl
  obtain ⟨l, ns, ks, rfl, hq, hl, hnd, hks, q1⟩ := q1
  cases r1
  obtain ⟨its, r, pl, hz⟩ := I1.tuple hq
  refine call_set_tupI ns (I1.ok.hd hc) (show s1.heap.IsTuple l its.toArray from pl) (by simpa using ints_of_vals r) (by unfold scanBound; omega) fun h' tk c hS hc' hk => ?_
  refine PyProof.Rows.args_nil ?_
  obtain ⟨o, es, ep, t, ho, hex, hd, _, hn, hmem, _, hf, hsz, _⟩ := hS
  have I2 : Inv X pins σ H1 { s1 with heap := h', toks := tk } := I1.kept fun b o e => hk b o e
  have ec : es.size = ks.length := by
    rw [← Array.length_toList, ← List.length_map (f := keyOf)]
    refine same_length hn hnd fun k => ?_
    rw [← hmem k, hks k]
    simp
  have hle : ks.length ≤ 4000 := by omega
  exact call_len_set ho hex hd hf (by omega) ⟨.int (ks.length : Nat), H1, I2.tok _, ⟨_, by rw [ec]⟩, q1⟩
end
section
variable {X : Cx} {K : PySem.W.Frag} (hK : X.K = K)
include hK
theorem k_tupA {es : List Expr} {k : Nat} {t : TGs} {n : Nat} {pos : Pos} (hc : X.calm = true) (h : PGs X es t)
    (hn : (assignEach es X.env).length = n := by rfl) (hst : (assignEach es X.env).findIdx? (·.1) = none := by rfl) : PG X (.Tuple es k pos) (gTupA K n t) := hK ▸ pg_tupA hc h hn hst
theorem k_lenSet {a : Expr} {ta : TE} {p p2 q pos : Pos} (hg : Gl X "len") (hm : X.mg "len" = none) (hg2 : Gl X "set") (hm2 : X.mg "set" = none) (ha : PE X a ta) (hc : X.calm = true := by rfl)
    (na : starEach [a] X.env = (false, eval a X.env) :: starEach [] X.env := by rfl) : PE X (.Call (.Name "len" p) [.Call (.Name "set" p2) [a] [] q] [] pos) (tLenSetT K ta) := hK ▸ pe_lenSetT hg hm hg2 hm2 ha hc na
end
end Lm


namespace Lm
open PySem PySem.Spec PyProof.Rows L2
variable {c : Ct} {H H' H0 H1 H2 H3 : Hp} {O : List Addr} {σ : L2.St} {Γ Γ' Γ1 : List (Option Rs)}
variable {te ta tb tx tl : TE} {tt tu : TT} {tr : TA} {k ka kb kc : Kd} {d x y z : PyData} {i j : Int} {a b : Bool} {kv fz : Bool} {ds es : List PyData}
/-! ### zip of two tuples -/
def zipD (ds es : List PyData) : List Im := (ds.zip es).map fun p => .t [.d p.1, .d p.2]
theorem walk_zipT {K : PySem.W.Frag} {p q : Addr} {xs ys : List V} {n : Nat} (hn : n = min xs.length ys.length) : Walk (RZ.ItzT K p q) n (fun H => SqT K H p xs ∧ SqT K H q ys) (YPair (fun i => xs[i]?) (fun i => ys[i]?)) where
  goes := fun i _ hi w => ⟨xs, ys, xs[i]'(by omega), ys[i]'(by omega), w.1, w.2, List.getElem?_eq_getElem (by omega), List.getElem?_eq_getElem (by omega)⟩
  stops := fun _ w => ⟨xs, ys, w.1, w.2, by omega⟩
  yields := fun i H v H' _ w ⟨T, x, z, h1, h2, h3, h4, h5⟩ => ⟨T, x, z, h1, h2, h3, h4 xs w.1, h5 ys w.2⟩
theorem i_zipT (h : EvA c tr Γ true [.tuple ds, .tuple es]) : EvI c (RZ.iZipA c.K tr) Γ true (zipD ds es) := fun H0 O H σ e R q =>
  h H0 O H σ e _ fun vs H1 r s => by
    obtain ⟨x, y, rfl, b1, b2⟩ := (BoAll.vm s).two
    obtain ⟨p, xs, rfl, sl, al⟩ := b1.tup'
    obtain ⟨p2, ys, rfl, sl2, al2⟩ := b2.tup'
    refine ⟨p, p2, xs, ys, rfl, .inr ⟨(sqT_same mns_same sl).sq, (sqT_same mns_same sl2).sq, q _ H1 r ⟨(e.on r).j, ?_⟩⟩⟩
    have hl : (zipD ds es).length = min xs.length ys.length := by rw [al.len, al2.len]; simp [zipD]
    refine (walk_zipT hl).mono (fun H h => ⟨(h.tup (e.on r).j sl).sq, (h.tup (e.on r).j sl2).sq⟩) fun i H v H' hi g w => ?_
    obtain ⟨T, u1, u2, rfl, hT, rfl, g1, g2⟩ := w
    obtain ⟨d1, hd1, bd1⟩ := al.get g1
    obtain ⟨d2, hd2, bd2⟩ := al2.get g2
    have sm : Same H (upd H T (.tup [u1, u2])) := fun b o z => by rw [upd_ne (ne_of_none z hT)]; exact z
    refine ⟨sm, .t [.d d1, .d d2], ?_, .tup (.inl (.inl upd_same)) (.cons (.leaf (.inr ⟨rfl, bd1⟩)) (.cons (.leaf (.inr ⟨rfl, bd2⟩)) .nil))⟩
    have : (ds.zip es)[i]? = some (d1, d2) := by rw [List.getElem?_zip_eq_some]; exact ⟨hd1, hd2⟩
    simp [zipD, this]
/-! ### calls -/
theorem e_lenSet {ns ks : List Int} (h : Ev c ta Γ ka (.tuple (ns.map .int))) (hl : ns.length ≤ 4000) (hn : ks.Nodup) (hk : ∀ k, k ∈ ks ↔ k ∈ ns) : Ev c (tLenSetT c.K ta) Γ .v (.int (ks.length : Nat)) := fun H0 O H σ e Q q =>
  h H0 O H σ e _ fun v H1 r1 s1 => by
    obtain ⟨p, xs, rfl, s, al⟩ := (Res.bo e s1).tup'
    have := al.ints
    subst this
    exact ⟨p, ns, ks, rfl, s.sq, hl, hn, hk, q _ H1 r1 (.int _)⟩
/-- list * int, the list a new one -/
theorem e_rep (h : Ev c ta Γ .o (.list ds)) (hf : flatAll ds = true) (hb : Ev c tb Γ kb (.int i)) (h1 : -(2 ^ 63) ≤ i) (h2 : i < 2 ^ 63) (hl : ds.length * i.toNat ≤ 1000000) : Ev c (tOp rMulA ta tb) Γ .o (.list (List.replicate i.toNat ds).flatten) := fun H0 O H σ e Q q =>
  h H0 O H σ e _ fun v H1 r1 s1 => hb H0 O H1 σ (e.on r1) _ fun u H2 r2 s2 => by
    obtain ⟨fp, f, nd, new⟩ : Res c O H H2 v (.list ds) .o := Res.on e r1 r2 s1
    obtain ⟨p, xs, g, rfl, rfl, hp, fa⟩ := f.list'
    obtain ⟨_, al⟩ := fa.flat0 hf
    refine .inr ⟨p, i, xs, rfl, (Res.bo (e.on r1) s2).int', hp, h1, h2, by rw [al.len]; exact sizeOk hl, fun p' hp' => ?_⟩
    have sm : Same H2 (upd H2 p' (.lst (List.replicate i.toNat xs).flatten)) := fun b o z => by rw [upd_ne (ne_of_none z hp')]; exact z
    have rep : ∀ n : Nat, BoAll c H2 (List.replicate n xs).flatten (List.replicate n ds).flatten := by
      intro n
      induction n with
      | zero => exact .nil
      | succ n ih => rw [List.replicate_succ, List.replicate_succ, List.flatten_cons, List.flatten_cons]; exact al.app ih
    have fl : ∀ n : Nat, flatAll (List.replicate n ds).flatten = true := by
      intro n
      refine flatAll_mem fun d hd => ?_
      obtain ⟨l, hl, hd⟩ := List.mem_flatten.mp hd
      rw [(List.mem_replicate.mp hl).2] at hd
      exact flatAll_one hf hd
    refine q _ _ ((r1.tr r2).tr (Rr.same sm)) ⟨[p'], .lst upd_same (FoAll.leaves (fl _) ((rep _).same sm)), by simp, fun a ha => ?_⟩
    cases List.mem_singleton.mp ha
    exact (r1.tr r2).back e.jH hp'
/-! ### unpacking -/
theorem q_unp {n : Nat} {gs : TGs} {u : TS} {P : Out → Prop} (Pd : PyData → Prop) (h : EvN c te Γ k Pd)
    (p : ∀ d, Pd d → ∃ ds Γ' js, (d = .tuple ds ∨ d = .list ds) ∧ flatAll ds = true ∧ ds.length = n ∧ EvGs c gs (ds.map Im.d) Γ Γ' js ∧ Sd c u Γ' P) : Sd c (tSeq (tAsg te (gTupA c.K n gs)) u) Γ P := fun H0 O H σ D e s =>
  h H0 O H σ e _ fun v d H2 pd r rs => by
    obtain ⟨ds, Γ', js, hd, hf, hn, hg, hu⟩ := p d pd
    have e2 := e.on r
    have key : ∃ a xs, v = .ref a ∧ (SqT c.K H2 a xs ∨ SqL c.K H2 a xs) ∧ BoAll c H2 xs ds := by
      rcases hd with rfl | rfl
      · obtain ⟨a, xs, rfl, sl, al⟩ := (Res.bo e rs).tup'
        exact ⟨a, xs, rfl, .inl sl.sq, al⟩
      · obtain ⟨a, xs, rfl, _, sl, al⟩ := (Res.bo e rs).lst'
        exact ⟨a, xs, rfl, .inr sl, al⟩
    obtain ⟨a, xs, rfl, sl, al⟩ := key
    exact ⟨a, xs, rfl, sl, al.len.trans hn, hg H0 O H2 σ H2 false xs e2 e2.jH Rr.rf (fun z => nomatch z) (.ofFlat hf al) _ fun σ' e' _ => hu H0 O H2 σ' D e' s⟩
end Lm


/-! what more defs promise: allocations, orders -/
namespace Lm
open PySem PySem.Spec PyProof.Rows L2
/-- an allocation of b buckets to v variants -/
structure Alc (ns : List Int) (v b : Int) : Prop where
  len : (ns.length : Int) = v
  sum : ns.sum = b
  nn : ∀ n ∈ ns, 0 ≤ n
theorem sum_nn : ∀ {ns : List Int}, (∀ n ∈ ns, 0 ≤ n) → 0 ≤ ns.sum
  | [], _ => by simp
  | n :: ns, h => by
    have h1 := sum_nn (ns := ns) fun m hm => h m (by simp [hm])
    have h2 := h n (by simp)
    simp only [List.sum_cons]; omega
theorem le_sum : ∀ {ns : List Int}, (∀ n ∈ ns, 0 ≤ n) → ∀ m ∈ ns, m ≤ ns.sum
  | [], _, m, hm => nomatch hm
  | n :: ns, h, m, hm => by
    have h1 := sum_nn (ns := ns) fun m hm => h m (by simp [hm])
    have h2 := h n (by simp)
    simp only [List.sum_cons]
    rcases List.mem_cons.mp hm with q | q
    · rw [q]; omega
    · have := le_sum (ns := ns) (fun m hm => h m (by simp [hm])) m q
      omega
theorem Alc.le {ns : List Int} {v b : Int} (h : Alc ns v b) : ∀ n ∈ ns, n ≤ b := fun n hn => h.sum ▸ le_sum h.nn n hn
/-- the numbers from 0 to m - 1, each once -/
structure IsOrd (ns : List Int) (m : Int) : Prop where
  len : (ns.length : Int) = m
  nd : ns.Nodup
  rng : ∀ n ∈ ns, 0 ≤ n ∧ n < m
def placedI (ns os : List Int) : List Int := (upI 0 os.length).map fun i => ns.getD (os.idxOf i) 0
/-! orders: every number has its place -/
theorem nodup_inj {ns : List Int} (h : ns.Nodup) {i j : Nat} (hi : i < ns.length) (hj : j < ns.length) (e : ns[i] = ns[j]) : i = j := by
  have p := List.pairwise_iff_getElem.mp h
  rcases Nat.lt_trichotomy i j with q | q | q
  · exact absurd e (p i j hi hj q)
  · exact q
  · exact absurd e.symm (p j i hj hi q)
theorem perm_sum {as bs : List Int} (h : as.Perm bs) : as.sum = bs.sum := by
  induction h with
  | nil => rfl
  | cons x _ ih => simp [ih]
  | swap x y l => simp only [List.sum_cons]; omega
  | trans _ _ ih1 ih2 => exact ih1.trans ih2
theorem mem_upI {n : Nat} {i : Int} : i ∈ upI 0 n ↔ 0 ≤ i ∧ i < n := by
  unfold upI
  rw [List.mem_map]
  constructor
  · rintro ⟨m, hm, rfl⟩
    have := List.mem_range.mp hm
    omega
  · rintro ⟨h0, h1⟩
    exact ⟨i.toNat, List.mem_range.mpr (by omega), by omega⟩
theorem nodup_upI (n : Nat) : (upI 0 n).Nodup := by
  rw [upI0]
  exact List.Pairwise.map _ (fun a b h e => h (Int.ofNat.inj e)) List.nodup_range
theorem IsOrd.mem {ns : List Int} {m : Int} (h : IsOrd ns m) {i : Int} (h0 : 0 ≤ i) (h1 : i < m) : i ∈ ns := by
  refine Decidable.byContradiction fun hn => ?_
  have h2 : (i :: ns).length ≤ (upI 0 ns.length).length := length_sub (List.nodup_cons.mpr ⟨hn, h.nd⟩) fun k hk => by
    have hl := h.len
    rcases List.mem_cons.mp hk with q | q
    · rw [q, mem_upI]; omega
    · rw [mem_upI]; have := h.rng k q; omega
  simp [upI] at h2
  omega
theorem IsOrd.perm {ns : List Int} {m : Int} (h : IsOrd ns m) : (upI 0 ns.length).Perm ns := by
  refine (List.perm_iff_count.mpr fun i => ?_)
  by_cases q : 0 ≤ i ∧ i < (ns.length : Int)
  · rw [upI_count q.1 q.2, h.nd.count]
    rw [if_pos (h.mem q.1 (by have := h.len; omega))]
  · rw [List.count_eq_zero_of_not_mem (fun z => q (mem_upI.mp z)), List.count_eq_zero_of_not_mem (fun z => q (by have := h.rng i z; have := h.len; omega))]
theorem IsOrd.idx {ns : List Int} {m : Int} (h : IsOrd ns m) {i : Int} (h0 : 0 ≤ i) (h1 : i < m) : ∃ hj : ns.idxOf i < ns.length, ns[ns.idxOf i]? = some i ∧ ∀ n, n < ns.idxOf i → ns[n]? ≠ some i := by
  have hj : ns.idxOf i < ns.length := List.idxOf_lt_length_of_mem (h.mem h0 h1)
  refine ⟨hj, ?_, fun n hn e => ?_⟩
  · rw [List.getElem?_eq_getElem hj, List.getElem_idxOf hj]
  · have hl : n < ns.length := by omega
    have e1 : ns[n] = i := by rw [List.getElem?_eq_getElem hl] at e; exact Option.some.inj e
    have e2 : ns[ns.idxOf i] = i := List.getElem_idxOf hj
    have := nodup_inj h.nd hl hj (e1.trans e2.symm)
    omega
theorem IsOrd.idxOf_get {ns : List Int} {m : Int} (h : IsOrd ns m) {j : Nat} (hj : j < ns.length) : ns.idxOf ns[j] = j := by
  have hm : ns[j] ∈ ns := List.getElem_mem hj
  have hl : ns.idxOf ns[j] < ns.length := List.idxOf_lt_length_of_mem hm
  exact nodup_inj h.nd hl hj (List.getElem_idxOf hl)
/-- a sum over the placed is the sum over the old -/
theorem IsOrd.sums {os : List Int} {m : Int} (h : IsOrd os m) (f : Nat → Int) : ((upI 0 os.length).map fun i => f (os.idxOf i)).sum = ((List.range os.length).map f).sum := by
  have e : os.map (fun i => f (os.idxOf i)) = (List.range os.length).map f := by
    apply List.ext_getElem
    · simp
    · intro j h1 h2
      simp only [List.getElem_map, List.getElem_range]
      rw [h.idxOf_get (by simpa using h1)]
  rw [← e]
  exact perm_sum (h.perm.map _)
theorem sum_range {ns : List Int} : ((List.range ns.length).map fun j => ns.getD j 0).sum = ns.sum := by
  congr 1
  apply List.ext_getElem
  · simp
  · intro j h1 h2
    have h2' : j < ns.length := h2
    simp [List.getD_eq_getElem?_getD, List.getElem?_eq_getElem h2']
theorem IsOrd.alc {ns os : List Int} {v b : Int} (h : Alc ns v b) (o : IsOrd os v) : Alc (placedI ns os) v b := by
  have hl : os.length = ns.length := by have := h.len; have := o.len; omega
  refine ⟨?_, ?_, ?_⟩
  · simp [placedI, upI, o.len]
  · unfold placedI
    rw [o.sums fun j => ns.getD j 0, hl, sum_range, h.sum]
  · intro n hn
    obtain ⟨i, _, rfl⟩ := List.mem_map.mp hn
    rw [List.getD_eq_getElem?_getD]
    cases q : ns[os.idxOf i]? with
    | none => exact Int.le_refl _
    | some x => exact h.nn x (List.mem_of_getElem? q)
def t0 (a b : Int) : Int := if 0 > a - b then 0 else a - b
end Lm


namespace Lm
open PySem PySem.Spec PyProof.Rows L2
section
variable {c : Ct} {H H' H0 H1 H2 H3 : Hp} {O : List Addr} {σ : L2.St} {Γ Γ' Γ1 : List (Option Rs)} {te : TE} {k : Kd} {i : Int}
theorem rgV_upI (i : Int) : rgV 0 i = (upI 0 i.toNat).map V.int := by
  unfold rgV upI
  rw [List.map_map, Int.sub_zero]
  rfl
end
theorem eqvT (ns ms : List Int) : PyData.eqv (.tuple (ns.map .int)) (.tuple (ms.map .int)) = decide (ns = ms) := by
  simp only [PyData.eqv]
  exact PySem.W.ked_eqvAll ns ms
theorem shapedT (ns : List Int) : SeqAt.shaped (.tuple (ns.map .int)) = true := by
  simp [SeqAt.shaped, PyData.canLay0, PyData.canLayAll0, PyData.depth, PyData.depthAll, PySem.W.ke_canLayAll0, PySem.W.ke_depthAll]
section
variable {c : Ct} {Γ : List (Option Rs)} {ta tb : TE} {ka kb : Kd}
theorem e_neTT {ns ms : List Int} (ha : Ev c ta Γ ka (.tuple (ns.map .int))) (hb : Ev c tb Γ kb (.tuple (ms.map .int))) : Ev c (tOp (rNeA c.K) ta tb) Γ .v (.bool (!decide (ns = ms))) :=
  (e_neD ha hb (shapedT _) (shapedT _)).to (by rw [eqvT])
end
end Lm


/-! allocations: how they are made, what goes over -/
namespace Lm
open PySem PySem.Spec PyProof.Rows L2
theorem sum_set : ∀ {ns : List Int} {m : Nat} {x : Int}, m < ns.length → (ns.set m x).sum = ns.sum - ns.getD m 0 + x
  | [], _, _, h => by simp at h
  | n :: ns, 0, x, _ => by
    show x + ns.sum = (n + ns.sum) - n + x
    omega
  | n :: ns, m + 1, x, h => by
    have := sum_set (ns := ns) (m := m) (x := x) (by simpa using h)
    show n + (ns.set m x).sum = (n + ns.sum) - ns.getD m 0 + x
    omega
theorem Alc.one {ns : List Int} {v : Int} {b m : Nat} (h : Alc ns v b) (hm : m < ns.length) : Alc (ns.set m (ns.getD m 0 + 1)) v ((b + 1 : Nat) : Int) := by
  refine ⟨by rw [List.length_set]; exact h.len, ?_, fun n hn => ?_⟩
  · have := h.sum
    rw [sum_set hm]
    omega
  · rcases List.mem_or_eq_of_mem_set hn with q | q
    · exact h.nn n q
    · have : ns.getD m 0 ∈ ns := by
        rw [List.getD_eq_getElem?_getD, List.getElem?_eq_getElem hm]
        exact List.getElem_mem hm
      have := h.nn _ this
      omega
/-! ### sums over two lists at once -/
def zs (f : Int → Int → Int) (ns ms : List Int) : Int := ((List.range ns.length).map fun j => f (ns.getD j 0) (ms.getD j 0)).sum
theorem zs_cons {f : Int → Int → Int} {n m : Int} {ns ms : List Int} : zs f (n :: ns) (m :: ms) = f n m + zs f ns ms := by
  unfold zs
  rw [List.length_cons, List.range_succ_eq_map, List.map_cons, List.sum_cons, List.map_map]
  rfl
variable {ns ms ps : List Int} {v b : Int}
theorem Alc.lens (h : Alc ns v b) (g : Alc ms v b) : ns.length = ms.length := by have := h.len; have := g.len; omega
/-- a list that is filled place by place -/
structure Due (ns os due : List Int) (v : Int) (n : Nat) : Prop where
  len : (due.length : Int) = v
  got : ∀ j, j < n → due.getD (os.getD j 0).toNat 0 = ns.getD j 0
theorem gd_lt {l : List Int} {j : Nat} (h : j < l.length) : l.getD j 0 = l[j] := by
  rw [List.getD_eq_getElem?_getD, List.getElem?_eq_getElem h]
  rfl
theorem gd_mem {l : List Int} {j : Nat} (h : j < l.length) : l.getD j 0 ∈ l := by rw [gd_lt h]; exact List.getElem_mem h
variable {os due : List Int} {n : Nat}
theorem Due.step (d : Due ns os due v n) (ho : IsOrd os v) (hn : n < os.length) : Due ns os (due.set (os.getD n 0).toNat (ns.getD n 0)) v (n + 1) := by
  refine ⟨by rw [List.length_set]; exact d.len, fun j hj => ?_⟩
  have hl := d.len
  have r1 := ho.rng _ (gd_mem hn)
  have h1 : (os.getD n 0).toNat < due.length := by omega
  by_cases q : j = n
  · subst q
    rw [List.getD_eq_getElem?_getD, List.getElem?_set_self h1]
    rfl
  · have hj' : j < n := by omega
    have hjl : j < os.length := by omega
    have r2 := ho.rng _ (gd_mem hjl)
    have ne : (os.getD n 0).toNat ≠ (os.getD j 0).toNat := fun e => by
      have e2 : os.getD j 0 = os.getD n 0 := by omega
      rw [gd_lt hn, gd_lt hjl] at e2
      exact q (nodup_inj ho.nd hjl hn e2)
    rw [List.getD_eq_getElem?_getD, List.getElem?_set_ne ne, ← List.getD_eq_getElem?_getD]
    exact d.got j hj'
theorem Due.done (d : Due ns os due v os.length) (ho : IsOrd os v) : due = placedI ns os := by
  have hl := d.len
  have hol := ho.len
  apply List.ext_getElem
  · simp [placedI, upI]; omega
  · intro i h1 h2
    obtain ⟨hj, h3, _⟩ := ho.idx (i := (i : Int)) (by omega) (by omega)
    have := d.got _ hj
    have e1 : os.getD (os.idxOf (i : Int)) 0 = i := by rw [List.getD_eq_getElem?_getD, h3]; rfl
    rw [e1] at this
    have e2 : ((i : Int)).toNat = i := by omega
    rw [e2, gd_lt h1] at this
    rw [this]
    unfold placedI
    simp [upI]
theorem ixN_at {n m : Nat} {i : Int} (hi : i = (m : Int)) (h : m < n) : ixN n i = some m := by
  rw [hi]
  exact Evl.ixN_nat h
theorem at_ints {ns : List Int} {j : Nat} (h : j < ns.length) : atI (ns.map PyData.int) (j : Int) = some (.int (ns.getD j 0)) := atI_nat (by simp [h])
end Lm


/-! zip whose tuples are kept; enumerate(zip(a, b)) -/
namespace Lm
open PySem PySem.Spec PyProof.Rows L2
/-- a zip, with what it says of its last tuple -/
abbrev IsZipX (h : Heap) (z TI TO : Addr) (x : Value) (b : Bool) : Prop := h.get? z = some { cls := .type "zip", data := .fields #[x, .bool b, .bool false, .ref TI, .ref TO] }
section
variable {prog : Program} {w : World} {A : Around} {E : Value → Shared → Prop} {s : Shared} {z TI TO i1 i2 : Addr} {fp1 fp2 : List Addr} {n1 n2 i : Nat} {P1 P2 : Nat → Value → Prop} {St1 St2 : Nat → Heap → Prop} {a1 a2 : Value} {b : Bool} {x : Value}
end
section
variable {prog : Program} {w : World} {A : Around} {E : Value → Shared → Prop} {s : Shared}
end
section
variable {c : Ct} {Γ : List (Option Rs)} {tr : TA}
end
section
variable {X : Cx} {K : PySem.W.Frag} (hK : X.K = K)
include hK
end
end Lm


/-! pairs of assignments, moves, renaming and rearranging -/
namespace Lm
open PySem PySem.Spec PyProof.Rows L2
def ne1 (a b : Int) : Int := if a = b then 0 else 1
def backI (os : List Int) : List Int := (upI 0 os.length).map fun i => (os.idxOf i : Int)
variable {ns ms os : List Int} {v m b : Int}
theorem backI_len : (backI os).length = os.length := by simp [backI, upI]
theorem IsOrd.back (o : IsOrd os m) : IsOrd (backI os) m := by
  have hl := o.len
  refine ⟨by rw [backI_len]; exact hl, ?_, fun n hn => ?_⟩
  · unfold backI
    rw [List.nodup_iff_pairwise_ne, List.pairwise_map]
    refine List.Pairwise.imp_of_mem ?_ (List.nodup_iff_pairwise_ne.mp (nodup_upI os.length))
    intro a c ha hc hne e
    have a1 := mem_upI.mp ha
    have c1 := mem_upI.mp hc
    obtain ⟨_, ga, _⟩ := o.idx (i := a) a1.1 (by omega)
    obtain ⟨_, gc, _⟩ := o.idx (i := c) c1.1 (by omega)
    have e' : os.idxOf a = os.idxOf c := by omega
    rw [e', gc] at ga
    exact hne (Option.some.inj ga).symm
  · obtain ⟨i, hi, rfl⟩ := List.mem_map.mp hn
    have a1 := mem_upI.mp hi
    obtain ⟨hj, _, _⟩ := o.idx (i := i) a1.1 (by omega)
    omega
theorem countsI_len : (countsI ns v).length = v.toNat := by simp [countsI, upI]
theorem countsI_get {i : Nat} (h : (i : Int) < v) : (countsI ns v).getD i 0 = (ns.count (i : Int) : Int) := by
  unfold countsI
  rw [List.getD_eq_getElem?_getD]
  have : i < v.toNat := by omega
  simp [upI, this]
theorem Asg.alc (h : Asg ns v) (hv : 0 ≤ v) : Alc (countsI ns v) v ns.length := by
  refine ⟨by rw [countsI_len]; omega, ?_, fun n hn => ?_⟩
  · exact count_sum v.toNat ns fun n hn => by have := h.rng n hn; omega
  · obtain ⟨i, _, rfl⟩ := List.mem_map.mp hn
    omega
theorem e_neg {c : Ct} {Γ : List (Option Rs)} {te : TE} {k : Kd} {i : Int} (h : Ev c te Γ k (.int i)) : Ev c (tUn (rU fun i => .int (-i)) te) Γ .v (.int (-i)) := fun H0 O H σ e Q q =>
  h H0 O H σ e _ fun v H1 r s => ⟨i, (Res.bo e s).int', q _ H1 r (.int _)⟩
/-- a list of data that is filled place by place with ints -/
structure DueD (ns os : List Int) (due : List PyData) (v : Int) (n : Nat) : Prop where
  len : (due.length : Int) = v
  flat : ∀ d ∈ due, flatD d = true
  got : ∀ j, j < n → due[(os.getD j 0).toNat]? = some (.int (ns.getD j 0))
theorem DueD.fl {due : List PyData} {n : Nat} (d : DueD ns os due v n) : flatAll due = true := flatAll_mem d.flat
theorem DueD.step {due : List PyData} {n : Nat} (d : DueD ns os due v n) (ho : IsOrd os v) (hn : n < os.length) : DueD ns os (due.set (os.getD n 0).toNat (.int (ns.getD n 0))) v (n + 1) := by
  have hl := d.len
  have r1 := ho.rng _ (gd_mem hn)
  have h1 : (os.getD n 0).toNat < due.length := by omega
  refine ⟨by rw [List.length_set]; exact d.len, fun x hx => ?_, fun j hj => ?_⟩
  · rcases List.mem_or_eq_of_mem_set hx with q | q
    · exact d.flat x q
    · rw [q]; rfl
  by_cases q : j = n
  · subst q
    rw [List.getElem?_set_self h1]
  · have hj' : j < n := by omega
    have hjl : j < os.length := by omega
    have r2 := ho.rng _ (gd_mem hjl)
    have ne : (os.getD n 0).toNat ≠ (os.getD j 0).toNat := fun e => by
      have e2 : os.getD j 0 = os.getD n 0 := by omega
      rw [gd_lt hn, gd_lt hjl] at e2
      exact q (nodup_inj ho.nd hjl hn e2)
    rw [List.getElem?_set_ne ne]
    exact d.got j hj'
theorem DueD.done {due : List PyData} (d : DueD ns os due v os.length) (ho : IsOrd os v) : due = (placedI ns os).map .int := by
  have hl := d.len
  have hol := ho.len
  apply List.ext_getElem
  · simp [placedI, upI]; omega
  · intro i h1 h2
    obtain ⟨hj, h3, _⟩ := ho.idx (i := (i : Int)) (by omega) (by omega)
    have g := d.got _ hj
    have e1 : os.getD (os.idxOf (i : Int)) 0 = i := by rw [List.getD_eq_getElem?_getD, h3]; rfl
    rw [e1] at g
    have e2 : ((i : Int)).toNat = i := by omega
    rw [e2, List.getElem?_eq_getElem h1] at g
    rw [Option.some.inj g]
    unfold placedI
    simp [upI]
def tupI (ns : List Int) : Im := .d (.tuple (ns.map .int))
end Lm


/-! moves that are not needed -/
namespace Lm
open PySem PySem.Spec PyProof.Rows L2
/-! ### out and in -/
variable {ns ms : List Int} {v : Int}
def sp_check_variants (K : PySem.W.Frag) : Sp := spD K fun ds k d => ∃ v : Int, ds = [.int v] ∧ 1 ≤ v ∧ v ≤ 5 ∧ k = .v ∧ d = .none
/-! ### lists with drawn items, drawn places -/
section
variable {c : Ct} {Γ : List (Option Rs)} {ta tb : TE} {k ka kb : Kd} {x : PyData}
end
end Lm


/-! medians -/
namespace Lm
open PySem PySem.Spec PyProof.Rows L2
def mid3 (a b c : Int) : Int := if a ≤ b then (if b ≤ c then b else if a ≤ c then c else a) else (if a ≤ c then a else if b ≤ c then c else b)
def medI (as bs cs : List Int) : List Int := (List.range as.length).map fun i => mid3 (as.getD i 0) (bs.getD i 0) (cs.getD i 0)
variable {as bs cs : List Int}
end Lm


/-! the least churn is what goes over -/
namespace Lm
open PySem PySem.Spec PyProof.Rows L2
variable {f g h ns ms : List Int} {v : Int}
/-- all assignments of n buckets to v variants -/
def allL (v : Int) : Nat → List (List Int)
  | 0 => [[]]
  | n + 1 => (allL v n).flatMap fun r => (upI 0 v.toNat).map fun x => r ++ [x]
theorem mem_allL (hv : 0 ≤ v) : ∀ (n : Nat) (r : List Int), r ∈ allL v n ↔ r.length = n ∧ ∀ x ∈ r, 0 ≤ x ∧ x < v
  | 0, r => by
    constructor
    · intro h
      have : r = [] := by simpa [allL] using h
      subst this
      exact ⟨rfl, fun _ h => nomatch h⟩
    · rintro ⟨h, _⟩
      rw [List.eq_nil_of_length_eq_zero h]
      simp [allL]
  | n + 1, r => by
    unfold allL
    rw [List.mem_flatMap]
    constructor
    · rintro ⟨q, hq, h⟩
      obtain ⟨x, hx, rfl⟩ := List.mem_map.mp h
      obtain ⟨h1, h2⟩ := (mem_allL hv n q).mp hq
      refine ⟨by simp [h1], fun y hy => ?_⟩
      rcases List.mem_append.mp hy with w | w
      · exact h2 y w
      · rw [List.mem_singleton.mp w]
        have := mem_upI.mp hx
        omega
    · rintro ⟨h1, h2⟩
      have hne : r ≠ [] := fun z => by rw [z] at h1; simp at h1
      refine ⟨r.dropLast, (mem_allL hv n _).mpr ⟨by rw [List.length_dropLast]; omega, fun x hx => h2 x (List.dropLast_subset r hx)⟩, List.mem_map.mpr ⟨r.getLast hne, mem_upI.mpr ?_, List.dropLast_concat_getLast hne⟩⟩
      have := h2 _ (List.getLast_mem hne)
      omega
end Lm


/-! a list handed from one name to another, list.extend, tuples put together, all assignments -/
namespace Lm
open PySem PySem.Spec PyProof.Rows L2
section
variable {c : Ct} {H H' H0 H1 H2 H3 : Hp} {O : List Addr} {σ : L2.St} {Γ Γ' Γ1 : List (Option Rs)}
variable {te ta tb : TE} {k ka kb : Kd} {d : PyData} {i j : Int} {ds es : List PyData} {u : TS} {P : Out → Prop} {n m : Nat}
/-- t + u -/
theorem e_catT (ha : Ev c ta Γ .v (.tuple ds)) (hb : Ev c tb Γ .v (.tuple es)) (hl : ds.length + es.length ≤ 1000000) : Ev c (tOp (rAddA c.K) ta tb) Γ .v (.tuple (ds ++ es)) := fun H0 O H σ e Q q =>
  ha H0 O H σ e _ fun v H1 r1 s1 => hb H0 O H1 σ (e.on r1) _ fun u H2 r2 s2 => by
    have bv : Bo c (mns H2 O) v (.tuple ds) := Res.on e r1 r2 s1
    have bu : Bo c (mns H2 O) u (.tuple es) := s2
    obtain ⟨p, xs, rfl, s, al⟩ := Bo.tup' bv
    obtain ⟨p2, ys, rfl, s', al'⟩ := Bo.tup' bu
    refine .inr (.inl ⟨p, p2, xs, ys, rfl, rfl, (sqT_same mns_same s).sq, (sqT_same mns_same s').sq, by rw [al.len, al'.len]; exact sizeOk hl, fun hx => ?_, fun hx hy => ?_, fun _ _ => newTk (c := c) fun q' H3 hp sm tp => ?_⟩)
    · subst hx
      cases al
      exact q _ H2 (r1.tr r2) bu
    · subst hy
      cases al'
      exact q _ H2 (r1.tr r2) (by show Bo c (mns H2 O) _ _; rw [List.append_nil]; exact bv)
    · have r3 : Rr c H2 H3 := Rr.same sm
      have e2 := (e.on r1).on r2
      exact q _ H3 ((r1.tr r2).tr r3) (.tup (tpN_mns e2 r3 tp) ((al.app al').mono e2.j (r3.mns e2.j e2.okO)))
/-- xs.extend(a new list of flat things) -/
theorem s_ext (hx : Γ[n]? = some (some (.o (.list ds)))) (h : Ev c te Γ .o (.list es)) (hf : flatAll es = true) (hl : ds.length + es.length ≤ 1000000) (p : P (.nx (Γ.set n (some (.o (.list (ds ++ es))))))) : Sd c (tDrop (tBM c.K "list" rExtend (tVar n) (tCons te tNil))) Γ P := fun H0 O H σ D e s => by
  obtain ⟨q, xs, f, hq, hp, fa, qf, qO, _⟩ := e.write (es := ds ++ es) hx
  refine ⟨.ref q, hq, .inl ⟨rfl, xs, .inl (.inl hp)⟩, h H0 O H σ e _ fun v H2 r rs => ?_⟩
  obtain ⟨fp, fo, nd, new⟩ := rs
  obtain ⟨b, zs, g, rfl, rfl, hb, fb⟩ := fo.list'
  obtain ⟨_, bb⟩ := fb.flat0 hf
  have e2 := e.on r
  obtain ⟨q', xs', f', hq', hp', fa', qf', qO', wr⟩ := e2.write (es := ds ++ es) hx
  have : q' = q := by rw [hq] at hq'; cases hq'; rfl
  subst this
  have lx : xs'.length = ds.length := (fa'.bo fun a ha => e.okO a (qO' a ha)).len
  refine ⟨q', b, xs', zs, rfl, rfl, hp', hb, by rw [lx, bb.len]; exact sizeOk hl, s _ p O _ σ (wr (xs' ++ zs) ?_)⟩
  have := fa'.app (FoAll.leaves hf bb)
  rw [List.append_nil] at this
  exact this.up (fun _ _ s => sqT_upd hp' s) fun a ha o z => by
    have : a ≠ q' := fun w => qf' (w ▸ ha)
    rw [upd_ne this]; exact z
theorem e_min2 (ha : Ev c ta Γ ka (.int i)) (hb : Ev c tb Γ kb (.int j)) : Ev c (tCB (fun xs H Q => ∃ i j, xs = [V.int i, V.int j] ∧ Q (.int (if j < i then j else i)) H) (tCons ta (tCons tb tNil))) Γ .v (.int (if j < i then j else i)) :=
  d_cb (a_cons ha (a_cons hb a_nil)) fun H O vs Q s q => by
    obtain ⟨y, z, rfl, b1, b2⟩ := s.two
    exact ⟨i, j, by rw [b1.int', b2.int'], q _ H Rr.rf (.int _)⟩
end
abbrev tupD (r : List Int) : PyData := .tuple (r.map .int)
end Lm


/-! own lists within an own list: rows[i][j] = .. -/
namespace Lm
open PySem PySem.Spec PyProof.Rows L2
variable {c : Ct} {H H' H0 H1 H2 H3 : Hp} {O : List Addr} {σ : L2.St} {Γ Γ' Γ1 : List (Option Rs)}
theorem FoAll.nth : ∀ {xs : List V} {ds : List PyData} {f : List Addr} {i : Nat} {d : PyData}, FoAll c H xs ds f → ds[i]? = some d →
    ∃ x g pre post, xs[i]? = some x ∧ Fo c H x d g ∧ f = pre ++ (g ++ post) ∧ ∀ (H' : Hp) (x' : V) (d' : PyData) (g' : List Addr), (∀ a xs, TpN c.K H a xs → TpN c.K H' a xs) → (∀ a ∈ pre ++ post, ∀ o, H a = some o → H' a = some o) → Fo c H' x' d' g' →
      FoAll c H' (xs.set i x') (ds.set i d') (pre ++ (g' ++ post))
  | _, _, _, _, _, .nil, h => by simp at h
  | _, _, _, 0, d, .cons (v := v) (f := f) (fs := fs) a b, h => by
    have e : _ = d := Option.some.inj h
    subst e
    exact ⟨v, f, [], fs, rfl, a, rfl, fun H' x' d' g' hT hk fo => FoAll.cons (f := g') (fs := fs) fo (b.up hT fun y hy => hk y (by simpa using hy))⟩
  | _, _, _, i + 1, d, .cons (v := v) (f := f) (fs := fs) a b, h => by
    obtain ⟨x, g, pre, post, h1, h2, h3, h4⟩ := FoAll.nth (i := i) b (by simpa using h)
    refine ⟨x, g, f ++ pre, post, by simpa using h1, h2, by rw [h3, List.append_assoc], fun H' x' d' g' hT hk fo => ?_⟩
    have r := h4 H' x' d' g' hT (fun y hy o z => hk y (by simp at hy ⊢; rcases hy with w | w <;> simp [w]) o z) fo
    rw [List.append_assoc]
    exact .cons (a.up hT fun y hy => hk y (by simp [hy])) r
end Lm


/-! states, their ways -/
namespace Lm
open PySem PySem.Spec PyProof.Rows L2
section
variable {X : Cx}
end
section
variable {c : Ct} {Γ : List (Option Rs)} {te ta tb : TE} {k ka kb : Kd} {u : TS} {P : Out → Prop} {n : Nat} {i j : Int}
end
/-- a state whose ways can be counted -/
structure StOk (ns ls es : List Int) : Prop where
  len : ns.length = ls.length
  l1 : ns.length ≤ 1000
  l2 : es.length ≤ 1000
  le : ∀ p ∈ ns.zip ls, 0 ≤ p.2 ∧ p.2 ≤ p.1 ∧ p.1 ≤ 20
  nn : ∀ e ∈ es, 0 ≤ e
  sum : es.sum ≤ 20
end Lm


/-! slices of tuples; min and max of lists; sorted of lists; int of a truth; sums over three lists: what is in the middle -/
namespace Lm
open PySem PySem.Spec PyProof.Rows L2
section
variable {X : Cx} {K : PySem.W.Frag} (hK : X.K = K)
include hK
theorem k_min (hc : X.calm = true) : CallR X (.builtin "min") (rMin K) := hK ▸ cr_min hc
theorem k_max (hc : X.calm = true) : CallR X (.builtin "max") (rMax K) := hK ▸ cr_max hc
end
variable {c : Ct} {H H' H0 H1 H2 H3 : Hp} {O : List Addr} {Γ Γ' Γ1 : List (Option Rs)}
variable {te ta tb tx : TE} {tl th : TO} {k ka kb : Kd} {d x y z : PyData} {i j : Int} {a b : Bool} {ds es : List PyData}
def Eo (c : Ct) (t : TO) (Γ : List (Option Rs)) (o : Option Int) : Prop :=
  ∀ H0 O H σ, Env c H0 O H σ Γ → ∀ Q : Option Int → Hp → Prop, (∀ H2, Rr c H H2 → Q o H2) → t σ H Q
theorem o_none : Eo c tNoPart Γ none := fun H0 O H σ e Q q => q H Rr.rf
theorem o_some (h : Ev c te Γ k (.int i)) : Eo c (tPart te) Γ (some i) := fun H0 O H σ e Q q => h H0 O H σ e _ fun v H2 r s => ⟨i, (Res.bo e s).int', q H2 r⟩
def cutD {α : Type} (ds : List α) (lo hi : Option Int) : List α := (ds.drop (HT.sIx ds.length 0 lo)).take (HT.sIx ds.length ds.length hi - HT.sIx ds.length 0 lo)
theorem BoAll.cut {vs : List V} {lo hi : Option Int} (h : BoAll c H vs ds) : BoAll c H (cutV vs lo hi) (cutD ds lo hi) := by
  unfold cutV cutD
  rw [h.len]
  exact (h.drop _).take _
theorem e_sl {lo hi : Option Int} (h : Ev c te Γ .v (.tuple ds)) (h1 : Eo c tl Γ lo) (h2 : Eo c th Γ hi) : Ev c (tSl (rSlN c.K) te tl th) Γ .v (.tuple (cutD ds lo hi)) := fun H0 O H σ e Q q =>
  h H0 O H σ e _ fun v H1 r1 s1 => h1 H0 O H1 σ (e.on r1) _ fun H2 r2 => h2 H0 O H2 σ ((e.on r1).on r2) _ fun H3 r3 => by
    have r : Rr c H H3 := (r1.tr r2).tr r3
    obtain ⟨p, xs, rfl, s, al⟩ := Bo.tup' (Res.on e r1 (r2.tr r3) s1)
    refine ⟨p, xs, rfl, (sqT_same mns_same s).sq, fun w => ?_, fun _ => newTk (c := c) fun p' H4 hp sm tp => ?_⟩
    · refine q (.ref p) H3 r ?_
      have e1 : cutD ds lo hi = ds := by
        unfold cutD
        rw [← al.len, w.1, w.2, al.len]
        simp
      rw [e1]
      exact .tup s al
    · have r4 : Rr c H H4 := r.tr (Rr.same sm)
      exact q _ H4 r4 (.tup (tpN_mns e r4 tp) (al.cut.mono (e.on r).j ((Rr.same sm : Rr c H3 H4).mns (e.on r).j e.okO)))
theorem cutD_lo {α : Type} {ds : List α} {t : Nat} (h : t ≤ ds.length) : cutD ds (some (t : Int)) none = ds.drop t := by
  unfold cutD
  rw [HT.sIx_nat, HT.sIx_none, Nat.min_eq_left h]
  apply List.take_of_length_le
  simp
theorem cutD_hi {α : Type} {ds : List α} {t : Nat} (h : t ≤ ds.length) : cutD ds none (some (t : Int)) = ds.take t := by
  unfold cutD
  rw [HT.sIx_nat, HT.sIx_none, Nat.min_eq_left h]
  simp
/-! min and max of a list -/
def mnL : List Int → Int
  | [] => 0
  | [n] => n
  | n :: m :: ns => if mnL (m :: ns) < n then mnL (m :: ns) else n
theorem mnL_mem : ∀ {ns : List Int}, 0 < ns.length → mnL ns ∈ ns
  | [n], _ => by simp [mnL]
  | n :: m :: ns, _ => by
    have := mnL_mem (ns := m :: ns) (by simp)
    unfold mnL
    split
    · exact List.mem_cons_of_mem _ this
    · simp
theorem mnL_le : ∀ {ns : List Int}, ∀ y ∈ ns, mnL ns ≤ y
  | [], _, h => nomatch h
  | [n], y, h => by rw [List.mem_singleton.mp h]; exact Int.le_refl _
  | n :: m :: ns, y, h => by
    unfold mnL
    rcases List.mem_cons.mp h with q | q
    · subst q; split <;> omega
    · have := mnL_le (ns := m :: ns) y q
      split <;> omega
def mxL : List Int → Int
  | [] => 0
  | [n] => n
  | n :: m :: ns => if mxL (m :: ns) > n then mxL (m :: ns) else n
theorem mxL_mem : ∀ {ns : List Int}, 0 < ns.length → mxL ns ∈ ns
  | [n], _ => by simp [mxL]
  | n :: m :: ns, _ => by
    have := mxL_mem (ns := m :: ns) (by simp)
    unfold mxL
    split
    · exact List.mem_cons_of_mem _ this
    · simp
theorem mxL_le : ∀ {ns : List Int}, ∀ y ∈ ns, y ≤ mxL ns
  | [], _, h => nomatch h
  | [n], y, h => by rw [List.mem_singleton.mp h]; exact Int.le_refl _
  | n :: m :: ns, y, h => by
    unfold mxL
    rcases List.mem_cons.mp h with q | q
    · subst q; split <;> omega
    · have := mxL_le (ns := m :: ns) y q
      split <;> omega
theorem e_minL {ns : List Int} (h : Ev c te Γ k (.list (ns.map .int))) (hl : 0 < ns.length) : Ev c (tCB (rMin c.K) (tCons te tNil)) Γ .v (.int (mnL ns)) := fun H0 O H σ e Q q =>
  h H0 O H σ e _ fun v H1 r s => by
    obtain ⟨p, xs, rfl, _, sl, al⟩ := (Res.bo e s).lst'
    have := al.ints
    subst this
    refine ⟨p, ns, rfl, sl, hl, fun m h1 h2 => ?_⟩
    have e1 : m = mnL ns := by
      have := h2 _ (mnL_mem hl)
      have := mnL_le m h1
      omega
    rw [e1]
    exact q _ H1 r (.int _)
theorem e_maxL {ns : List Int} (h : Ev c te Γ k (.list (ns.map .int))) (hl : 0 < ns.length) : Ev c (tCB (rMax c.K) (tCons te tNil)) Γ .v (.int (mxL ns)) := fun H0 O H σ e Q q =>
  h H0 O H σ e _ fun v H1 r s => by
    obtain ⟨p, xs, rfl, _, sl, al⟩ := (Res.bo e s).lst'
    have := al.ints
    subst this
    refine ⟨p, ns, rfl, sl, hl, fun m h1 h2 => ?_⟩
    have e1 : m = mxL ns := by
      have := h2 _ (mxL_mem hl)
      have := mxL_le m h1
      omega
    rw [e1]
    exact q _ H1 r (.int _)
/-- what is over -/
def suI (as bs cs : List Int) : Int := (medI as bs cs).sum - as.sum
def exI (as bs cs : List Int) : Int := if 0 > suI as bs cs then 0 else suI as bs cs
/-! sums over three lists -/
def z3 (F : Int → Int → Int → Int) (as bs cs : List Int) : Int := ((List.range as.length).map fun j => F (as.getD j 0) (bs.getD j 0) (cs.getD j 0)).sum
variable {F : Int → Int → Int → Int} {as bs cs as' bs' cs' : List Int}
variable {f g h : List Int} {v m : Int}
end Lm


/-! states, what can come next, and the ways on: the least changes -/
namespace Lm
open PySem PySem.Spec PyProof.Rows L2
abbrev gI (l : List Int) (i : Int) : Int := l.getD i.toNat 0
structure S3 where
  c : List Int
  l : List Int
  e : List Int
/-- a state that stands before the buckets f -/
structure St (v : Int) (S : S3) (f : List Int) : Prop where
  cl : (S.c.length : Int) = v
  ll : (S.l.length : Int) = v
  el : (S.e.length : Int) = v
  cs : ∀ i, 0 ≤ i ∧ i < v → gI S.c i = f.count i
  ls : ∀ i, 0 ≤ i ∧ i < v → 0 ≤ gI S.l i ∧ gI S.l i ≤ f.count i
  es : ∀ i, 0 ≤ i ∧ i < v → 0 ≤ gI S.e i ∧ (gI S.l i = 0 ∨ gI S.e i = 0)
  sum : S.l.sum = S.e.sum
  rng : ∀ n ∈ f, 0 ≤ n ∧ n < v
variable {v o n : Int} {S : S3} {f g : List Int}
theorem St.enn (h : St v S f) : ∀ n ∈ S.e, 0 ≤ n := fun n hn => by
  obtain ⟨k, hk, rfl⟩ := List.getElem_of_mem hn
  have := (h.es (k : Int) (by have := h.el; omega)).1
  unfold gI at this
  rw [Int.toNat_natCast, gd_lt hk] at this
  exact this
/-- a list comes before another, or is it -/
def lexLe : List Int → List Int → Prop
  | [], _ => True
  | _ :: _, [] => False
  | a :: as, b :: bs => a < b ∨ (a = b ∧ lexLe as bs)
/-! the state at the start -/
variable {as : List Int}
end Lm


/-! the choices of a bucket; the order of all assignments -/
namespace Lm
open PySem PySem.Spec PyProof.Rows L2
variable {v o n : Int} {S : S3} {f g f1 f2 g1 g2 as : List Int}
theorem St.front (h : St v S (f1 ++ o :: f2)) : St v S (o :: (f1 ++ f2)) := by
  have e : ∀ i : Int, (o :: (f1 ++ f2)).count i = (f1 ++ o :: f2).count i := fun i => by
    rw [List.count_cons, List.count_append, List.count_append, List.count_cons]; omega
  refine ⟨h.cl, h.ll, h.el, fun i hi => by rw [e]; exact h.cs i hi, fun i hi => by rw [e]; exact h.ls i hi, h.es, h.sum, fun n hn => h.rng n ?_⟩
  simp only [List.mem_cons, List.mem_append] at hn ⊢
  rcases hn with a | a | a
  · exact .inr (.inl a)
  · exact .inl a
  · exact .inr (.inr a)
theorem split_b {l : List Int} {b : Nat} (hb : b < l.length) : l = l.take b ++ l.getD b 0 :: l.drop (b + 1) := by
  have e : l.drop b = l.getD b 0 :: l.drop (b + 1) := by rw [List.drop_eq_getElem_cons hb, gd_lt hb]
  rw [← e, List.take_append_drop]
/-! the order of all assignments -/
def lexLt : List Int → List Int → Prop
  | a :: as, b :: bs => a < b ∨ (a = b ∧ lexLt as bs)
  | _, _ => False
theorem lexLt.le : ∀ {as bs : List Int}, lexLt as bs → lexLe as bs
  | [], _, _ => trivial
  | _ :: _, [], h => h.elim
  | a :: as, b :: bs, h => by
    unfold lexLt at h
    unfold lexLe
    rcases h with h | ⟨e, h⟩
    · exact .inl h
    · exact .inr ⟨e, h.le⟩
end Lm


/-! lists put together; promises about states, choices, and the least changes gone through -/
namespace Lm
open PySem PySem.Spec PyProof.Rows L2
section
variable {c : Ct} {H H' H0 H1 H2 H3 : Hp} {O : List Addr} {Γ Γ' Γ1 : List (Option Rs)}
variable {te ta tb tx : TE} {k ka kb : Kd} {d x y z : PyData} {i j : Int} {ds es : List PyData}
theorem flatAll_app (h : flatAll ds = true) (g : flatAll es = true) : flatAll (ds ++ es) = true := flatAll_mem fun d hd => by
  rcases List.mem_append.mp hd with w | w
  · exact flatAll_one h w
  · exact flatAll_one g w
end
theorem i_rows {c : Ct} {Γ : List (Option Rs)} {tl : TE} {k : Kd} {l : List (List Int)} (h : Ev c tl Γ k (.list (l.map tupD))) (hk : k ≠ .b) : EvI c (iSeq c.K tl) Γ true (l.map tupI) := by
  have := i_seqL h hk
  rwa [List.map_map] at this
variable {v o n : Int} {S : S3} {f g as : List Int}
theorem St.at (h : St v S f) {b : Nat} (hb : b < f.length) : St v S (f.getD b 0 :: (f.take b ++ f.drop (b + 1))) := by
  have h' : St v S (f.take b ++ f.getD b 0 :: f.drop (b + 1)) := split_b hb ▸ h
  exact h'.front
end Lm


/-! list.index, list.count, in: over data; the first change and its promises -/
namespace L2
open PySem PySem.Spec PyProof.Rows
section
variable {X : Cx}
end
end L2
namespace Lm
open PySem PySem.Spec PyProof.Rows L2
section
variable {X : Cx} {K : PySem.W.Frag} (hK : X.K = K)
include hK
theorem k_lindex (hu : X.A.units + 65 < cLine) : MtR X "list.index" (rIndexD K) := hK ▸ mt_indexD hu
end
theorem rUnits5 {k : Nat} {A : Around} (hr : Room k A) : A.units + 65 < cLine := by have := hr.un; omega
section
variable {c : Ct} {H H' H0 H1 H2 H3 : Hp} {O : List Addr} {Γ Γ' Γ1 : List (Option Rs)}
variable {te ta tb tx : TE} {tr : TA} {k ka kb : Kd} {d x y z : PyData} {i j : Int} {ds es : List PyData}
end
/-! promises -/
variable {v o n : Int} {S : S3} {f g as : List Int}
end Lm
namespace Lm
open PySem PySem.Spec PyProof.Rows L2
end Lm
namespace Lm
open PySem PySem.Spec PyProof.Rows L2
variable {c : Ct} {Γ : List (Option Rs)} {ta tb : TE} {ka kb : Kd}
end Lm


/-! all ways on: by number, their numbers, the next one -/
namespace Lm
open PySem PySem.Spec PyProof.Rows L2
variable {v o n : Int} {S : S3} {f g : List Int}
/-! by number -/
/-! the number -/
/-! the next one -/
theorem sum_le_pt : ∀ {as bs : List Int}, as.length = bs.length → (∀ j, j < as.length → as.getD j 0 ≤ bs.getD j 0) → as.sum ≤ bs.sum
  | [], [], _, _ => Int.le_refl _
  | a :: as, b :: bs, hl, h => by
    have h0 := h 0 (by simp)
    have := sum_le_pt (as := as) (bs := bs) (by simpa using hl) fun j hj => h (j + 1) (by simpa using hj)
    rw [List.sum_cons, List.sum_cons]
    have h0' : a ≤ b := h0
    omega
  | [], _ :: _, h, _ => by simp at h
  | _ :: _, [], h, _ => by simp at h
theorem St.ok (h : St v S f) (h20 : f.length ≤ 20) (h5 : v ≤ 5) : StOk S.c S.l S.e := by
  have cl := h.cl
  have ll := h.ll
  have el := h.el
  have cg : ∀ j, j < S.c.length → S.c.getD j 0 = f.count (j : Int) := fun j hj => by
    have := h.cs (j : Int) (by omega)
    unfold gI at this
    rwa [Int.toNat_natCast] at this
  have cs : S.c.sum = f.length := by
    have e : S.c = (upI 0 v.toNat).map fun i => (f.count i : Int) := by
      apply List.ext_getElem
      · simp [upI]; omega
      · intro i h1 h2
        have := cg i h1
        rw [gd_lt h1] at this
        rw [this]
        simp [upI]
    rw [e]
    exact count_sum v.toNat f fun n hn => by have := h.rng n hn; omega
  refine ⟨by omega, by omega, by omega, fun p hp => ?_, h.enn, ?_⟩
  · obtain ⟨i, hi, rfl⟩ := List.getElem_of_mem hp
    have i1 : i < S.c.length := by simp at hi; omega
    have i2 : i < S.l.length := by omega
    rw [List.getElem_zip]
    have a1 := cg i i1
    have a2 := h.ls (i : Int) (by omega)
    unfold gI at a2
    rw [Int.toNat_natCast, gd_lt i2] at a2
    rw [gd_lt i1] at a1
    have a3 : f.count (i : Int) ≤ f.length := List.count_le_length
    show 0 ≤ S.l[i] ∧ S.l[i] ≤ S.c[i] ∧ S.c[i] ≤ 20
    omega
  · rw [← h.sum]
    have := sum_le_pt (as := S.l) (bs := S.c) (by omega) fun j hj => by
      have a2 := h.ls (j : Int) (by omega)
      unfold gI at a2
      rw [Int.toNat_natCast] at a2
      have := cg j (by omega)
      omega
    omega
end Lm


/-! promises: by number, the number, the next one -/
namespace Lm
open PySem PySem.Spec PyProof.Rows L2
section
variable {X : Cx} {K : PySem.W.Frag} (hK : X.K = K)
include hK
theorem k_tru {e : Expr} {ta : TE} (ha : PE X e ta) (he : ∀ whole, isTrue e X.env whole = (do let v ← whole; standAt e.pos; holding [v] (truthy v)) := by intro _; rfl) : PT X e (fun σ H Q => ta σ H fun x H' => ∃ k, TruV K x H' k ∧ Q k H') := hK ▸ pt_truth ha he
end
section
variable {c : Ct} {Γ Γ' Γ1 : List (Option Rs)} {te ta tb : TE} {tr : TA} {u : TS} {k ka kb : Kd} {P : Out → Prop}
theorem t_truL {ds : List PyData} (h : Ev c te Γ k (.list ds)) : EvT c (fun σ H Q => te σ H fun x H' => ∃ k, TruV c.K x H' k ∧ Q k H') Γ (!ds.isEmpty) := fun H0 O H σ e Q q =>
  h H0 O H σ e _ fun v H1 r s => by
    obtain ⟨p, xs, rfl, ok, sq, al⟩ := (Res.bo e s).lst'
    refine ⟨!xs.isEmpty, .inl ⟨xs, sq, rfl⟩, ?_⟩
    have : xs.isEmpty = ds.isEmpty := by
      have := al.len
      cases xs <;> cases ds <;> simp_all
    rw [this]
    exact q H1 r
end
variable {v o n : Int} {S : S3} {f g as : List Int}
/-! the states on the way by number -/
end Lm


/-! list(zip(a, b)), a and b tuples -/
namespace PySem.F
end PySem.F
namespace Lm
open PySem PySem.Spec PyProof.Rows L2
section
variable {prog : Program} {w : World} {A : Around} {E : Value → Shared → Prop} {s : Shared}
end
/-- a zip at its i-th turn -/
def ZAt (St1 St2 : Nat → Heap → Prop) (h : Heap) (z TI TO i1 i2 : Addr) (i : Nat) : Prop :=
  (∃ x bb, IsZipX h z TI TO x bb ∧ (x = .none ∨ ∃ T : Addr, x = rawInt T)) ∧ IsTupOf2 h TI (.ref i1) (.ref i2) ∧ (∃ a1 a2, IsTupOf2 h TO a1 a2) ∧ St1 i h ∧ St2 i h
theorem ZAt.at {St1 St2 : Nat → Heap → Prop} {h h' : Heap} {z TI TO i1 i2 a b : Addr} {i : Nat} (x : ZAt St1 St2 h z TI TO i1 i2 i) (f1 : (∀ c ∈ [i1, a], ∀ o, h.get? c = some o → h'.get? c = some o) → St1 i h → St1 i h') (f2 : (∀ c ∈ [i2, b], ∀ o, h.get? c = some o → h'.get? c = some o) → St2 i h → St2 i h') (k : ∀ c ∈ [z, TI, TO, i1, i2, a, b], ∀ o, h.get? c = some o → h'.get? c = some o) : ZAt St1 St2 h' z TI TO i1 i2 i := by
  obtain ⟨⟨x, bb, hz, hx⟩, hTI, ⟨a1, a2, hTO⟩, h1, h2⟩ := x
  exact ⟨⟨x, bb, k z (by simp) _ hz, hx⟩, k TI (by simp) _ hTI, ⟨a1, a2, k TO (by simp) _ hTO⟩, f1 (fun c hc => k c (by simp at hc ⊢; rcases hc with q | q <;> simp [q])) h1, f2 (fun c hc => k c (by simp at hc ⊢; rcases hc with q | q <;> simp [q])) h2⟩
section
variable {prog : Program} {w : World} {A : Around} {R : Result → Shared → Prop}
end
section
variable {prog : Program} {w : World} {A : Around} {E : Value → Shared → Prop} {s : Shared}
end
end Lm
namespace Lm
open PySem PySem.Spec PyProof.Rows L2
section
variable {X : Cx} {K : PySem.W.Frag} (hK : X.K = K)
include hK
end
section
variable {c : Ct} {H H' : Hp} {Γ : List (Option Rs)} {tr : TA} {ds es : List PyData} {kv : Bool}
end
end Lm


/-! slices of tuples or lists, a range kept in a name, enumerate of a new list -/
namespace Lm
open PySem PySem.Spec PyProof.Rows L2
/-- a new range object -/
def rRng1 : List V → Hp → VK → Prop := fun vs H Q => ∃ j : Int, vs = [V.int j] ∧ ∀ p, H p = none → Q (.ref p) (upd H p (.rng 0 j))
section
variable {X : Cx} {tg : Expr}
theorem cr_rng1 : CallR X (.type "range") rRng1 := by
  intro pins s σ H vs us Q I r h
  obtain ⟨j, rfl, q⟩ := h
  cases r with
  | cons ra rb =>
    cases rb
    obtain ⟨t, rfl⟩ := ra
    refine call_range_1 ⟨.ref s.heap.objs.size, upd H s.heap.objs.size (.rng 0 j), I.laid (t' := s.toks + 1 + 1) (fun b o e => Heap.get?_push_of_some _ e) (Nat.le_refl _) ?_, rfl, q _ (I.hok.fresh (Nat.le_refl _))⟩
    exact ⟨s.toks, t, s.toks + 1, Heap.get?_push_size _ rfl⟩
end
section
variable {X : Cx} {K : PySem.W.Frag} (hK : X.K = K)
include hK
end
section
variable {c : Ct} {H H' H0 H1 H2 H3 : Hp} {O : List Addr} {Γ Γ' Γ1 : List (Option Rs)}
variable {te ta tb tx : TE} {tl th : TO} {k ka kb : Kd} {d x y z : PyData} {i j : Int} {a b : Bool} {ds es : List PyData} {u : TS} {P : Out → Prop} {n : Nat} {kv : Bool} {tr : TA}
theorem i_enumLO (h : Ev c te Γ k (.list ds)) (hk : k ≠ .b) : EvI c (iEnumA c.K (tCons te tNil)) Γ true (enumI ds) := fun H0 O H σ e R q =>
  h H0 O H σ e _ fun v H1 r s => by
    obtain ⟨p, xs, rfl, kp, sl, al⟩ := (Res.frozen e r s hk).lst'
    exact ⟨p, xs, rfl, .inl ⟨mns_same.seq sl, q _ H1 r (enum_core (e.on r).j (walk_enum.mono (fun H h => h.lst kp sl) fun _ _ _ _ _ _ y => y) al (.inl rfl))⟩⟩
end
end Lm


/-! series of allocations: their steps, losses, turns -/
namespace Lm
open PySem PySem.Spec PyProof.Rows L2
def prs {α : Type} (ns : List α) : List (α × α) := ns.zip (ns.drop 1)
structure Ser (A : List (List Int)) (v b : Int) : Prop where
  l1 : 1 ≤ A.length
  l2 : A.length ≤ 10
  alc : ∀ a ∈ A, Alc a v b
  v1 : 1 ≤ v
  v5 : v ≤ 5
  b20 : b ≤ 20
variable {A : List (List Int)} {v b : Int}
theorem Ser.len (h : Ser A v b) : ∀ a ∈ A, a.length = v.toNat := fun a ha => by have := (h.alc a ha).len; omega
theorem Ser.at (h : Ser A v b) {i : Nat} (hi : i < A.length) : Alc (A.getD i []) v b := by
  have : A.getD i [] = A[i] := by simp [List.getD_eq_getElem?_getD, hi]
  rw [this]
  exact h.alc _ (List.getElem_mem hi)
end Lm


/-! series: the promises -/
namespace Lm
open PySem PySem.Spec PyProof.Rows L2
section
variable {c : Ct} {H H' H0 H1 H2 H3 : Hp} {O : List Addr} {Γ Γ' Γ1 : List (Option Rs)}
variable {te ta tb tx : TE} {k ka kb : Kd} {d x y z : PyData} {ds es : List PyData} {u : TS} {P : Out → Prop} {n : Nat}
end
theorem fl_rows (A : List (List Int)) : flatAll (A.map tupD) = true := flatAll_mem fun d hd => by
  obtain ⟨r, _, rfl⟩ := List.mem_map.mp hd
  exact flatT r
theorem at_tup {A : List (List Int)} {j : Nat} (h : j < A.length) : atI (A.map tupD) (j : Int) = some (tupD (A.getD j [])) := atI_nat (by simp [h])
end Lm
namespace Lm
open PySem PySem.Spec PyProof.Rows L2
theorem i_enumL' {c : Ct} {Γ : List (Option Rs)} {te : TE} {k : Kd} {ds : List PyData} {items : List Im} (h : Ev c te Γ k (.list ds)) (hk : k ≠ .b) (e : enumI ds = items) : EvI c (iEnumA c.K (tCons te tNil)) Γ true items := e ▸ i_enumLO h hk
end Lm
namespace Lm
open PySem PySem.Spec PyProof.Rows L2
end Lm
namespace Lm
open PySem PySem.Spec PyProof.Rows L2
theorem i_rowsT {c : Ct} {Γ : List (Option Rs)} {tl : TE} {k : Kd} {l : List (List Int)} (h : Ev c tl Γ k (.tuple (l.map tupD))) (hk : k ≠ .b) : EvI c (iSeq c.K tl) Γ true (l.map tupI) := by
  have := i_seqT h hk
  rw [List.map_map] at this
  exact this
end Lm
namespace Lm
open PySem PySem.Spec PyProof.Rows L2
end Lm


/-! lists that hold lists of one's own; any item of a list handed back; forms of any data -/
namespace Lm
open PySem PySem.Spec PyProof.Rows L2
section
variable {c : Ct} {H H' H0 H1 H2 H3 : Hp} {O : List Addr} {Γ Γ' Γ1 : List (Option Rs)}
variable {te ta tb tx : TE} {k ka kb kx : Kd} {d x y z : PyData} {ds es : List PyData} {u : TS} {P : Out → Prop} {n : Nat} {tr : TA} {i : Int}
end
/-- each value once -/
def dd : List Int → List Int
  | [] => []
  | n :: l => if n ∈ l then dd l else n :: dd l
theorem mem_dd {m : Int} : ∀ {l : List Int}, m ∈ dd l ↔ m ∈ l
  | [] => by simp [dd]
  | n :: l => by
    unfold dd
    split
    · rename_i h
      rw [mem_dd, List.mem_cons]
      exact ⟨.inr, fun w => w.elim (fun z => z ▸ h) id⟩
    · rw [List.mem_cons, List.mem_cons, mem_dd]
theorem nd_dd : ∀ {l : List Int}, (dd l).Nodup
  | [] => List.nodup_nil
  | n :: l => by
    unfold dd
    split
    · exact nd_dd
    · rename_i h
      exact List.nodup_cons.mpr ⟨fun w => h (mem_dd.mp w), nd_dd⟩
end Lm
namespace Lm
open PySem PySem.Spec PyProof.Rows L2
section
variable {c : Ct} {Γ : List (Option Rs)} {t u w : TS} {P : Out → Prop}
end
end Lm
namespace Lm
open PySem PySem.Spec PyProof.Rows L2
theorem s_seqE {c : Ct} {Γ : List (Option Rs)} {t u : TS} {P : Out → Prop} (I : List (Option Rs) → Prop) (h : Sd c t Γ (fun o => ∃ Γ3, o = .nx Γ3 ∧ I Γ3)) (hd : ∀ Γ3, I Γ3 → Sd c u Γ3 P) : Sd c (tSeq t u) Γ P :=
  s_seq h (fun _ e => by obtain ⟨Γ3, e, i⟩ := e; cases e; exact hd _ i) (fun _ _ e => by obtain ⟨_, e, _⟩ := e; cases e) (fun _ e => by obtain ⟨_, e, _⟩ := e; cases e) (fun _ e => by obtain ⟨_, e, _⟩ := e; cases e)
end Lm


/-! assignments in order of their variants; small series -/
namespace Lm
open PySem PySem.Spec PyProof.Rows L2
theorem take_one {ns : List Int} {n : Nat} (h : n < ns.length) : ns.take (n + 1) = ns.take n ++ [ns.getD n 0] := by
  rw [List.take_add_one, List.getElem?_eq_getElem h, List.getD_eq_getElem?_getD, List.getElem?_eq_getElem h]
  rfl
end Lm


/-! defs that raise: promises with a second half -/
namespace Lm
open PySem PySem.Spec PyProof.Rows L2
section
variable {P : Program} {w : World} {K : PySem.W.Frag} {mg : Str → Option Value} {base : Heap} {k : Nat} {f : Addr} {fd : FuncData} {ps : List Str} {sp : Sp} {x : Str} {CX : CXT}
/-- what never raises does so in any context -/
theorem fn_up0 (F : FnOk P w K mg base CX0 k f fd ps sp) : FnOk P w K mg base CX k f fd ps sp :=
  ⟨F.len, fun A outer s H args us vs Q E hr he hb hv hs => codeAny_mono (F.run A outer s H args us vs Q E hr he hb hv hs) fun r s' h => by
    cases r with
    | ok fl => cases fl <;> exact h
    | error e => exact False.elim h⟩
theorem cal_up0 (F : Cal P w K mg base CX0 k x ps sp) : Cal P w K mg base CX k x ps sp := by
  obtain ⟨f, fd, F1, F2⟩ := F.ok
  exact ⟨f, fd, fn_up0 F1, F2⟩
end
/-- __init__ of an exception that keeps a text at x -/
def spIni (C : Addr) (x : Str) : Sp := fun vs H Q _ => ∃ (a : Addr) (nm : Str), vs = [.ref a, .str nm] ∧ nm.length ≤ 1000 ∧ H a = some (exo a C none) ∧ ∀ dx, H dx = none → dx ≠ a → Q .non (upd (upd H dx (exd dx [(x, .str nm)])) a (exo a C (some dx)))
/-- it holds, or the name is raised -/
def spReq (C : Addr) : Sp := fun vs H Q E => ∃ (b : Bool) (nm : Str), vs = [.bl b, .str nm] ∧ nm.length ≤ 1000 ∧ (b = true → Q .non H) ∧ (b = false → ∀ dx, H dx = none → E (.ref C) (some dx) (upd H dx (.xd [("name", .str nm)])))
theorem upd_end {H : Hp} {a dx : Addr} {o o2 o3 : HO} {u : HO} (ha : H a = none) (hd : dx ≠ a) : upd (del (upd (upd (upd H a o) dx o2) a o3) a) dx u = upd H dx u := by
  funext b
  by_cases h1 : b = dx
  · subst h1; rw [upd_same, upd_same]
  · rw [upd_ne h1, upd_ne h1]
    by_cases h2 : b = a
    · subst h2; rw [del_same, ha]
    · rw [del_ne h2, upd_ne h2, upd_ne h1, upd_ne h2]
/-- raise C(e) where e is a text -/
theorem mkO_req {C : Addr} {ta : TE} {σ : L2.St} {H : Hp} {Q : XK} {nm : Str} (hz : nm.length ≤ 1000) (h : ∀ Q' : VK, Q' (.str nm) H → ta σ H Q') (q : ∀ dx, H dx = none → Q (.ref C) (some dx) (upd H dx (.xd [("name", .str nm)]))) :
    tMkO C (spIni C "name") [] (tCons ta tNil) σ H Q := by
  refine h _ ⟨by simp, fun a ha => ⟨a, nm, rfl, hz, upd_same, fun dx hdx hne => ⟨rfl, dx, [("name", .str nm)], upd_same, ?_, ?_, ?_⟩⟩⟩
  · rw [upd_ne hne, upd_same]
  · rw [upd_ne hne] at hdx; exact hdx
  · rw [upd_ne hne] at hdx
    rw [upd_end ha hne]
    exact q dx hdx
end Lm
namespace Lm
open PySem PySem.Spec PyProof.Rows L2
section
variable {P : Program} {w : World} {K : PySem.W.Frag} {mg : Str → Option Value} {base : Heap} {k : Nat} {f : Addr} {fd : FuncData} {ps : List Str} {sp : Sp}
/-- nothing gets out of it -/
theorem fn_down0 (h : ∀ vs H Q E, sp vs H Q E → sp vs H Q E0) (F : FnOk P w K mg base (L2.CX P w) k f fd ps sp) : FnOk P w K mg base CX0 k f fd ps sp :=
  ⟨F.len, fun A outer s H args us vs Q E hr he hb hv hs => codeAny_mono (F.run A outer s H args us vs Q E0 hr he hb hv (h _ _ _ _ hs)) fun r s' h => by
    cases r with
    | ok fl => cases fl <;> exact h
    | error e =>
      obtain ⟨_, _, _, _, _, _, _, _, _, _, _, _, z⟩ := h
      exact z.elim⟩
end
end Lm
namespace Lm
open PySem PySem.Spec PyProof.Rows L2
section
variable {c : Ct} {H0 : Hp} {Γ : List (Option Rs)} {te : TE} {u : TS} {k : Kd} {d : PyData} {n : Nat}
/-- a body that ends in a raise: whatever stands behind -/
def SdX (c : Ct) (H0 : Hp) (t : TS) (Γ : List (Option Rs)) : Prop := ∀ O H σ D, Env c H0 O H σ Γ → t D σ H
theorem x_drop (h : Ev c te Γ k d) (p : SdX c H0 u Γ) : SdX c H0 (tSeq (tDrop te) u) Γ := fun O H σ D e => h H0 O H σ e _ fun v H2 r q => p O H2 σ D (e.on r)
theorem x_req {K : PySem.W.Frag} {C : Addr} {nm : Str} {E : XK} (hz : nm.length ≤ 1000) (hE : ∀ dx H1, Same H0 H1 → H1 dx = some (.xd [("name", .str nm)]) → E (.ref C) (some dx) H1) (h : Ev (pc K) te Γ k (.bool false)) : SdX (pc K) H0 (tSeq (tDrop (tCall (spReq C) [] E (tCons te (tCons (tC (.str nm)) tNil)))) u) Γ := fun O H σ D e =>
  h H0 O H σ e _ fun v H1 r s => ⟨false, nm, by rw [(Res.bo e s).bl']; rfl, hz, (fun w => nomatch w), fun _ dx hdx => hE dx _ (fun a o z => by
    have z1 : H1 a = some o := (e.rH.tr r).1 a o (fun _ _ w => nomatch w) z
    rw [upd_ne (ne_of_none z1 hdx)]
    exact z1) upd_same⟩
end
end Lm


/-! __init__ of an exception class two below ValueError: super().__init__(..) and what stands behind it -/
namespace PySem.W
open PySem PySem.Calls PyProof.Rows PyProof.V PySem.Spec
theorem call_mwr {prog : Program} {w : World} {A : Around} {E : Value → Shared → Prop} {h : Heap} {g : Array GenState} {d : Drawn} {t : Nat} {os : OsState} {nm q : Str} {C N u e t0 : Addr} {bs bm bmB : List Value} {hdct : Bool} {sn : List Str} {sub : List Value} {ab : Bool} {col : Option Bool} {dd dv : Option Addr}
    {k0 k1 k2 k3 k5 : Option Value} {c2 : Value} {B newId i : String} {rest : List Value} {Q : Value → Shared → Prop} (FB : ExcBaseFacts B newId i bmB) (hC : h.get? C = some (excClassObj nm q C N bs bm hdct sn sub ab col dd k0 k1 k2 k3 k5 newId))
    (he : h.get? e = some (excObj C t0 dv c2)) (hu : h.get? u = some (kxs_mw i e)) (hz : rest.length ≤ sizeLine)
    (fin : ∀ h', (∀ b o, b ≠ e → h.get? b = some o → h'.get? b = some o) → h'.get? e = some (excObj C h.objs.size dv c2) → Q .none ⟨h', g, d, t, os⟩) : wpAny (model prog w) A (call (.ref u) rest) Q E ⟨h, g, d, t, os⟩ := by
  refine wpAny_call (codeAny_of_tree ?_)
  show wpAny _ A.in1 (callAny (.ref u) ⟨rest, []⟩) _ _ _
  simp only [callAny]
  refine wpAny_bind (wpAny_load hu ?_)
  simp only [kxs_mw, show (Value.type "method-wrapper" == Value.type "method" || Value.type "method-wrapper" == Value.type "builtin_function_or_method" || Value.type "method-wrapper" == Value.type "method-wrapper") = true by decide, if_true]
  refine KFB.if_so (by decide) ?_
  refine wpAny_bind (check_bound_init FB.toExcCallFacts hC he rfl ?_)
  refine wpAny_bind (wpAny_pure (wpAny_pure ?_))
  refine ⟨plainId_quiet FB.init.plain _, codeAny_builtin FB.initEntry ?_⟩
  exact exc_init_tree (cls := .ref C) (t0 := t0) (dv := dv) (c2 := c2) (c3 := .none) (b4 := .bool false) he hz fun h' k e' _ => fin h' k e'
end PySem.W
namespace Lm
open PySem PySem.Spec PyProof.Rows L2
/-- the context of such a def's body: the class's cell is free in it -/
def cxF (CX : CXT) (P : Program) (w : World) (K : PySem.W.Frag) (mg : Str → Option Value) (base : Heap) (N : List Str) (qual : Str) (scope : Scope) (f : Addr) (cd : Value) (cc : Addr) (A : Around) (outer : List PySem.Env) (s : Shared) (H : Hp) (E : XK) : Cx where
  prog := P
  w := w
  K := K
  mg := mg
  base := base
  A := A.deeper (PySem.W.ksEnv qual scope s.heap.objs.size f cd cc)
  N := N
  s_0 := s
  H_0 := H
  env := PySem.W.ksEnv qual scope s.heap.objs.size f cd cc
  outer := outer
  stack := PySem.W.ksEnv qual scope s.heap.objs.size f cd cc :: outer
  ex := []
  calm := true
  fn := fun _ => false
  pn := []
  xe := fun e s' => wpAny (model P w) (A.deeper (PySem.W.ksEnv qual scope s.heap.objs.size f cd cc)) (leaving (PySem.W.ksEnv qual scope s.heap.objs.size f cd cc) e) (fun _ s'' => CX outer H s E e s'') (fun e' s'' => CX outer H s E e' s'') s'
/-- its scope -/
structure IniScope (N P : List Str) (sc : Scope) : Prop where
  kind : sc.kind = .function
  co : sc.isCoroutine = false
  gen : sc.isGenerator = false
  nd : N.Nodup
  pre : N.take P.length = P
  par : ∀ x ∈ P, sc.names.lookup x = some .local
  nocell : ∀ y ∈ sc.names, y.2 ≠ .cell
  free : ∀ y ∈ sc.names, y.2 = .free → y.1 = "__class__"
  sup : sc.names.lookup ("super" : Str) = some .globalImplicit
  cls : sc.names.lookup ("__class__" : Str) = some .free
theorem lookup_mem : ∀ {l : List (Str × Value)} {x : Str} {v : Value}, (l.map (·.1)).Nodup → (x, v) ∈ l → l.lookup x = some v
  | [], _, _, _, h => nomatch h
  | (y, u) :: l, x, v, nd, h => by
    have nd' := List.nodup_cons.mp nd
    by_cases e : x = y
    · subst e
      rcases List.mem_cons.mp h with z | z
      · cases z; simp [List.lookup]
      · exact absurd (List.mem_map_of_mem (f := (·.1)) z) nd'.1
    · have e' : (x == y) = false := by simpa using e
      rcases List.mem_cons.mp h with z | z
      · cases z; exact absurd rfl e
      · simp only [List.lookup, e']
        exact lookup_mem nd'.2 z
theorem cell1 {x : Str} {c cc : Addr} (h : [(("__class__" : Str), cc)].lookup x = some c) : x = "__class__" ∧ c = cc := by
  by_cases e : x = "__class__"
  · subst e
    exact ⟨rfl, (Option.some.inj (by simpa [List.lookup] using h)).symm⟩
  · have e' : (x == ("__class__" : Str)) = false := by simpa using e
    simp [List.lookup, e'] at h
theorem inv_startF {CX : CXT} {P : Program} {w : World} {K : PySem.W.Frag} {mg : Str → Option Value} {base : Heap} {N ps : List Str} {qual : Str} {scope : Scope} {f cc : Addr} {cd : Value} {A : Around} {outer : List PySem.Env} {s : Shared} {h1 : Heap} {tk : Nat} {H : Hp} {E : XK} {us : List Value} {vs : List V} {cl : Value} {cld : Option Addr} {cv : Option Value} {csl : Array (Option Value)}
    (S : IniScope N ps scope) (hcell : K.lookup cc = some ⟨cl, cld, .cell cv, csl⟩) (hd : A.handled = none) (e0 : Env0 P w K mg base A outer s H) (hl : vs.length = ps.length) (r : Vals vs us)
    (hns : h1.Ns s.heap.objs.size (fun x => (ps.zip us).reverse.lookup x)) (hk : ∀ b o, s.heap.get? b = some o → h1.get? b = some o) :
    Inv (cxF CX P w K mg base N qual scope f cd cc A outer s H E) [] (L2.start N vs) H { s with heap := h1, toks := tk } := by
  have hpl : ps.length ≤ N.length := by have := congrArg List.length S.pre; rw [List.length_take] at this; omega
  have hb : base.get? cc = some ⟨cl, cld, .cell cv, csl⟩ := e0.mod.kin _ _ hcell
  have hs := e0.bs _ _ hb
  have noA : ∀ b : Addr, b ∉ (cxF CX P w K mg base N qual scope f cd cc A outer s H E).ex := fun b z => absurd (show b ∈ ([] : List Addr) from z) (by simp)
  refine ⟨⟨e0.mod, S.kind, rfl, rfl, Nat.le_refl _, fun y z c p q => ((cell1 p).1.trans (cell1 q).1.symm), fun y hy => ?_, fun y c z _ => (nomatch z), fun _ => hd, Around.frames_deeper e0.frames, .inr ⟨rfl, rfl⟩, fun b z => absurd z (noA b), e0.bs, e0.bsz, fun b _ _ => noA b, fun b z => absurd z (noA b), e0.funs, e0.frf⟩,
    rfl, e0.bare, Un.kept hk, ⟨_, hns, fun i y v p q z => ?_⟩, fun y c z => ?_, e0.hok.fresh (Nat.le_refl _), fun y c z => ?_, fun p hp => absurd (show p ∈ ([] : List (Addr × Obj)) from hp) (by simp), e0.hok.kept hk, ?_⟩
  · have hy : scope.names.lookup y = some .cell ∨ scope.names.lookup y = some .free := hy
    rcases hy with hy | hy
    · exact absurd rfl (S.nocell _ (PySem.mem_of_lookup hy))
    · have e := S.free _ (PySem.mem_of_lookup hy) rfl
      exact ⟨cc, by
        have e' : y = "__class__" := e
        subst e'
        show [(("__class__" : Str), cc)].lookup ("__class__" : Str) = some cc
        simp [List.lookup]⟩
  · have hi : i < vs.length := by
      unfold L2.start at q
      by_cases hi : i < vs.length
      · exact hi
      · rw [List.getElem?_append_right (by simpa using hi), List.getElem?_replicate] at q
        split at q <;> cases q
    have ha : vs[i]? = some v := by
      unfold L2.start at q
      rw [List.getElem?_append_left (by simpa using hi), List.getElem?_map] at q
      cases e : vs[i]? with
      | none => rw [e] at q; cases q
      | some a => rw [e] at q; cases q; rfl
    obtain ⟨u, hu, rv⟩ := r.get ha
    have hp : ps[i]? = some y := by
      rw [← S.pre, List.getElem?_take_of_lt (by omega)]; exact p
    have ndP : ps.Nodup := by rw [← S.pre]; exact S.nd.sublist (List.take_sublist _ _)
    have ml : (y, u) ∈ ps.zip us := by
      have : (ps.zip us)[i]? = some (y, u) := by rw [List.getElem?_zip_eq_some]; exact ⟨hp, hu⟩
      exact List.mem_of_getElem? this
    have lz : us.length = ps.length := by rw [← hl, Paired.length r]
    refine ⟨u, rv, .inl ⟨S.par y (List.mem_of_getElem? hp), lookup_mem ?_ (List.mem_reverse.mpr ml)⟩⟩
    rw [List.map_reverse, List.map_fst_zip (by omega)]
    exact (List.reverse_perm ps).nodup_iff.mpr ndP
  · obtain ⟨_, rfl⟩ := cell1 z
    exact ⟨cv, _, hk _ _ hs.1, rfl⟩
  · obtain ⟨_, rfl⟩ := cell1 z
    exact hs.2
  · unfold L2.start
    show _ = N.length
    rw [List.length_append, List.length_map, List.length_replicate]
    omega

theorem super_boot : bootBuiltins "super" = some (.type "super") := by first | rfl | decide +kernel
/-- THE RULE: super().__init__(e), then the rest of the body -/
theorem fn_super {CX : CXT} {P : Program} {w : World} {K : PySem.W.Frag} {mg : Str → Option Value} {base : Heap} {k : Nat} {f C cc cda : Addr} {name qual : Str} {params : Arguments} {scope : Scope} {dV kV doc pm ct oc : Value} {an od : Option Addr} {osl : Array (Option Value)} {N ps : List Str} {sp : Sp}
    {p0 p1 p2 p3 p4 : Pos} {e : Expr} {rest : List Stmt} {ar : Arg} {vs : Array Value} {file : Str} {tf : Tok} {ccl cl : Value} {cdd cld : Option Addr} {ccs csl : Array (Option Value)}
    (lk : K.lookup f = some ⟨oc, od, .func (PySem.W.ksFn name qual params (.Expr (.Call (.Attribute (.Call (.Name "super" p0) [] [] p1) "__init__" p2) [e] [] p3) p4 :: rest) scope dV kV doc pm an (.ref cda) ct cc), osl⟩)
    (hcd : PySem.W.codeIn K (.ref cda) qual = true) (S : IniScope N ps scope) (hp : (params.posonlyargs ++ params.args).head? = some ar) (h0 : ps[0]? = some ar.arg)
    (hcode : K.lookup cda = some ⟨ccl, cdd, .fields vs, ccs⟩) (hvs : vs[2]? = some (.str file tf)) (hfile : ((P.main.file : Str) == file) = true) (hcell : K.lookup cc = some ⟨cl, cld, .cell (some (.ref C)), csl⟩)
    (T : OexC K C) (hsuper : mg "super" = none) (hsub : PySem.W.subIn K (.ref C) (.type "ValueError") = some true) (hop : PySem.W.nsIn K cStatics "thirdparty.any" = some none)
    (hm : PySem.W.ks_superIn K C C "__init__" = some (some (.builtin "ValueError.__init__"))) (htop : (P.main.scope.names.lookup ("super" : Str)).isSome = false)
    (len : ∀ vs H Q E, sp vs H Q E → vs.length = ps.length)
    (hbody : ∀ (A : Around) (outer : List PySem.Env) (s : Shared) (H : Hp) (vs : List V) (Q : VK) (E : XK), Room k (A.deeper (PySem.W.ksEnv qual scope s.heap.objs.size f (.ref cda) cc)) → sp vs H Q E →
      ∃ (a : Addr) (ws : List V) (te : TE) (t : TS), vs = .ref a :: ws ∧ H a = some (exo a C none) ∧ PE (cxF CX P w K mg base N qual scope f (.ref cda) cc A outer s H E) e te ∧ PSs (cxF CX P w K mg base N qual scope f (.ref cda) cc A outer s H E) rest t ∧
        te (L2.start N vs) H fun _ H1 => H1 a = some (exo a C none) ∧ t { nx := fun _ H' => Q .non H', rt := Q } (L2.start N vs) H1)
    {pl : PySem.Env → Sem Bool}
    (hme : ∀ env : PySem.Env, eval (.Call (.Attribute (.Call (.Name "super" p0) [] [] p1) "__init__" p2) [e] [] p3) env = (do
      let ov ← attributeBase (.Call (.Name "super" p0) [] [] p1) "__init__" env (eval (.Call (.Name "super" p0) [] [] p1) env)
      standAt p2.atName
      let (f, first) ← holding [ov] (getMethod ov "__init__" (pl env))
      callWith p3 f first (backTo p3 (starEach [e] env)) []) := by intro env; rfl)
    (he : ∀ env : PySem.Env, starEach [e] env = [(false, eval e env)] := by intro env; rfl) :
    FnOk P w K mg base CX (k + 1) f (PySem.W.ksFn name qual params (.Expr (.Call (.Attribute (.Call (.Name "super" p0) [] [] p1) "__init__" p2) [e] [] p3) p4 :: rest) scope dV kV doc pm an (.ref cda) ct cc) ps sp := by
  refine ⟨len, fun A outer s H args us vs Q E hr e0 hb r hsp => ?_⟩
  have hl := len _ _ _ _ hsp
  have KX : K.In s.heap := e0.mod.kin.keeps fun b o e => (e0.bs b o e).1
  have lim : s.heap.NoLimit := e0.mod.nolimit.keeps fun b o e => (e0.bs b o e).1
  refine ks_codeAny_call_defAt (fd := PySem.W.ksFn name qual params (.Expr (.Call (.Attribute (.Call (.Name "super" p0) [] [] p1) "__init__" p2) [e] [] p3) p4 :: rest) scope dV kV doc pm an (.ref cda) ct cc) (binds := ps.zip us) hr.depth (KX _ _ lk) rfl lim (PySem.W.codeRec_of KX hcd) rfl hb S.nocell
    (fun y hy => S.par _ (List.of_mem_zip (a := y.1) (b := y.2) hy).1) (fun h1 hns hk => ?_) S.co S.gen S.kind
  obtain ⟨a, ws, te, t, ev, ha, hpe, hps, hq⟩ := hbody A outer s H vs Q E (hr.deeper _) hsp
  have I := inv_startF (CX := CX) (w := w) (mg := mg) (qual := qual) (f := f) (cd := .ref cda) (tk := s.toks + (ps.zip us).length) (E := E) S hcell hr.hd e0 hl r hns hk
  show PySem.wpAt (model P w) (A.deeper (PySem.W.ksEnv qual scope s.heap.objs.size f (.ref cda) cc)) (.func _ (PySem.W.ksEnv qual scope s.heap.objs.size f (.ref cda) cc)) (execs _ (PySem.W.ksEnv qual scope s.heap.objs.size f (.ref cda) cc)) _ _ _
  refine ks_wpAt_execs_cons (ks_wpAt_Expr_any (ks_wpAt_MethodCall ?_ (hme _)) I.quiet (by rfl))
  obtain ⟨t1, hoe⟩ := exo_at e0.hok ha
  obtain ⟨nm, qn, Nn, bs, bm, sn, sub, ab, col, dd, k0, k1, k2, k3, k5, hC, hbm⟩ := T.cls
  have hcl : PySem.W.clsIn K C = some { name := nm, bases := bs, mro := .ref C :: bm, ns := Nn, qualname := qn, hasDict := true, slotNames := sn, subclasses := sub, abstract := ab, collection := col, hasDel := false } := by unfold PySem.W.clsIn; rw [hC] <;> rfl
  have hmro : PySem.W.mroIn K C (.ref C) = some true := by
    unfold PySem.W.mroIn
    rw [hcl, Option.bind_some, if_neg (show ¬ (List.isEmpty (Value.ref C :: bm) = true) from Bool.false_ne_true)]
    simp
  have KI := I.kIn
  have hsf : N[0]? = some ar.arg := by
    have h1 : ps.length ≠ 0 := fun z => by rw [List.length_eq_zero_iff.mp z] at h0; cases h0
    rw [← S.pre, List.getElem?_take_of_lt (by omega)] at h0
    exact h0
  have hk0 := S.par _ (List.mem_of_getElem? h0)
  refine ks_wpAt_super_base (env := PySem.W.ksEnv qual scope s.heap.objs.size f (.ref cda) cc) S.sup S.cls (by decide) rfl (KI _ _ lk) rfl hp rfl (KI _ _ hcode) rfl hvs hfile htop ?_
  obtain ⟨mb, b1, b2⟩ := I.mod.blt
  refine PySem.W.ks_loadName_global S.kind S.sup (Calls.loadGlobal_builtin (env := PySem.W.ksEnv qual scope s.heap.objs.size f (.ref cda) cc) (I.mod.glob.keeps I.bk) hsuper (b1.keeps I.bk) ((b2 _ (by decide)).trans super_boot) ⟨rfl, ?_⟩)
  refine wpAny_loadName_free S.kind S.cls rfl ⟨_, KI _ _ hcell, rfl⟩ ?_
  obtain ⟨m, hn, hlk⟩ := I.loc
  have hself : m ar.arg = some (.ref a) := by
    obtain ⟨u, ru, l⟩ := hlk 0 ar.arg (.ref a) hsf (by rw [ev]; rfl) (.inl hk0)
    obtain rfl : u = Value.ref a := ru
    rcases l with l | ⟨l, _⟩
    · exact l.2
    · have l' : scope.names.lookup ar.arg = some .cell ∨ scope.names.lookup ar.arg = some .free := l
      rw [hk0] at l'
      rcases l' with z | z <;> cases z
  refine wpAny_loadName_local S.kind hk0 hn hself ?_
  refine ks_wpAny_isType_cls (KI _ _ hC) rfl ⟨rfl, ?_⟩
  refine ks_wpAny_call_super (KI _ _ hC) rfl (hk _ _ hoe) rfl (fun c z => by cases z) (PySem.W.looks_mroIn KI hmro) (fun h2 e2 kk2 => ?_)
  have I2 := I.kept (t' := s.toks + (ps.zip us).length) kk2
  have KI2 := I2.kIn
  have hxC : a ≠ C := fun z => by
    have := (I2.bs C _ (e0.mod.kin _ _ hC)).2
    rw [← z, ha] at this
    cases this
  have hI : PySem.W.InstAt h2 a _ C none := ⟨kk2 _ _ (hk _ _ hoe), rfl, rfl, trivial⟩
  unfold PySem.W.ks_superIn at hm
  rw [hcl] at hm
  refine PySem.W.kxs_getMethod PySem.W.kxs_ValueError e2 (PySem.W.looks_opaque KI2 hop) (l₀ := .ref C :: bm) (fun A Q E s k q => wpAny_bind ((PySem.W.looks_clsIn KI2 hcl) A _ E s k (wpAny_pure q))) rfl KI2 hm (hI.type.andThen (PySem.W.looks_subIn KI2 hsub)) hxC (by decide) ?_
  have hu : (h2.push (PySem.W.kxs_mw "ValueError.__init__" a)).get? h2.objs.size = some (PySem.W.kxs_mw "ValueError.__init__" a) := Heap.get?_push_at rfl rfl
  have I3 := I2.kept (h' := h2.push (PySem.W.kxs_mw "ValueError.__init__" a)) (t' := s.toks + (ps.zip us).length + 1) (fun b o z => Heap.get?_push_of_some _ z)
  have I4 := I3.pins_of (pins' := [(h2.objs.size, PySem.W.kxs_mw "ValueError.__init__" a)]) (fun p hp => by
    have ep : p = (h2.objs.size, PySem.W.kxs_mw "ValueError.__init__" a) := by simpa using hp
    subst ep
    refine ⟨hu, I2.hok.fresh (Nat.le_refl _), fun z => ?_, I2.nofs (Nat.le_refl _), fun v z => by cases z⟩
    have y := I2.lt
    rw [← z] at y
    exact Nat.lt_irrefl _ y)
  show PySem.wpAny _ _ (callWith p3 (.ref h2.objs.size) [] (backTo p3 (starEach [e] (PySem.W.ksEnv qual scope s.heap.objs.size f (.ref cda) cc))) []) _ _ _
  rw [he]
  refine PySem.W.kxs_callWith (i := "ValueError.__init__") (x := a) rfl (Calls.evalArgs_plain ?_)
  refine Calls.spliced_cons (thn (hpe.run _ _ _ _ _ I4 hq) fun u1 s1 ⟨x, H1, I5, r1, ea, q1⟩ => Calls.spliced_nil ⟨(I5.pin (h2.objs.size, PySem.W.kxs_mw "ValueError.__init__" a) (List.mem_append_right _ (by simp))).1, ?_⟩)
  obtain ⟨hp', g, d, tk, os⟩ := s1
  obtain ⟨t2, ho⟩ := exo_at I5.hok ea
  refine PySem.W.call_mwr F.excBase_ValueError (I5.kIn _ _ hC) ho (I5.pin (h2.objs.size, PySem.W.kxs_mw "ValueError.__init__" a) (List.mem_append_right _ (by simp))).1 (by show 1 ≤ sizeLine; rw [sizeLine_eq]; omega) (fun h' k' e' => ?_)
  have J := I5.write (t' := tk) (x := a) (e := a) (o := exo a C none) (by rw [ea]; exact True.intro) (.inl rfl) k' ⟨_, e'⟩ (exo_ok e')
  have eu : upd H1 a (exo a C none) = H1 := by
    funext b
    by_cases hb : b = a
    · rw [hb, upd_same, ea]
    · rw [upd_ne hb]
  rw [eu] at J
  have J0 := J.pins_of (pins' := []) (fun p hp => by simp at hp)
  refine wpAt_of_wpAny (wpAny_mono (hps.run [] _ _ _ _ J0 q1) (fun fl s' hs => ?_) fun e s' hs => hs)
  cases fl with
  | ret u =>
    obtain ⟨v, σ', H', J, rv, q⟩ := hs
    exact ⟨v, H', J.os, J.bare, J.base, J.hok, rv, q⟩
  | next =>
    obtain ⟨σ', H', J, q⟩ := hs
    exact ⟨V.non, H', J.os, J.bare, J.base, J.hok, rfl, q⟩
  | brk =>
    obtain ⟨_, _, _, q⟩ := hs
    exact False.elim q
  | cont =>
    obtain ⟨_, _, _, q⟩ := hs
    exact False.elim q

theorem exm_self {K : PySem.W.Frag} {C : Addr} {cd : ClassData} (xb : PySem.W.subIn K (.ref C) (.type "BaseException") = some true) (hc : PySem.W.clsIn K C = some cd) (xt : PySem.W.typeIn K (.ref C) = some (.type "type")) (hs : PySem.W.subIn K (.ref C) (.ref C) = some true) :
    PySem.W.exmOne K (.ref C) (.ref C) = some true := by
  unfold PySem.W.exmOne PySem.W.kitCls
  rw [if_pos (by rw [xb]; rfl)]
  show (if ((PySem.W.clsIn K C).isSome && PySem.W.typeIn K (.ref C) == some (.type "type")) = true then PySem.W.subIn K (.ref C) (.ref C) else none) = some true
  rw [hc, xt, hs]
  rfl
/-- what is known of an exception class that keeps a text -/
structure Exc1 (P : Program) (w : World) (K : PySem.W.Frag) (mg : Str → Option Value) (base : Heap) (cls fld : Str) (C : Addr) : Prop where
  O : OexC K C
  X : XfC K C
  hC : mg cls = some (.ref C)
  no : PySem.W.findIn K (.ref C) fld = some none
  exm : PySem.W.exmOne K (.ref C) (.ref C) = some true
  ini : ∃ fI fdI, PySem.W.findIn K (.ref C) "__init__" = some (some (.ref fI)) ∧ PySem.W.typeIn K (.ref fI) = some (.type "function") ∧ FnOk P w K mg base (L2.CX P w) 1 fI fdI ["self", fld] (spIni C fld) ∧ Binds K fdI ["self", fld] []
/-- the readings of such an __init__ -/
theorem run_ini {K : PySem.W.Frag} {C a : Addr} {pre fld nm : Str} {σ : L2.St} {H : Hp} {Q : VK} {D : Ends} (hp : pre.length ≤ 1000) (hz : nm.length ≤ 1000) (O : OexC K C) (hno : PySem.W.findIn K (.ref C) fld = some none) (s0 : σ[0]? = some (some (.ref a))) (s1 : σ[1]? = some (some (.str nm)))
    (ha : H a = some (exo a C none)) (hq : ∀ dx, H dx = none → dx ≠ a → D.nx σ (upd (upd H dx (exd dx [(fld, .str nm)])) a (exo a C (some dx)))) :
    tJs [tC (.str pre), tFmt (tVar 1)] Str.empty σ H fun out H1 => H1 a = some (exo a C none) ∧ tOst K fld (tVar 0) (tVar 1) D σ H1 := by
  have e0 : Str.empty.length = 0 := by decide
  refine ⟨pre, rfl, ?_, .str nm, s1, .inl ⟨nm, rfl, ?_, nm, rfl, ?_, ha, .str nm, s1, .ref a, s0, a, C, rfl, O, hno, .inl ⟨ha, hq⟩⟩⟩
  · rw [PySem.Str.length_append, sizeLine_eq]; omega
  · rw [sizeLine_eq]; omega
  · rw [PySem.Str.length_append, PySem.Str.length_append, sizeLine_eq]; omega
end Lm


/-! tuple * int, any int from 0 on -/
namespace L2
open PySem PySem.Spec PyProof.Rows
theorem tuple_mul1 (l : Addr) (items : Array Value) (n : Nat) (dd : Option Addr) (sl : Array (Option Value)) (u : Tok) :
    Meets (Builtin.«tuple.__mul__» ⟨[.ref l, .int 1 u], []⟩) (fun _ R s => s.heap.get? l = some { cls := .type "tuple", dict := dd, data := .seq items n, slots := sl } ∧ R (.ok (.ret (Value.ref l))) s) :=
  .of_wp fun prog w A R s h => by
    obtain ⟨hp, g, d, tk, os⟩ := s
    obtain ⟨hl, h⟩ := h
    have f1 := AutoSeq1.idx_int
    have c1 : (items.isEmpty || (1 : Int) == 1) = true := by simp
    wp_walk using wpAny_loadPart' hl
    repeat (first
      | (refine wpAny_ite_true (decide_eq_true (by rw [c1])) ?_; wp_walk using wpAny_loadPart' hl)
      | (rw [if_pos c1]; wp_walk using wpAny_loadPart' hl)
      | (refine wpAny_ite_false (decide_eq_false (by decide)) ?_; wp_walk using wpAny_loadPart' hl))
    all_goals exact ⟨_, rfl, h⟩
theorem tuple_mul0 (l : Addr) (items : Array Value) (n : Nat) (dd : Option Addr) (sl : Array (Option Value)) (u : Tok) (c1 : items.isEmpty = false) :
    Meets (Builtin.«tuple.__mul__» ⟨[.ref l, .int 0 u], []⟩) (fun _ R s => s.heap.get? l = some { cls := .type "tuple", dict := dd, data := .seq items n, slots := sl } ∧
      R (.ok (.ret (Value.ref s.heap.objs.size))) { s with heap := s.heap.push { cls := Value.type "tuple", data := Data.seq #[] }, toks := s.toks }) :=
  .of_wp fun prog w A R s h => by
    obtain ⟨hp, g, d, tk, os⟩ := s
    obtain ⟨hl, h⟩ := h
    have f1 := AutoSeq1.idx_int
    have c2 : (items.isEmpty || (0 : Int) == 1) = false := by rw [c1]; rfl
    wp_walk using wpAny_loadPart' hl
    repeat (first
      | (refine wpAny_ite_false (decide_eq_false (by rw [c2]; exact Bool.false_ne_true)) ?_; wp_walk using wpAny_loadPart' hl)
      | (rw [if_neg (by rw [c2]; exact Bool.false_ne_true)]; wp_walk using wpAny_loadPart' hl))
    all_goals exact ⟨_, rfl, h⟩
end L2
namespace Lm
open PySem PySem.Spec PyProof.Rows L2
def rRepU (K : PySem.W.Frag) : R2 := fun x y H Q => ∃ l k xs, x = .ref l ∧ y = .int k ∧ SqT K H l xs ∧ xs ≠ [] ∧ 0 ≤ k ∧ k ≤ 1000 ∧ xs.length ≤ 1000 ∧ (k = 1 → Q (.ref l) H) ∧ (k ≠ 1 → NewT H (List.replicate k.toNat xs).flatten Q)
section
variable {X : Cx}
theorem op_repU : OpR X (binaryOp .Mult) (rRepU X.K) := by
  intro pins s σ H x y v u Q I rx ry ⟨l, k, xs, ex, ey, hT, hne, h1, h2, hz, q1, q⟩
  subst ex ey
  cases rx
  obtain ⟨t, rfl⟩ := ry
  obtain ⟨us, r, ⟨⟨cls, dd, data, sl⟩, ho, hc, n, hd⟩, _⟩ := I.tuple hT
  simp only at hc hd
  subst hc hd
  have hle : us.length = xs.length := Eq.symm r.length
  have hi : us.toArray.isEmpty = false := by
    cases us with
    | nil => exact (hne (List.eq_nil_of_length_eq_zero hle.symm)).elim
    | cons _ _ => rfl
  by_cases k1 : k = 1
  · subst k1
    refine wpAny_binaryOp_repeat_ref (T := "tuple") (U := "int") (by decide) ⟨_, ho, rfl⟩ (fun s2 => typeIs_int s2 1 t) noFill_tuple_mul F.fills_int_mul F.slot_int_rmul repeat_tuple F.slot_int_index.lookup (call_meets F.slot_int_rmul (typeIs_int s 1 t) F.entry_int_rmul (F.args_int_rmul_2 _ _) (int_rmul_tuple 1 t l us.toArray n dd sl)
        ⟨ho, rfl, ⟨_, ho, rfl⟩, call_meets F.slot_tuple_mul ⟨_, ho, rfl⟩ F.entry_tuple_mul (F.args_tuple_mul_2 _ _) (tuple_mul1 l us.toArray n dd sl t) ⟨ho, ?_⟩⟩)
    exact ⟨.ref l, H, I, rfl, q1 rfl⟩
  have fin := newT (us := (List.replicate k.toNat us).flatten) I (r.rep k.toNat) (by
    rw [PyProof.Rows.lm_len_rep_flat, sizeLine_eq]
    have := Nat.mul_le_mul (show k.toNat ≤ 1000 by omega) hz
    omega) (q k1)
  by_cases k0 : k = 0
  · subst k0
    exact wpAny_binaryOp_repeat_ref (T := "tuple") (U := "int") (by decide) ⟨_, ho, rfl⟩ (fun s2 => typeIs_int s2 0 t) noFill_tuple_mul F.fills_int_mul F.slot_int_rmul repeat_tuple F.slot_int_index.lookup (call_meets F.slot_int_rmul (typeIs_int s 0 t) F.entry_int_rmul (F.args_int_rmul_2 _ _) (int_rmul_tuple 0 t l us.toArray n dd sl)
        ⟨ho, rfl, ⟨_, ho, rfl⟩, call_meets F.slot_tuple_mul ⟨_, ho, rfl⟩ F.entry_tuple_mul (F.args_tuple_mul_2 _ _) (tuple_mul0 l us.toArray n dd sl t hi) ⟨ho, fin⟩⟩)
  have sz : us.toArray.size = xs.length := by simp [hle]
  have a1 : ((xs.length : Nat) : Int) * k ≤ 1000 * k := Int.mul_le_mul_of_nonneg_right (by omega) (by omega)
  have fl : (List.foldl (fun x1 x2 => x1 ++ x2) #[] (List.replicate k.toNat us.toArray)) = (List.replicate k.toNat us).flatten.toArray := size_rep us k.toNat
  refine wpAny_binaryOp_repeat_ref (T := "tuple") (U := "int") (by decide) ⟨_, ho, rfl⟩ (fun s2 => typeIs_int s2 k t) noFill_tuple_mul F.fills_int_mul F.slot_int_rmul repeat_tuple F.slot_int_index.lookup (call_meets F.slot_int_rmul (typeIs_int s k t) F.entry_int_rmul (F.args_int_rmul_2 _ _) (int_rmul_tuple k t l us.toArray n dd sl)
        ⟨ho, rfl, ⟨_, ho, rfl⟩, call_meets F.slot_tuple_mul ⟨_, ho, rfl⟩ F.entry_tuple_mul (F.args_tuple_mul_2 _ _) (tuple_mulW l us.toArray n dd sl k t ?_ ?_ ?_ ?_ ?_ ?_) ⟨ho, ?_⟩⟩)
  · rw [decide_eq_false (by omega), decide_eq_false (by omega)]; rfl
  · rw [hi, Bool.false_or]; simpa using k1
  · rw [hi, Bool.or_false]; simp; omega
  · rw [sz]; omega
  · rw [sz]; unfold Builtin.Tuple.tupleTooMany; rw [sizeLine_eq]; simp; omega
  · rw [fl, List.size_toArray, PyProof.Rows.lm_len_rep_flat, sizeLine_eq, hle]
    have := Nat.mul_le_mul (show k.toNat ≤ 1000 by omega) hz
    omega
  · rw [fl]; exact fin
end
end Lm
namespace Lm
open PySem PySem.Spec PyProof.Rows L2
section
variable {X : Cx} {K : PySem.W.Frag} (hK : X.K = K)
include hK
theorem k_repU : OpR X (binaryOp .Mult) (rRepU K) := hK ▸ op_repU
end
section
variable {c : Ct} {Γ : List (Option Rs)} {ta tb : TE} {ka kb : Kd} {ds : List PyData} {i : Int}
/-- tuple * int -/
theorem e_repT (h : Ev c ta Γ .v (.tuple ds)) (hne : ds ≠ []) (hb : Ev c tb Γ kb (.int i)) (h1 : 0 ≤ i) (h2 : i ≤ 1000) (hl : ds.length ≤ 1000) : Ev c (tOp (rRepU c.K) ta tb) Γ .v (.tuple (List.replicate i.toNat ds).flatten) := fun H0 O H σ e Q q =>
  h H0 O H σ e _ fun v H1 r1 s1 => hb H0 O H1 σ (e.on r1) _ fun u H2 r2 s2 => by
    have b2 : Bo c (mns H2 O) v (.tuple ds) := Res.on (k := .v) e r1 r2 s1
    obtain ⟨a, xs, rfl, tp, al⟩ := b2.tup'
    have tq : SqT c.K H2 a xs := (sqT_same mns_same tp).sq
    have lx : xs.length = ds.length := al.len
    refine ⟨a, i, xs, rfl, (Res.bo (e.on r1) s2).int', tq, fun z => hne (List.eq_nil_of_length_eq_zero (by rw [← lx, z]; rfl)), h1, h2, by omega, fun z => ?_, fun _ => newTk (c := c) fun p H3 hp sm tp => ?_⟩
    · refine q _ H2 (r1.tr r2) ?_
      subst z
      have e1 : (List.replicate (1 : Int).toNat ds).flatten = ds := by simp
      rw [e1]
      exact b2
    · have r3 : Rr c H2 H3 := Rr.same sm
      have e2 := (e.on r1).on r2
      have rep : ∀ n : Nat, BoAll c (mns H2 O) (List.replicate n xs).flatten (List.replicate n ds).flatten := fun n => by
        induction n with
        | zero => exact .nil
        | succ n ih => rw [List.replicate_succ, List.replicate_succ, List.flatten_cons, List.flatten_cons]; exact al.app ih
      exact q _ H3 ((r1.tr r2).tr r3) (.tup (tpN_mns e2 r3 tp) ((rep _).mono e2.j (r3.mns e2.j e2.okO)))
end
end Lm


/-! readings that the intervals want -/
namespace Lm
open PySem PySem.Spec PyProof.Rows L2
theorem Asg.up {ns : List Int} {v w : Int} (h : Asg ns v) (hw : v ≤ w) : Asg ns w := ⟨h.len, fun n hn => ⟨(h.rng n hn).1, by have := (h.rng n hn).2; omega⟩⟩
section
variable {c : Ct} {H H' H0 H1 H2 H3 : Hp} {O : List Addr} {Γ Γ' Γ1 : List (Option Rs)}
variable {te ta tb tx ty : TE} {k ka kb kc : Kd} {d x y z : PyData}
end
end Lm


/-! all assignments of an allocation, in order; the one whose places ascend -/
namespace Lm
open PySem PySem.Spec PyProof.Rows L2
theorem nodup_sub {α : Type} [DecidableEq α] : ∀ {l m : List α}, l.Nodup → (∀ x ∈ l, x ∈ m) → l.length ≤ m.length
  | [], _, _, _ => Nat.zero_le _
  | a :: l, m, nd, h => by
    have nd' := List.nodup_cons.mp nd
    have ha := h a (by simp)
    have ih := nodup_sub (m := m.erase a) nd'.2 fun x hx => (List.mem_erase_of_ne (fun z => nd'.1 (by rw [← z]; exact hx))).mpr (h x (by simp [hx]))
    rw [List.length_erase_of_mem ha] at ih
    have := List.length_pos_of_mem ha
    simp only [List.length_cons]; omega
/-- its sorted list -/
def sortI (ns : List Int) : List Int := ns.mergeSort fun a b => decide (a ≤ b)
theorem sortI_pw (ns : List Int) : (sortI ns).Pairwise (· ≤ ·) := by
  have := List.pairwise_mergeSort (le := fun a b : Int => decide (a ≤ b)) (fun a b c h1 h2 => by simp at *; omega) (fun a b => by simp; omega) ns
  exact this.imp fun h => of_decide_eq_true h
theorem sortI_perm (ns : List Int) : (sortI ns).Perm ns := List.mergeSort_perm ..
section
variable {c : Ct} {Γ : List (Option Rs)} {te : TE} {k : Kd}
end
end Lm


/-! t[::-1] of a tuple -/
namespace HT
open PySem PySem.W PySem.Calls PyProof.Rows
end HT
namespace Lm
open PySem PySem.Spec PyProof.Rows L2
section
variable {prog : Program} {w : World} {A : Around} {E : Value → Shared → Prop} {s : Shared}
end
section
variable {c : Ct} {Γ : List (Option Rs)} {te : TE} {ds : List PyData}
end
end Lm


/-! zip of two new lists, list + list of new ones; the intervals' ends -/
namespace Lm
open PySem PySem.Spec PyProof.Rows L2
section
variable {c : Ct} {H H' H0 H1 H2 H3 : Hp} {O : List Addr} {Γ Γ' Γ1 : List (Option Rs)}
variable {te ta tb tx ty : TE} {k ka kb kc : Kd} {d x y z : PyData} {ds es : List PyData}
/-- a new list + a new list -/
theorem e_catL (ha : Ev c ta Γ .o (.list ds)) (hds : flatAll ds = true) (hb : Ev c tb Γ .o (.list es)) (hes : flatAll es = true) (hl : ds.length + es.length ≤ 1000000) : Ev c (tOp (rAddA c.K) ta tb) Γ .o (.list (ds ++ es)) := fun H0 O H σ e Q q =>
  ha H0 O H σ e _ fun v H1 r1 s1 => hb H0 O H1 σ (e.on r1) _ fun u H2 r2 s2 => by
    obtain ⟨f1, o1, n1, w1⟩ : Res c O H H2 v (.list ds) .o := Res.on e r1 r2 s1
    obtain ⟨f2, o2, n2, w2⟩ : Res c O H1 H2 u (.list es) .o := s2
    obtain ⟨p, xs, g, rfl, rfl, hp, fa⟩ := o1.list'
    obtain ⟨b, zs, g', rfl, rfl, hb', fb⟩ := o2.list'
    obtain ⟨_, al⟩ := fa.flat0 hds
    obtain ⟨_, bl⟩ := fb.flat0 hes
    refine .inr (.inr ⟨p, b, xs, zs, rfl, rfl, hp, hb', by rw [al.len, bl.len]; exact sizeOk hl, fun p' hp' => ?_⟩)
    have sm : Same H2 (upd H2 p' (.lst (xs ++ zs))) := fun b o z => by rw [upd_ne (ne_of_none z hp')]; exact z
    have r : Rr c H H2 := r1.tr r2
    exact q _ _ (r.tr (Rr.same sm)) ⟨[p'], .lst upd_same (FoAll.leaves (flatAll_app hds hes) ((al.app bl).same sm)), by simp, fun a ha => by
      cases List.mem_singleton.mp ha
      exact r.back e.jH hp'⟩
end
end Lm


/-! the first history: each step's first change is the least one -/
namespace Lm
open PySem PySem.Spec PyProof.Rows L2
variable {v b : Int} {A T : List (List Int)} {as f r : List Int} {n : Nat}
/-- rows of the allocations' sizes -/
structure Tab (T A : List (List Int)) (v b : Int) : Prop where
  ser : Ser A v b
  len : T.length = A.length
  asg : ∀ t ∈ T, Asg t v ∧ (t.length : Int) = b
theorem Tab.at (h : Tab T A v b) (hn : n < A.length) : Asg (T.getD n []) v ∧ ((T.getD n []).length : Int) = b := by
  have := h.len
  have e : T.getD n [] = T[n] := by simp [List.getD_eq_getElem?_getD, show n < T.length by omega]
  rw [e]
  exact h.asg _ (List.getElem_mem (by omega))
def tTupRn (te : L2.St → Hp → (Int → Int → Hp → Prop) → Prop) : TE := fun σ H Q => te σ H fun a z H1 => RgOk a z ∧ NewT H1 (rgV a z) Q
theorem pe_tupRn {X : Cx} {e : Expr} {te : L2.St → Hp → (Int → Int → Hp → Prop) → Prop} {p pos : Pos} (hc : X.calm = true) (hg : Gl X "tuple") (hm : X.mg "tuple" = none) (he : PRg X e te) (na : starEach [e] X.env = (false, eval e X.env) :: starEach [] X.env := by rfl) :
    PE X (.Call (.Name "tuple" p) [e] [] pos) (tTupRn te) := by
  refine ⟨fun pins s σ H Q I h => Call_ (ld_blt I hg hm boot_tuple (PyProof.Rows.callWith_type1 (args_cons (thn (he pins s σ H _ I h) fun x s1 ⟨r, a, z, t, u, v, H1, ex, hr, I1, ok, q⟩ => args_nil ?_) na) na))⟩
  obtain ⟨z1, z2, z3, z4, z5⟩ := ok
  rw [ex]
  refine call_tuple_range (n := (z - a).toNat) (I1.ok.hd hc) hr (small_one z1 z2 z3 z4) (rangeSize_nat a z) z5 fun h' tk acc hk hi => ?_
  have I2 : Inv X pins σ H1 { s1 with heap := h', toks := tk } := I1.kept hk
  have w := newT I2 (vals_rg hi) (by rw [rgV_length, sizeLine_eq]; omega) q
  rwa [Array.toArray_toList] at w
section
variable {c : Ct} {H H' H0 H1 H2 H3 : Hp} {O : List Addr} {Γ Γ' Γ1 : List (Option Rs)} {te : TE} {k : Kd} {i : Int}
/-- tuple(range(n)) -/
theorem e_tupRg (h : Ev c te Γ k (.int i)) (h0 : 0 ≤ i) (h1 : i ≤ 1000000) : Ev c (tTupRn (tRg1 te)) Γ .v (.tuple ((upI 0 i.toNat).map .int)) := fun H0 O H σ e Q q =>
  h H0 O H σ e _ fun v H1 r s => ⟨i, (Res.bo e s).int', .of_le (by decide) (by omega) (by decide) h0, newTk (c := c) fun p' H4 hp sm tp => by
    have r4 : Rr c H H4 := r.tr (Rr.same sm)
    rw [rgV_upI] at tp
    exact q _ H4 r4 (.tup (tpN_mns e r4 tp) (BoAll.ofInts _))⟩
end
/-! of lists -/
theorem find_here {p : Nat → Bool} {n m : Nat} (hn : n < m) (h : (List.range n).find? p = none) (hp : p n = true) : (List.range m).find? p = some n := by
  obtain ⟨j, rfl⟩ : ∃ j, m = n + 1 + j := ⟨m - (n + 1), by omega⟩
  have e : List.range (n + 1 + j) = List.range n ++ (n :: (List.range j).map fun i => n + 1 + i) := by
    rw [List.range_add, List.range_succ, List.append_assoc]
    rfl
  rw [e, List.find?_append, h, List.find?_cons_of_pos hp]
  rfl
end Lm


/-! itertools.combinations(range(n), k), walked -/
namespace CmbK
open PySem PySem.Spec PyProof.Rows L2
theorem mro_c : mroOf (.type "itertools.combinations") = pure [.type "itertools.combinations", .type "object"] := by rw [mroOf_type]; kernel_rfl
theorem new_c : typeLookup (.type "itertools.combinations") "__new__" = pure (some (.builtin "itertools.combinations.__new__")) := by rw [typeLookup_type, builtinLookup_eq_fast]; kernel_rfl
theorem init_c : Slot "itertools.combinations" "__init__" "object.__init__" :=
  .of (owner := "object") (n := "__init__") (by rw [typeLookup_type, builtinLookup_eq_fast]; kernel_rfl) (by decide +kernel) (by decide +kernel) (by decide +kernel) (by first | exact .inl (by decide +kernel) | exact .inr (by decide +kernel)) (by rw [isSubtype_type]; kernel_rfl)
theorem sub_c : isSubtype (.type "itertools.combinations") (.type "itertools.combinations") = pure true := by rw [isSubtype_type]; kernel_rfl
theorem called_c : TypeCalled "itertools.combinations" "itertools.combinations.__new__" "object.__init__" :=
  ⟨by decide +kernel, by decide +kernel, ⟨_, _, mro_c⟩, madeBy_type mro_c new_c (by decide +kernel), by decide +kernel, sub_c, init_c⟩
theorem tcall_c (a b : Value) : checkTypeCall "itertools.combinations" ⟨[a, b], []⟩ = pure () := by kernel_rfl
theorem ncall_c (a b : Value) : checkBuiltinCall "itertools.combinations.__new__" ⟨[.type "itertools.combinations", a, b], []⟩ = pure () := by kernel_rfl
theorem entryN_c : entryFor table "itertools.combinations.__new__" = some Builtin.«itertools.combinations.__new__» := entryFor_of_tree (by kernel_rfl)
theorem iter_c : Slot "itertools.combinations" "__iter__" "itertools.combinations.__iter__" :=
  .of (owner := "itertools.combinations") (n := "__iter__") (by rw [typeLookup_type, builtinLookup_eq_fast]; kernel_rfl) (by decide +kernel) (by decide +kernel) (by decide +kernel) (by first | exact .inl (by decide +kernel) | exact .inr (by decide +kernel)) sub_c
theorem next_c : Slot "itertools.combinations" "__next__" "itertools.combinations.__next__" :=
  .of (owner := "itertools.combinations") (n := "__next__") (by rw [typeLookup_type, builtinLookup_eq_fast]; kernel_rfl) (by decide +kernel) (by decide +kernel) (by decide +kernel) (by first | exact .inl (by decide +kernel) | exact .inr (by decide +kernel)) sub_c
theorem entryI_c : entryFor table "itertools.combinations.__iter__" = some Builtin.«dict_keyiterator.__iter__» :=
  entryFor_alias (id' := "dict_keyiterator.__iter__") (by kernel_rfl) (by first | rfl | decide +kernel | (unfold String.splitOn; simp +decide [String.splitOnAux])) (by decide +kernel) (by kernel_rfl)
theorem entryX_c : entryFor table "itertools.combinations.__next__" = some Builtin.«itertools.combinations.__next__» := entryFor_of_tree (by kernel_rfl)
theorem owner_c : Manifest.owners.lookup (String.ofList "itertools.combinations".toList.reverse.reverse) = some Manifest.sig_itertools_combinations := by kernel_rfl
theorem argsI_c (a : Value) : argsOk "itertools.combinations.__iter__" ⟨[a], []⟩ := by
  unfold argsOk; rw [signature?_of (id := "itertools.combinations.__iter__") (n := "__iter__".toList.reverse) (o := "itertools.combinations".toList.reverse) (by kernel_rfl) owner_c]; kernel_rfl
theorem argsX_c (a : Value) : argsOk "itertools.combinations.__next__" ⟨[a], []⟩ := by
  unfold argsOk; rw [signature?_of (id := "itertools.combinations.__next__") (n := "__next__".toList.reverse) (o := "itertools.combinations".toList.reverse) (by kernel_rfl) owner_c]; kernel_rfl
theorem noDict_c : typeHasDict (.type "itertools.combinations") = false := by decide +kernel
/-- the iterator: its items' tuple, 0 before the first item, 1 behind it, 2 at the end; what it handed out; the places -/
def cells (T : Addr) (st : Int) (bf : Value) (ks : List Nat) : Array Value := ([.ref T, .int st 0, bf] ++ ks.map fun (i : Nat) => Value.int i 0).toArray
abbrev IsCmb (h : Heap) (it T : Addr) (st : Int) (bf : Value) (ks : List Nat) : Prop := h.get? it = some { cls := .type "itertools.combinations", dict := none, data := .fields (cells T st bf ks), slots := #[] }
/-- the places that follow -/
def nxt (n : Nat) (ks : List Nat) : Option (List Nat) :=
  match (List.range ks.length).reverse.find? fun i => ks.getD i 0 != i + n - ks.length with
  | none => none
  | some i => some (ks.take i ++ (List.range (ks.length - i)).map (ks.getD i 0 + 1 + ·))
end CmbK


/-! itertools.combinations(range(n), k): made, its turns -/
namespace CmbK
open PySem PySem.Spec PyProof.Rows L2
theorem meets_new (r : Addr) (n : Nat) (k : Nat) (t u v tk0 : Tok) (hn : n ≤ 1000) (hk : k ≤ 1000) :
    Meets (Builtin.«itertools.combinations.__new__» ⟨[.type "itertools.combinations", .ref r, .int k tk0], []⟩)
      (fun A R s => A.handled = none ∧ IsRange s.heap r 0 n 1 t u v ∧ ∀ (h' : Heap) (tk : Nat) (acc : Array Value), (∀ b o, s.heap.get? b = some o → h'.get? b = some o) → ItemsOf (fun i v => ∃ t, v = .int (0 + i * 1) t) acc n →
        R (.ok (.ret (.ref (h'.objs.size + 1)))) { s with heap := (h'.push { cls := .type "tuple", data := .seq acc }).push { cls := .type "itertools.combinations", data := .fields (cells h'.objs.size (if n < k then 2 else 0) .none (List.range k)) }, toks := tk }) :=
  .of_wp fun prog w A R s h => by
    obtain ⟨hp, g, dd, tk, os⟩ := s
    obtain ⟨hh, hr, h⟩ := h
    have hsub := sub_c
    have hd := noDict_c
    have small : Builtin.Range.small 0 n 1 = true := small_one (by decide) (by decide) (by omega) (by omega)
    have size : Builtin.Range.rangeSize 0 n 1 = n := by rw [rangeSize_nat]; omega
    have col : ∀ {A' : Around} {E : Value → Shared → Prop} {Q : List Value → Shared → Prop}, A'.handled = none → (∀ (h' : Heap) (tk : Nat) (acc : Array Value), (∀ b o, hp.get? b = some o → h'.get? b = some o) → ItemsOf (fun i v => ∃ t, v = .int (0 + i * 1) t) acc n → Q acc.toList ⟨h', g, dd, tk, os⟩) → wpAny (model prog w) A' (collect (.ref r)) Q E ⟨hp, g, dd, tk, os⟩ :=
      fun hh' q => collect_range hh' hr small size (by omega) q
    have name : ("itertools." ++ "combinations" : String) = "itertools.combinations" := by decide
    wp_walk using @col
    rw [name]
    refine wpAny_of_eq hsub ?_
    simp only [Bool.not_true, Bool.false_eq_true, if_false]
    wp_walk using @col
    rw [if_neg (by simp only [Bool.or_eq_true, decide_eq_true_eq]; omega)]
    refine wpAny_pure ?_
    refine wpAny_bind (col hh fun h' tk' acc hk hi => ?_)
    have big : Builtin.Itertools.itTooMany (k : Int) = false := decide_eq_false (by omega)
    have sz : acc.toList.length = n := by rw [Array.length_toList]; exact hi.1
    rw [if_neg (by omega), big]
    simp only [Bool.false_eq_true, if_false]
    refine wpAny_bind (wpAny_newTuple (wpAny_pure ?_))
    refine wpAny_bind ?_
    unfold Builtin.Itertools.itNewRecord
    simp only [hd]
    simp only [Bool.not_false, if_true]
    refine wpAny_newObj_type ?_ (show Array.size _ ≤ sizeLine + 2 by rw [List.size_toArray, List.length_append, List.length_map, List.length_range, Int.toNat_natCast, sizeLine_eq]; simp only [List.length_cons, List.length_nil]; omega)
    refine wpAny_pure ⟨_, rfl, ?_⟩
    have w := h h' tk' acc hk hi
    have e1 : (h'.push { cls := .type "tuple", data := .seq acc }).objs.size = h'.objs.size + 1 := Heap.size_push ..
    rw [Array.toArray_toList, e1, Int.toNat_natCast, sz]
    exact w
end CmbK


/-! itertools.combinations: its turns -/
namespace CmbK
open PySem PySem.Spec PyProof.Rows L2
theorem cells_st (T : Addr) (st st' : Int) (bf : Value) (ks : List Nat) : (cells T st bf ks).setIfInBounds 1 (.int st' 0) = cells T st' bf ks := by
  unfold cells
  simp
theorem cells_bf (T : Addr) (st : Int) (bf bf' : Value) (ks : List Nat) : (cells T st bf ks).setIfInBounds 2 bf' = cells T st bf' ks := by
  unfold cells
  simp
theorem cells_set (T : Addr) (st : Int) (bf : Value) (ks ls : List Nat) : (cells T st bf ks).extract 0 3 ++ (ls.map fun (n : Nat) => rawInt n).toArray = cells T st bf ls := by
  unfold cells
  simp [rawInt]
/-- the items at these places -/
def picks (xs : Array Value) (ks : List Nat) : List Value := ks.map fun i => xs.getD i .none
section
variable {prog : Program} {w : World} {A : Around} {E : Value → Shared → Prop} {s : Shared} {it T : Addr} {bf : Value} {ks : List Nat} {xs : Array Value}
theorem nums_from {st : Int} {Q : List Nat → Shared → Prop} (hz : IsCmb s.heap it T st bf ks) (h : Q ks s) : wpAny (model prog w) A (Builtin.Itertools.itNumbersFrom (.ref it) 3) Q E s := by
  have key : ∀ l, l = ks → Q l s := fun l e => e ▸ h
  unfold Builtin.Itertools.itNumbersFrom
  refine wpAny_bind (wpAny_load hz (wpAny_pure (key _ ?_)))
  show List.map _ (ks.map fun (i : Nat) => Value.int i 0) = ks
  rw [List.map_map]
  conv => rhs; rw [← List.map_id ks]
  apply List.map_congr_left
  intro i _
  simp
/-- the items at the places, handed out -/
theorem hand_out {st : Int} {ls : List Nat} {Q : Value → Shared → Prop} (hz : IsCmb s.heap it T st bf ks) (hT : s.heap.IsTuple T xs) (hl : ls.length ≤ 1000)
    (hQ : ∀ h', IsCmb h' it T st (.ref s.heap.objs.size) ks → h'.get? s.heap.objs.size = some { cls := .type "tuple", data := .seq (picks xs ls).toArray } → h'.objs.size = s.heap.objs.size + 1 →
      (∀ c o, c ≠ it → s.heap.get? c = some o → h'.get? c = some o) → Q (.ref s.heap.objs.size) { s with heap := h' }) :
    wpAny (model prog w) A (newTuple (ls.map fun i => xs.getD i .none)) (fun result s1 => wpAny (model prog w) A (field (.ref it) 2 >>= fun before => setField (.ref it) 2 result >>= fun _ => letGo [before] [result] >>= fun _ => ret result) (fun fin s' => ∃ v, fin = .done (.ret v) ∧ Q v s') E s1) E s := by
  refine wpAny_newTuple ?_ (by rw [List.length_map, sizeLine_eq]; omega)
  have lt : it < s.heap.objs.size := Heap.lt_size hz
  have hz1 : IsCmb (s.heap.push { cls := .type "tuple", data := .seq (picks xs ls).toArray }) it T st bf ks := Heap.get?_push_of_some _ hz
  refine wpAny_bind (wpAny_field hz1 rfl (x := bf) rfl ?_)
  refine wpAny_bind (wpAny_setField_rec hz1 (by simp [cells]) fun h2 hz2 hs2 => ?_)
  rw [cells_bf] at hz2
  refine wpAny_bind (wpAny_letGo (wpAny_pure ⟨_, rfl, ?_⟩))
  replace hs2 : Heap.SameBut it (s.heap.push { cls := .type "tuple", data := .seq (picks xs ls).toArray }) h2 := hs2
  refine hQ h2 hz2 (hs2.extBut _ _ (Nat.ne_of_gt lt) (Heap.get?_push_size _ rfl)) (by rw [hs2.1, Heap.size_push]) fun c o ce q => hs2.extBut _ _ ce (Heap.get?_push_of_some _ q)
theorem notT {st : Int} {h : Heap} (hz : IsCmb h it T st bf ks) (hT : h.IsTuple T xs) : T ≠ it := fun e => by
  obtain ⟨o, ho, hc, _⟩ := id hT
  rw [e, hz] at ho
  cases ho
  simp at hc
/-- the first item -/
theorem turn_first {Q : Value → Shared → Prop} (hl : ks.length ≤ 1000) (hz : IsCmb s.heap it T 0 bf ks) (hT : s.heap.IsTuple T xs)
    (hQ : ∀ h', IsCmb h' it T 1 (.ref s.heap.objs.size) ks → h'.get? s.heap.objs.size = some { cls := .type "tuple", data := .seq (picks xs ks).toArray } → h'.objs.size = s.heap.objs.size + 1 →
      (∀ c o, c ≠ it → s.heap.get? c = some o → h'.get? c = some o) → Q (.ref s.heap.objs.size) { s with heap := h' }) :
    wpAny (model prog w) A (Builtin.«itertools.combinations.__next__» ⟨[.ref it], []⟩) (fun fin s' => ∃ v, fin = .done (.ret v) ∧ Q v s') E s := by
  show wpAny _ _ (field (.ref it) 0 >>= _) _ _ s
  refine wpAny_bind (wpAny_field hz rfl (x := .ref T) rfl ?_)
  show wpAny _ _ (Builtin.Itertools.itNumbersFrom (.ref it) 3 >>= _) _ _ s
  refine wpAny_bind (nums_from hz ?_)
  show wpAny _ _ (Builtin.Itertools.itIntField (.ref it) 1 >>= _) _ _ s
  refine wpAny_bind (wpAny_bind (wpAny_field hz rfl (x := .int 0 0) rfl (wpAny_pure ?_)))
  show wpAny _ _ (setField (.ref it) 1 (rawInt 1) >>= _) _ _ s
  refine wpAny_bind (wpAny_setField_rec hz (by simp [cells]) fun h1 hz1 hs1 => ?_)
  rw [show rawInt 1 = Value.int 1 0 from rfl, cells_st] at hz1
  replace hs1 : Heap.SameBut it s.heap h1 := hs1
  have hT1 : h1.IsTuple T xs := let ⟨o, ho, r⟩ := hT; ⟨o, hs1.extBut _ _ (notT hz hT) ho, r⟩
  obtain ⟨o, ho, _, n, hd⟩ := id hT1
  show wpAny _ _ ((Builtin.Itertools.itPoolItems (.ref T) >>= fun items => newTuple (ks.map fun i => items.getD i .none)) >>= _) _ _ _
  refine wpAny_bind (wpAny_bind (wpAny_bind (wpAny_seqItems ho hd (wpAny_pure ?_))))
  exact hand_out (s := { s with heap := h1 }) hz1 hT1 hl fun h2 z2 t2 n2 k2 => by
    have n1 : h1.objs.size = s.heap.objs.size := hs1.1
    replace z2 : IsCmb h2 it T 1 (.ref h1.objs.size) ks := z2
    replace t2 : h2.get? h1.objs.size = some { cls := .type "tuple", data := .seq (picks xs ks).toArray } := t2
    replace n2 : h2.objs.size = h1.objs.size + 1 := n2
    show Q (.ref h1.objs.size) { s with heap := h2 }
    rw [n1] at z2 t2 n2 ⊢
    exact hQ h2 z2 t2 n2 fun c o ce q => k2 c o ce (hs1.extBut _ _ ce q)
/-- an item behind the first one -/
theorem turn_next {Q : Value → Shared → Prop} {ls : List Nat} (hl : ls.length ≤ 1000) (hz : IsCmb s.heap it T 1 bf ks) (hT : s.heap.IsTuple T xs) (hn : nxt xs.size ks = some ls)
    (hQ : ∀ h', IsCmb h' it T 1 (.ref s.heap.objs.size) ls → h'.get? s.heap.objs.size = some { cls := .type "tuple", data := .seq (picks xs ls).toArray } → h'.objs.size = s.heap.objs.size + 1 →
      (∀ c o, c ≠ it → s.heap.get? c = some o → h'.get? c = some o) → Q (.ref s.heap.objs.size) { s with heap := h' }) :
    wpAny (model prog w) A (Builtin.«itertools.combinations.__next__» ⟨[.ref it], []⟩) (fun fin s' => ∃ v, fin = .done (.ret v) ∧ Q v s') E s := by
  show wpAny _ _ (field (.ref it) 0 >>= _) _ _ s
  refine wpAny_bind (wpAny_field hz rfl (x := .ref T) rfl ?_)
  show wpAny _ _ (Builtin.Itertools.itNumbersFrom (.ref it) 3 >>= _) _ _ s
  refine wpAny_bind (nums_from hz ?_)
  show wpAny _ _ (Builtin.Itertools.itIntField (.ref it) 1 >>= _) _ _ s
  refine wpAny_bind (wpAny_bind (wpAny_field hz rfl (x := .int 1 0) rfl (wpAny_pure ?_)))
  obtain ⟨o, ho, _, n, hd⟩ := id hT
  show wpAny _ _ (Builtin.Itertools.itPoolItems (.ref T) >>= _) _ _ s
  refine wpAny_bind (wpAny_bind (wpAny_seqItems ho hd (wpAny_pure ?_)))
  show wpAny _ _ (match nxt xs.size ks with | some next => _ | none => _) _ _ s
  rw [hn]
  show wpAny _ _ (Builtin.Itertools.itSetNumbersFrom (.ref it) 3 ls >>= _) _ _ s
  refine wpAny_bind (wpAny_updateFields hz rfl ?_ (by rw [cells_set]; simp [cells, sizeLine_eq]; omega))
  have hz1 := Heap.get?_update_self (Obj.mapFields fun fs => fs.extract 0 3 ++ (ls.map fun (n : Nat) => rawInt n).toArray) hz rfl
  have e1 : (Obj.mapFields (fun fs => fs.extract 0 3 ++ (ls.map fun (n : Nat) => rawInt n).toArray) { cls := .type "itertools.combinations", data := .fields (cells T 1 bf ks) }) = { cls := .type "itertools.combinations", dict := none, data := .fields (cells T 1 bf ls), slots := #[] } := by
    rw [← cells_set T 1 bf ks ls]
    rfl
  rw [e1] at hz1
  have sb : Heap.SameBut it s.heap (s.heap.update it (Obj.mapFields fun fs => fs.extract 0 3 ++ (ls.map fun (n : Nat) => rawInt n).toArray)) := Heap.SameBut.update ..
  generalize s.heap.update it (Obj.mapFields fun fs => fs.extract 0 3 ++ (ls.map fun (n : Nat) => rawInt n).toArray) = h1 at hz1 sb
  have hT1 : h1.IsTuple T xs := let ⟨o, ho, r⟩ := hT; ⟨o, sb.extBut _ _ (notT hz hT) ho, r⟩
  obtain ⟨o', ho', _, n', hd'⟩ := id hT1
  show wpAny _ _ ((Builtin.Itertools.itPoolItems (.ref T) >>= fun items => newTuple (ls.map fun i => items.getD i .none)) >>= _) _ _ _
  refine wpAny_bind (wpAny_bind (wpAny_bind (wpAny_seqItems ho' hd' (wpAny_pure ?_))))
  exact hand_out (s := { s with heap := h1 }) hz1 hT1 hl fun h2 z2 t2 n2 k2 => by
    have n1 : h1.objs.size = s.heap.objs.size := sb.1
    replace z2 : IsCmb h2 it T 1 (.ref h1.objs.size) ls := z2
    replace t2 : h2.get? h1.objs.size = some { cls := .type "tuple", data := .seq (picks xs ls).toArray } := t2
    replace n2 : h2.objs.size = h1.objs.size + 1 := n2
    show Q (.ref h1.objs.size) { s with heap := h2 }
    rw [n1] at z2 t2 n2 ⊢
    exact hQ h2 z2 t2 n2 fun c o ce q => k2 c o ce (sb.extBut _ _ ce q)
/-- StopIteration -/
theorem stops {Q : Fin → Shared → Prop} (hh : A.handled = none) (hE : ∀ e h', (∀ c o, s.heap.get? c = some o → h'.get? c = some o) → (∃ o, h'.get? e = some o ∧ o.cls = .type "StopIteration") → E (.ref e) { s with heap := h' }) :
    wpAny (model prog w) A (Builtin.Itertools.itStop (α := Fin)) Q E s := by
  unfold Builtin.Itertools.itStop
  refine wpAny_bind ?_
  simp only [newExc, newTuple]
  refine wpAny_bind (wpAny_newObj_type ?_ (by size_fits))
  refine wpAny_bind (m := firstArgMember _ _) (wpAny_of_eq (a := Value.none) (by first | rfl | (simp only [firstArgMember]; rfl)) ?_)
  refine wpAny_newObj_type ?_ (by size_fits)
  simp only [raiseNew]
  refine wpAny_bind (wpAny_handled ?_)
  rw [hh]
  refine wpAny_bind (wpAny_pure (wpAny_throw ?_))
  exact hE _ _ (fun c o q => Heap.get?_push_of_some _ (Heap.get?_push_of_some _ q)) ⟨_, Heap.get?_push_size _ rfl, rfl⟩
/-- at its end: behind the last item, or there never was one -/
theorem turn_end {st : Int} {Q : Fin → Shared → Prop} (hh : A.handled = none) (hz : IsCmb s.heap it T st bf ks) (hT : s.heap.IsTuple T xs) (hn : (st = 1 ∧ nxt xs.size ks = none) ∨ st = 2)
    (hE : ∀ e h', (∀ c o, c ≠ it → s.heap.get? c = some o → h'.get? c = some o) → (∃ o, h'.get? e = some o ∧ o.cls = .type "StopIteration") → E (.ref e) { s with heap := h' }) :
    wpAny (model prog w) A (Builtin.«itertools.combinations.__next__» ⟨[.ref it], []⟩) Q E s := by
  show wpAny _ _ (field (.ref it) 0 >>= _) _ _ s
  refine wpAny_bind (wpAny_field hz rfl (x := .ref T) rfl ?_)
  show wpAny _ _ (Builtin.Itertools.itNumbersFrom (.ref it) 3 >>= _) _ _ s
  refine wpAny_bind (nums_from hz ?_)
  show wpAny _ _ (Builtin.Itertools.itIntField (.ref it) 1 >>= _) _ _ s
  refine wpAny_bind (wpAny_bind (wpAny_field hz rfl (x := .int st 0) rfl (wpAny_pure ?_)))
  rcases hn with ⟨rfl, hn⟩ | rfl
  · obtain ⟨o, ho, _, n, hd⟩ := id hT
    show wpAny _ _ (Builtin.Itertools.itPoolItems (.ref T) >>= _) _ _ s
    refine wpAny_bind (wpAny_bind (wpAny_seqItems ho hd (wpAny_pure ?_)))
    show wpAny _ _ (match nxt xs.size ks with | some next => _ | none => _) _ _ s
    rw [hn]
    show wpAny _ _ (setField (.ref it) 1 (rawInt 2) >>= _) _ _ s
    refine wpAny_bind (wpAny_setField_rec hz (by simp [cells]) fun h1 _ hs1 => ?_)
    replace hs1 : Heap.SameBut it s.heap h1 := hs1
    exact stops (s := { s with heap := h1 }) hh fun e h' k x => hE e h' (fun c o ce q => k c o (hs1.extBut _ _ ce q)) x
  · show wpAny _ _ (rule "itertools.combinations.ended" >>= _) _ _ s
    refine wpAny_bind (wpAny_rule ?_)
    exact stops hh fun e h' k x => hE e h' (fun c o _ q => k c o q) x
/-- next(c) -/
theorem py_next {st : Int} {Q : Option Value → Shared → Prop} (hz : IsCmb s.heap it T st bf ks)
    (h : ∀ E' : Value → Shared → Prop, wpAny (model prog w) A.in1 (Builtin.«itertools.combinations.__next__» ⟨[.ref it], []⟩) (fun fin s' => ∃ v, fin = .done (.ret v) ∧ Q (some v) s') E' s) : wpAny (model prog w) A (pyNext (.ref it)) Q E s := by
  have hC : s.TypeIs (.ref it) "itertools.combinations" := ⟨_, hz, rfl⟩
  unfold pyNext
  refine wpAny_bind (wpAny_attempt (wpAny_callSpecial?_slot (name := Str.ofString "__next__") hC next_c (wpAny_call_entry next_c hC entryX_c ?_ (argsX_c _))))
  refine wpAny_mono (h _) (fun fin s' ⟨v, e, q⟩ => ?_) fun _ _ y => y
  subst e
  exact ⟨v, rfl, wpAny_pure q⟩
theorem py_end {st : Int} {Q : Option Value → Shared → Prop} (hh : A.handled = none) (hz : IsCmb s.heap it T st bf ks) (hT : s.heap.IsTuple T xs) (hn : (st = 1 ∧ nxt xs.size ks = none) ∨ st = 2)
    (hQ : ∀ h', (∀ c o, c ≠ it → s.heap.get? c = some o → h'.get? c = some o) → Q none { s with heap := h' }) : wpAny (model prog w) A (pyNext (.ref it)) Q E s := by
  have hC : s.TypeIs (.ref it) "itertools.combinations" := ⟨_, hz, rfl⟩
  unfold pyNext
  refine wpAny_bind (wpAny_attempt (wpAny_callSpecial?_slot (name := Str.ofString "__next__") hC next_c (wpAny_call_entry next_c hC entryX_c ?_ (argsX_c _))))
  refine turn_end (A := A.in1) hh hz hT hn fun e h' k ⟨o, ho, hc⟩ => ?_
  refine wpAny_bind (wpAny_isInstance (T := "StopIteration") (b := true) ⟨o, ho, hc⟩ isSubtype_stop ?_)
  exact wpAny_pure (hQ _ k)
theorem py_iter {st : Int} {Q : Value → Shared → Prop} (hz : IsCmb s.heap it T st bf ks) (h : Q (.ref it) s) : wpAny (model prog w) A (pyIter (.ref it)) Q E s := by
  have hC : s.TypeIs (.ref it) "itertools.combinations" := ⟨_, hz, rfl⟩
  refine wpAny_pyIter_slot hC iter_c (wpAny_call_entry iter_c hC entryI_c ?_ (argsI_c _))
  show wpAny _ _ (ret (.ref it)) _ _ s
  exact wpAny_pure ⟨_, rfl, "itertools.combinations", _, hC, next_c.lookup, h⟩
end
end CmbK


/-! for t in itertools.combinations(range(n), k) -/
namespace Lm
open PySem PySem.Spec PyProof.Rows L2 CmbK
/-- all places, one after another -/
structure PlacesOk (n k : Nat) (seq : List (List Nat)) : Prop where
  len : ∀ ks ∈ seq, ks.length = k ∧ ∀ i ∈ ks, i < n
  first : n < k ∧ seq = [] ∨ ¬ n < k ∧ seq[0]? = some (List.range k)
  next : ∀ i ks, seq[i]? = some ks → nxt n ks = seq[i + 1]?
def Itc (seq : List (List Nat)) : It where
  go := fun i _ => i < seq.length
  yld := fun i H v H' => ∃ (T : Addr) (o : Obj) (ks : List Nat), seq[i]? = some ks ∧ v = .ref T ∧ o.dict = none ∧ H T = none ∧ H' = upd H T (.frz o (.tup (ks.map fun (i : Nat) => V.int i)))
  stop := fun i _ => i = seq.length
theorem vals_picks {xs : Array Value} {n : Nat} (hx : ItemsOf (fun i v => ∃ t, v = .int (0 + i * 1) t) xs n) : ∀ {ks : List Nat}, (∀ i ∈ ks, i < n) → Vals (ks.map fun (i : Nat) => V.int i) (picks xs ks)
  | [], _ => .nil
  | k :: ks, h => by
    refine .cons ?_ (vals_picks hx fun i hi => h i (List.mem_cons_of_mem _ hi))
    have hk : k < xs.size := by rw [hx.1]; exact h k (by simp)
    obtain ⟨t, e⟩ := hx.2 k xs[k] (Array.getElem?_eq_getElem hk)
    refine ⟨t, ?_⟩
    show xs.getD k .none = _
    rw [Array.getD_eq_getD_getElem?, Array.getElem?_eq_getElem hk, Option.getD_some, e, Int.zero_add, Int.mul_one]
theorem turnCmb {P : Program} {w : World} {K : PySem.W.Frag} {tg : Expr} {it T : Addr} {n k : Nat} {seq : List (List Nat)} {xs : Array Value} (ok : PlacesOk n k seq) (hk : k ≤ 1000) (hx : ItemsOf (fun i v => ∃ t, v = .int (0 + i * 1) t) xs n) :
    Turn P w K tg (Itc seq) [it, T] it fun i h => ∃ bf st ks, IsCmb h it T st bf ks ∧ h.IsTuple T xs ∧ ((i = 0 ∧ st = 0 ∧ seq[0]? = some ks) ∨ (∃ j, i = j + 1 ∧ st = 1 ∧ seq[j]? = some ks) ∨ (seq = [] ∧ st = 2)) where
  mem := List.mem_cons_self
  obj := by
    rintro i h ⟨bf, st, ks, hz, ⟨o, ho, hc, m, hd⟩, _⟩ c hc'
    have e' : c = it ∨ c = T := by simpa using hc'
    rcases e' with q | q
    · rw [q]; exact ⟨_, hz, fun v q => nomatch q⟩
    · rw [q]; exact ⟨o, ho, fun v q => by rw [hd] at q; cases q⟩
  keep := by
    rintro i h h' ⟨bf, st, ks, hz, ⟨o, ho, r⟩, cs⟩ kk
    exact ⟨bf, st, ks, kk it (by simp) _ hz, ⟨o, kk T (by simp) _ ho, r⟩, cs⟩
  item := by
    intro X hP hw hK hc i pins s σ H E I hf ⟨bf, st, ks, hz, hT, cs⟩ hgo
    subst hP hw hK
    have hgo' : i < seq.length := hgo
    obtain ⟨ls, hls⟩ : ∃ ls, seq[i]? = some ls := ⟨_, List.getElem?_eq_getElem hgo'⟩
    obtain ⟨ll, lr⟩ := ok.len ls (List.mem_of_getElem? hls)
    have lx : xs.size = n := hx.1
    have lt : it < s.heap.objs.size := Heap.lt_size hz
    have ltT : T < s.heap.objs.size := by obtain ⟨o, ho, _⟩ := id hT; exact Heap.lt_size ho
    have neT := notT hz hT
    have step : ∀ {E' : Value → Shared → Prop} {Q : Value → Shared → Prop}, (∀ h', IsCmb h' it T 1 (.ref s.heap.objs.size) ls → h'.get? s.heap.objs.size = some { cls := .type "tuple", data := .seq (picks xs ls).toArray } → h'.objs.size = s.heap.objs.size + 1 →
        (∀ c o, c ≠ it → s.heap.get? c = some o → h'.get? c = some o) → Q (.ref s.heap.objs.size) { s with heap := h' }) →
        wpAny (model X.prog X.w) X.A.in1 (Builtin.«itertools.combinations.__next__» ⟨[.ref it], []⟩) (fun fin s' => ∃ v, fin = .done (.ret v) ∧ Q v s') E' s := fun {E' Q} hQ => by
      rcases cs with ⟨rfl, rfl, h0⟩ | ⟨j, rfl, rfl, hj⟩ | ⟨rfl, _⟩
      · rw [h0] at hls
        cases Option.some.inj hls
        exact turn_first (by omega) hz hT hQ
      · exact turn_next (by omega) hz hT (by rw [lx, ok.next j ks hj]; exact hls) hQ
      · simp at hgo'
    refine py_next hz fun E' => step fun h' z t nn kk => ⟨_, rfl, go_of (s := { s with heap := h' }) z rfl rfl (by decide) ?_⟩
    have I1 : Inv X pins σ (upd H s.heap.objs.size (.frz { cls := .type "tuple", data := .seq (picks xs ls).toArray } (.tup (ls.map fun (i : Nat) => V.int i)))) { s with heap := h' } :=
      I.turnedNew (t' := s.toks) (ch := [it]) (fun c o hb q => kk c o (fun q' => hb (by simp [q'])) q) (fun c hc => hf c (by simp at hc; simp [hc])) (Nat.le_refl _)
        ⟨t, by rw [List.length_map, sizeLine_eq]; omega, picks xs ls, vals_picks hx lr, ⟨_, t, rfl, _, rfl⟩⟩
    refine ⟨.ref s.heap.objs.size, _, I1, rfl, ⟨_, _, ls, hls, rfl, rfl, I.hok.fresh (Nat.le_refl _), rfl⟩, ⟨_, 1, ls, z, let ⟨o, ho, r⟩ := hT; ⟨o, kk _ _ neT ho, r⟩, .inr (.inl ⟨i, rfl, rfl, hls⟩)⟩, fun c hc => ?_⟩
    have lc : c < s.heap.objs.size := by
      have e' : c = it ∨ c = T := by simpa using hc
      rcases e' with q | q
      · rw [q]; exact lt
      · rw [q]; exact ltT
    rw [upd_ne (Nat.ne_of_lt lc)]
    exact (hf c hc).1
  done := by
    intro X hP hw hK hc i pins s σ H E I hf ⟨bf, st, ks, hz, hT, cs⟩ hst
    subst hP hw hK
    have hst' : i = seq.length := hst
    have lx : xs.size = n := hx.1
    refine py_end (I.ok.hd hc) hz hT ?_ fun h' kk => ⟨rfl, I.turnedL (t' := s.toks) (ch := [it, T]) (fun c o hb q => kk c o (fun q' => hb (by simp [q'])) q) hf⟩
    rcases cs with ⟨rfl, rfl, h0⟩ | ⟨j, rfl, rfl, hj⟩ | ⟨_, rfl⟩
    · rw [List.getElem?_eq_none (by omega)] at h0; cases h0
    · exact .inl ⟨rfl, by rw [lx, ok.next j ks hj, List.getElem?_eq_none (by omega)]⟩
    · exact .inr rfl
  self := fun A i s Q E ⟨bf, st, ks, hz, _⟩ h => py_iter hz h
/-- a range just made and a number: all places of so many of its items -/
def iComb (ta : TA) : TI := fun σ H R => ta σ H fun vs H1 => ∃ (p : Addr) (n k : Nat) (seq : List (List Nat)), vs = [.ref p, .int k] ∧ H1 p = some (.rng 0 n) ∧ n ≤ 1000 ∧ k ≤ 1000 ∧ PlacesOk n k seq ∧ R (Itc seq) H1
theorem pi_comb {X : Cx} {tg e e2 : Expr} {x : Str} {ta : TA} {p pos : Pos} (hc : X.calm = true) (hg : Gl X x) (hm : X.mg x = some (.type "itertools.combinations")) (ha : PA X [e, e2] ta) (hdb : (x == ("__debug__" : Str)) = false := by decide)
    (hs : starEach [e, e2] X.env = (false, eval e X.env) :: starEach [e2] X.env := by rfl) (hpl : (backTo pos (starEach [e2] X.env)).any (·.1) = false := by rfl) :
    PI X tg (.Call (.Name x p) [e, e2] [] pos) (iComb ta) := by
  refine ⟨fun pins s σ H R I h => ?_⟩
  refine wpAny_Call_Name_kw (ld_glob I hg hm (PyProof.Rows.callWith_type1 (thn (ha.run pos pins s σ H _ I h) fun us s1 ⟨vs, H1, I1, r1, q1⟩ => ?_) hs hpl) hdb)
  obtain ⟨a, n, k, seq, ev, hp, hn, hk, ok, q⟩ := q1
  subst ev
  cases r1 with
  | cons ra rr =>
    cases rr with
    | cons rb rr =>
      cases rr
      cases ra
      obtain ⟨tk0, rfl⟩ := rb
      obtain ⟨t, u, w, hr⟩ := I1.hok a _ hp
      refine callType_new called_c (by decide +kernel) (tcall_c _ _) (ncall_c _ _) (fun obj => PySem.F.args_object_init_3 obj _ _) entryN_c (meets_new a n k t u w tk0 hn hk) ⟨I1.ok.hd hc, hr, fun h' tk acc kk hi => ?_⟩
      have e1 : (h'.push { cls := .type "tuple", data := .seq acc }).objs.size = h'.objs.size + 1 := Heap.size_push ..
      have gT : (h'.push { cls := .type "tuple", data := .seq acc }).get? h'.objs.size = some { cls := .type "tuple", data := .seq acc } := Heap.get?_push_size _ rfl
      have gI : ((h'.push { cls := .type "tuple", data := .seq acc }).push { cls := .type "itertools.combinations", data := .fields (cells h'.objs.size (if n < k then 2 else 0) .none (List.range k)) }).get? (h'.objs.size + 1) = some { cls := .type "itertools.combinations", data := .fields (cells h'.objs.size (if n < k then 2 else 0) .none (List.range k)) } := by
        rw [← e1]
        exact Heap.get?_push_size _ rfl
      have gT2 : ((h'.push { cls := .type "tuple", data := .seq acc }).push { cls := .type "itertools.combinations", data := .fields (cells h'.objs.size (if n < k then 2 else 0) .none (List.range k)) }).get? h'.objs.size = some { cls := .type "tuple", data := .seq acc } := Heap.get?_push_of_some _ gT
      have up : ∀ b o, s1.heap.get? b = some o → ((h'.push { cls := .type "tuple", data := .seq acc }).push { cls := .type "itertools.combinations", data := .fields (cells h'.objs.size (if n < k then 2 else 0) .none (List.range k)) }).get? b = some o := fun b o z => Heap.get?_push_of_some _ (Heap.get?_push_of_some _ (kk b o z))
      have I' : Inv X pins σ H1 { s1 with heap := h', toks := tk } := I1.kept kk
      generalize (h'.push { cls := .type "tuple", data := .seq acc }).push { cls := .type "itertools.combinations", data := .fields (cells h'.objs.size (if n < k then 2 else 0) .none (List.range k)) } = hp2 at gI gT2 up
      have I2 : Inv X pins σ H1 { s1 with heap := hp2, toks := tk } := I1.kept up
      refine ⟨⟨_, gI, rfl⟩, py_iter gI ⟨h'.objs.size + 1, [h'.objs.size + 1, h'.objs.size], _, Itc seq, H1, rfl, I2, turnCmb ok hk hi, ⟨.none, _, List.range k, gI, ⟨_, gT2, rfl, _, rfl⟩, ?_⟩, fun b hb => ?_, q⟩⟩
      · rcases ok.first with ⟨z, w⟩ | ⟨z, w⟩
        · exact .inr (.inr ⟨w, if_pos z⟩)
        · exact .inl ⟨rfl, if_neg z, w⟩
      · have le : h'.objs.size ≤ b := by
          have e' : b = h'.objs.size + 1 ∨ b = h'.objs.size := by simpa using hb
          rcases e' with z | z
          · rw [z]; exact Nat.le_succ _
          · rw [z]; exact Nat.le_refl _
        exact I'.fpOk le (I'.hok.fresh le)
theorem walk_comb {seq : List (List Nat)} : Walk (Itc seq) seq.length (fun _ => True) fun i H v H' => ∃ (T : Addr) (o : Obj) (ks : List Nat), seq[i]? = some ks ∧ v = .ref T ∧ o.dict = none ∧ H T = none ∧ H' = upd H T (.frz o (.tup (ks.map fun (i : Nat) => V.int i))) where
  goes := fun _ _ hi _ => hi
  stops := fun _ _ => rfl
  yields := fun _ _ _ _ _ _ h => h
section
variable {c : Ct} {Γ : List (Option Rs)} {te : TE} {kd : Kd}
def plcD (ks : List Nat) : PyData := .tuple ((ks.map fun (i : Nat) => (i : Int)).map .int)
/-- for t in combinations(range(n), k) -/
theorem i_comb {n k : Nat} {seq : List (List Nat)} (h : Ev c te Γ kd (.int (n : Int))) (hn : n ≤ 1000) (hk : k ≤ 1000) (ok : PlacesOk n k seq) : EvI c (iComb (tCons (tCB rRng1 (tCons te tNil)) (tCons (tC (.int (k : Int))) tNil))) Γ true (seq.map fun ks => .d (plcD ks)) := fun H0 O H σ e R q =>
  h H0 O H σ e _ fun v H1 r s => by
    have ev := (Res.bo e s).int'
    subst ev
    refine ⟨(n : Int), rfl, fun p hp => ⟨p, n, k, seq, rfl, upd_same, hn, hk, ok, ?_⟩⟩
    have sm0 : Same H1 (upd H1 p (.rng 0 (n : Int))) := fun b o z => by rw [upd_ne (ne_of_none z hp)]; exact z
    have r2 : Rr c H (upd H1 p (.rng 0 (n : Int))) := r.tr (Rr.same sm0)
    refine q _ _ r2 ⟨(e.on r2).j, ?_⟩
    rw [List.length_map]
    refine walk_comb.mono (fun _ _ => trivial) fun i H' v H'' hi g w => ?_
    obtain ⟨T, o, ks, hks, rfl, ho, hT, rfl⟩ := w
    have sm : Same H' (upd H' T (.frz o (.tup (ks.map fun (i : Nat) => V.int i)))) := fun b o z => by rw [upd_ne (ne_of_none z hT)]; exact z
    refine ⟨sm, .d (plcD ks), by rw [List.getElem?_map, hks]; rfl, .leaf (.inl ⟨flatT _, .tup (.inl ⟨o, ho, upd_same⟩) ?_⟩)⟩
    have e1 : (ks.map fun (i : Nat) => V.int (i : Int)) = (ks.map fun (i : Nat) => (i : Int)).map V.int := by rw [List.map_map]; rfl
    rw [e1]
    exact BoAll.ofInts _
end
end Lm


/-! the places that combinations hands out -/
namespace Lm
open PySem PySem.Spec PyProof.Rows L2 CmbK
def cmbL : List Nat → Nat → List (List Nat)
  | _, 0 => [[]]
  | [], _ + 1 => []
  | a :: l, k + 1 => (cmbL l k).map (a :: ·) ++ cmbL l (k + 1)
def cmbs (n k : Nat) : List (List Nat) := cmbL (List.range n) k
def placesB (n k : Nat) (seq : List (List Nat)) : Bool :=
  seq.all (fun ks => ks.length == k && ks.all fun i => decide (i < n)) && (if n < k then seq.isEmpty else seq[0]? == some (List.range k)) && (List.range seq.length).all fun i => (seq[i]?.map (nxt n)) == some seq[i + 1]?
theorem places_of {n k : Nat} {seq : List (List Nat)} (h : placesB n k seq = true) : PlacesOk n k seq := by
  unfold placesB at h
  rw [Bool.and_eq_true, Bool.and_eq_true] at h
  obtain ⟨⟨h1, h2⟩, h3⟩ := h
  rw [List.all_eq_true] at h1 h3
  refine ⟨fun ks hk => ?_, ?_, fun i ks hi => ?_⟩
  · have := h1 ks hk
    rw [Bool.and_eq_true, beq_iff_eq, List.all_eq_true] at this
    exact ⟨this.1, fun i hi => of_decide_eq_true (this.2 i hi)⟩
  · by_cases q : n < k
    · rw [if_pos q] at h2
      exact .inl ⟨q, List.isEmpty_iff.mp h2⟩
    · rw [if_neg q, beq_iff_eq] at h2
      exact .inr ⟨q, h2⟩
  · have := h3 i (List.mem_range.mpr (List.getElem?_eq_some_iff.mp hi).1)
    rw [beq_iff_eq, hi, Option.map_some] at this
    exact Option.some.inj this
theorem places20 : ∀ n < 21, placesB n 2 (cmbs n 2) = true := by decide +kernel
theorem cmb_ok2 {n : Nat} (hn : n ≤ 20) : PlacesOk n 2 (cmbs n 2) := places_of (places20 n (by omega))
/-- the pairs, the first place first -/
def pairL (n : Nat) : List (List Nat) := (List.range n).flatMap fun i => (List.range (n - (i + 1))).map fun d => [i, i + 1 + d]
theorem cmb_pairs : ∀ n < 21, cmbs n 2 = pairL n := by decide +kernel
theorem mem_pairL {n : Nat} {ks : List Nat} : ks ∈ pairL n ↔ ∃ i j, ks = [i, j] ∧ i < j ∧ j < n := by
  unfold pairL
  simp only [List.mem_flatMap, List.mem_map, List.mem_range]
  constructor
  · rintro ⟨i, hi, d, hd, rfl⟩
    exact ⟨i, i + 1 + d, rfl, by omega, by omega⟩
  · rintro ⟨i, j, rfl, h1, h2⟩
    exact ⟨i, by omega, j - (i + 1), by omega, by congr; omega⟩
end Lm


/-! families of shares: the promises -/
namespace Lm
open PySem PySem.Spec PyProof.Rows L2
/-- a share of each variant but the control -/
structure Shr (r : List Int) (v : Int) : Prop where
  len : (r.length : Int) = v - 1
  nn : ∀ x ∈ r, 0 ≤ x
  sum : r.sum ≤ 10
structure Fam (F : List (List Int)) (v : Int) : Prop where
  v1 : 1 ≤ v
  v5 : v ≤ 5
  l1 : 1 ≤ F.length
  l5 : F.length ≤ 5
  shr : ∀ r ∈ F, Shr r v
/-- lists of different buckets below b, one for each of v variants -/
structure Lsts (L : List (List Int)) (v b : Int) : Prop where
  len : (L.length : Int) = v
  v4 : v ≤ 1000
  rng : ∀ r ∈ L, ∀ x ∈ r, 0 ≤ x ∧ x < b
  nd : ∀ r ∈ L, r.Nodup
  small : ∀ r ∈ L, r.length ≤ 1000
theorem Shr.le {r : List Int} {v : Int} (h : Shr r v) : ∀ x ∈ r, x ≤ 10 := fun x hx => by
  have := le_sum h.nn x hx
  have := h.sum
  omega
def sp_check_family (K : PySem.W.Frag) : Sp := spD K fun ds k d => ∃ (F : List (List Int)) (v : Int), ds = [.int v, .tuple (F.map tupD)] ∧ Fam F v ∧ k = .v ∧ d = .none
end Lm


/-! which lists serve which shares -/
namespace Lm
open PySem PySem.Spec PyProof.Rows L2
variable {L F : List (List Int)} {r s : List Int} {v b : Int}
/-- what of a list is used -/
def hdL (L : List (List Int)) (r : List Int) (i : Nat) : List Int := (L.getD i []).take (r.getD i 0).toNat
/-- long enough, and none twice -/
def OkF (L : List (List Int)) (r : List Int) : Prop := (∀ i < r.length, r.getD i 0 ≤ ((L.getD i []).length : Int)) ∧ ∀ i j, i < j → j < r.length → ∀ x ∈ hdL L r i, x ∉ hdL L r j
/-- what two lists share -/
def comF (L : List (List Int)) (r : List Int) (i j : Nat) : List Int := (hdL L r i).filter fun x => decide (x ∈ hdL L r j)
def shortF (L : List (List Int)) (r : List Int) : Option Nat := (List.range r.length).find? fun i => decide (((L.getD i []).length : Int) < r.getD i 0)
def clashF (L : List (List Int)) (r : List Int) : Option (List Nat) := (pairL r.length).find? fun p => !(comF L r (p.getD 0 0) (p.getD 1 0)).isEmpty
/-- why shares are not served -/
def faultD (L : List (List Int)) (r : List Int) : Option (List PyData) :=
  match shortF L r with
  | some i => some [.tuple [.int ((i : Int) + 1)], .none]
  | none => match clashF L r with
    | some p => some [.tuple [.int ((p.getD 0 0 : Nat) + 1), .int ((p.getD 1 0 : Nat) + 1)], .int (mnL (comF L r (p.getD 0 0) (p.getD 1 0)))]
    | none => none
/-- the first shares that are not served, and why -/
def firstF (L : List (List Int)) : Nat → List (List Int) → PyData
  | _, [] => .none
  | i, r :: F => match faultD L r with
    | some ds => .tuple (.int (i : Int) :: ds)
    | none => firstF L (i + 1) F
end Lm


/-! enumerate(t, start=k), t a tuple -/
namespace Lm
open PySem PySem.Spec PyProof.Rows L2
section
variable {M : Model} {A : Around} {E : Value → Shared → Prop} {s : Shared}
/-- T(e, .., k=v, ..), T a built-in class -/
theorem callTyKw {env : PySem.Env} {pos : Pos} {T : String} {e : Expr} {rest : List Expr} {kws : List Keyword} {Q : Value → Shared → Prop}
    (h : wpAny M A (spliced (backTo pos (starEach (e :: rest) env))) (fun vs s1 => wpAny M A (evalAll ((backToKw pos (keywordEach kws env)).map (·.2))) (fun ws s2 => wpAny M A (call (.type T) vs (((backToKw pos (keywordEach kws env)).filterMap (·.1)).zip ws)) Q E s2) E s1) E s)
    (he : backTo pos (starEach (e :: rest) env) = (false, eval e env) :: backTo pos (starEach rest env) := by rfl)
    (hpl : (backTo pos (starEach (e :: rest) env)).any (·.1) = false := by rfl)
    (hall : (backToKw pos (keywordEach kws env)).all (·.1.isSome) = true := by rfl)
    (hno : (backToKw pos (keywordEach kws env)).any (·.1.isNone) = false := by rfl) :
    wpAny M A (callWith pos (.type T) [] (backTo pos (starEach (e :: rest) env)) (backToKw pos (keywordEach kws env))) Q E s := by
  have args : wpAny M A (evalArgs (.type T) true (backTo pos (starEach (e :: rest) env)) (backToKw pos (keywordEach kws env))) (fun a s1 => wpAny M A (call (.type T) a.pos a.kw) Q E s1) E s := by
    rw [he] at h ⊢
    exact evalArgs_kwB hall h
  unfold callWith
  refine wpAny_bind (wpAny_holding (wpAny_mono args (fun a s1 q => wpAny_bind (wpAny_standAt ?_)) fun _ _ x => x))
  simp only [hpl, hno, Bool.or_false]
  exact wpAny_bind (wpAny_pure (wpAny_bind (wpAny_mono q (fun r s2 qr => wpAny_bind (wpAny_holding (wpAny_point (wpAny_pure qr)))) fun _ _ x => x)))
end
/-- what is drawn, told by later numbers -/
theorem drawsUp {prog : Program} {w : World} {A : Around} {it : Addr} {fp : List Addr} {n : Nat} {P : Nat → Value → Prop} {St : Nat → Heap → Prop} (D : Draws prog w A it fp n P St) (m : Nat) :
    Draws prog w A it fp (n + m) (fun j v => ∃ i, j = i + m ∧ P i v) (fun j h => ∃ i, j = i + m ∧ St i h) where
  live := fun _ h ⟨i, _, st⟩ => D.live i h st
  frame := fun _ h h' ⟨i, e, st⟩ k => ⟨i, e, D.frame i h h' st k⟩
  item := fun j s Q E hj ⟨i, e, st⟩ q => D.item i s Q E (by omega) st fun x h' tk px sn sb => q x h' tk ⟨i, e, px⟩ ⟨i + 1, by omega, sn⟩ sb
  done := fun s Q E ⟨i, e, st⟩ q => D.done s Q E (by have : n = i := by omega
                                                     rw [this]; exact st) q
def IteS (K : PySem.W.Frag) (m : Nat) (a : Addr) : It where
  go := fun i H => ∃ (xs : List V) (x : V), SqT K H a xs ∧ xs[i]? = some x
  yld := fun i H v H' => ∃ T x, v = .ref T ∧ H T = none ∧ H' = upd H T (.tup [.int ((i + m : Nat) : Int), x]) ∧ ∀ xs, SqT K H a xs → xs[i]? = some x
  stop := fun i H => ∃ xs : List V, SqT K H a xs ∧ xs.length = i
theorem turnEnumS {P : Program} {w : World} {K : PySem.W.Frag} {elts : List Expr} {kk m : Nat} {tpos : Pos} (a e it : Addr) :
    Turn P w K (.Tuple elts kk tpos) (IteS K m a) [e, it] e fun i h => (∃ old, IsEnum h e it ((i + m : Nat) : Int) old) ∧ h.IsTupleIter it a i ∧ e ≠ it ∧ a ≠ it where
  mem := List.mem_cons_self
  obj := by
    rintro i h ⟨⟨old, he⟩, ⟨o, ho, _, hd⟩, _⟩ b hb
    have e' : b = e ∨ b = it := by simpa using hb
    rcases e' with q | q
    · rw [q]; exact ⟨_, he, fun v q => nomatch q⟩
    · rw [q]; exact ⟨o, ho, fun v q => by rw [hd] at q; cases q⟩
  keep := by
    rintro i h h' ⟨⟨old, he⟩, hi, hne⟩ k
    exact ⟨⟨old, k e (by simp) _ he⟩, hi.at fun o q => k it (by simp) o q, hne⟩
  item := by
    intro X hP hw hK hc i pins s σ H E I hf ⟨⟨old, he⟩, hit, hne, hai⟩ ⟨xs, x, hq, hx⟩
    subst hP hw hK
    obtain ⟨its, rv, p, hz⟩ := I.tuple hq
    obtain ⟨u, hu, ru⟩ := rv.get hx
    have hlt : i < its.toArray.size := by rw [List.size_toArray]; exact (List.getElem?_eq_some_iff.mp hu).1
    have hel := Heap.lt_size he
    have hil : it < s.heap.objs.size := let ⟨_, q, _⟩ := hit; Heap.lt_size q
    have hea : e ≠ a := fun z => by
      obtain ⟨ob, g, gc, n, gd⟩ := p
      rw [← z, he] at g
      cases g
      exact absurd gc (by simp)
    have D := drawsUp (Draws.tuple (prog := X.prog) (w := X.w) (A := X.A.in1) (show X.A.in1.handled = none from I.ok.hd hc) it a hai its.toArray) m
    refine PySem.wpAny_pyNext_enum_itemD D he ⟨i, rfl, hit, p⟩ (by omega) hne (by simpa [hne] using hea) fun x' h' tk hx' ho hs' hT hsz hk => ?_
    obtain ⟨i', ei, hx'⟩ := hx'
    have : i' = i := by omega
    subst this
    have ex : x' = u := by
      have : its[i']? = some x' := by simpa using hx'
      rw [hu] at this
      exact (Option.some.inj this).symm
    subst ex
    refine ⟨_, rfl, wpAny_letOwnedTupleGo_enum (s := { s with heap := h', toks := tk + 1 }) ho fun h'' he' sb => ?_⟩
    have hT2 := (sb.2 _ (Nat.ne_of_gt hel)).trans hT
    have new : ObjOk X.prog X.w (upd H s.heap.objs.size (.tup [.int ((i' + m : Nat) : Int), x])) h'' s.heap.objs.size (.tup [.int ((i' + m : Nat) : Int), x]) :=
      ⟨(by decide : 2 ≤ sizeLine), [.int ((i' + m : Nat) : Int) tk, x'], .cons ⟨_, rfl⟩ (.cons ru .nil), _, hT2, rfl, _, rfl⟩
    have I1 := I.turnedNew (t' := tk + 1) (ch := [e, it]) (fun b ob hb q => (sb.2 b fun z => hb (by simp [z])).trans (hk b ob (fun z => hb (by simp [z])) (fun z => hb (by simp [z])) q)) hf (Nat.le_refl _) new
    obtain ⟨i2, e2, hs2⟩ := hs'
    have : i2 = i' + 1 := by omega
    subst this
    refine ⟨.ref s.heap.objs.size, _, I1, rfl, ⟨_, x, rfl, I.hok.fresh (Nat.le_refl _), rfl, fun ys hy => by rw [I.tuple_inj hy hq]; exact hx⟩, ⟨⟨x', ?_⟩, hs2.1.at fun o q => (sb.2 it hne.symm).trans q, hne, hai⟩, fun b hb => ?_⟩
    · have e1 : ((i' + 1 + m : Nat) : Int) = ((i' + m : Nat) : Int) + 1 := by omega
      rw [e1]; exact he'
    · have hb' : b < s.heap.objs.size := by
        have e' : b = e ∨ b = it := by simpa using hb
        rcases e' with q | q
        · rw [q]; exact hel
        · rw [q]; exact hil
      rw [upd_ne (Nat.ne_of_lt hb')]
      exact (hf b hb).1
  done := by
    intro X hP hw hK hc i pins s σ H E I hf ⟨⟨old, he⟩, hit, hne, hai⟩ ⟨xs, hq, hx⟩
    subst hP hw hK
    obtain ⟨its, rv, p, hz⟩ := I.tuple hq
    obtain ⟨f0, f1, f2, f3, f4, f5⟩ := hf it (by simp)
    have hl : its.toArray.size = i := by rw [List.size_toArray, ← rv.length]; exact hx
    have D := drawsUp (Draws.tuple (prog := X.prog) (w := X.w) (A := X.A.in1) (show X.A.in1.handled = none from I.ok.hd hc) it a hai its.toArray) m
    rw [hl] at D
    exact PySem.wpAny_pyNext_enum_endD D he ⟨i, rfl, hit, p⟩ fun h' eb => ⟨rfl, I.turned (t' := s.toks) (fun b o hb q => eb b o hb q) f0 f1 f3 f4 f5⟩
  self := fun A i s Q E ⟨⟨_, he⟩, _⟩ h => wpAny_pyIter_enum he h
def iEnumS (K : PySem.W.Frag) (m : Nat) (ta : TA) : TI := fun σ H R => ta σ H fun vs H1 => ∃ a xs, vs = [.ref a] ∧ SqT K H1 a xs ∧ R (IteS K m a) H1
theorem pi_enumS {X : Cx} {e : Expr} {ta : TA} {p pos tpos q1 q2 : Pos} {elts : List Expr} {kk m : Nat} {x1 : Nat} (hg : Gl X "enumerate") (hm : X.mg "enumerate" = none) (hm2 : m < 1000000) (ha : PA X [e] ta) (hk : PE X (.Constant (.int (m : Int)) x1 q1) (tC (.int (m : Int))))
    (he1 : backTo pos (starEach [e] X.env) = (false, eval e X.env) :: backTo pos (starEach [] X.env) := by rfl) (hp1 : (backTo pos (starEach [e] X.env)).any (·.1) = false := by rfl) :
    PI X (.Tuple elts kk tpos) (.Call (.Name "enumerate" p) [e] [⟨some "start", .Constant (.int (m : Int)) x1 q1, q2⟩] pos) (iEnumS X.K m ta) := by
  refine ⟨fun pins s σ H R I h => ?_⟩
  refine wpAny_Call_Name_kw (ld_blt I hg hm boot_enumerate (callTyKw (thn (ha.run pos pins s σ H _ I h) fun us s1 ⟨vs, H1, I1, r1, q1⟩ => ?_) he1 hp1))
  refine PyProof.Rows.kws_cons (thn (hk.run pins s1 σ H1 (fun x H' => x = .int (m : Int) ∧ H' = H1) I1 ⟨rfl, rfl⟩) fun w s2 ⟨x, H2, I2, r2, ex, eh⟩ => PyProof.Rows.kws_nil ?_)
  subst ex eh
  obtain ⟨t, rfl⟩ := r2
  obtain ⟨a, xs, rfl, hq, q⟩ := q1
  obtain ⟨u, rfl, ru⟩ := vals1 r1
  cases ru
  obtain ⟨its, rv, p', hz⟩ := I2.tuple hq
  have la : a < s2.heap.objs.size := let ⟨_, g, _⟩ := p'; Heap.lt_size g
  have fresh2 : ∀ b ∈ [s2.heap.objs.size + 1, s2.heap.objs.size], FpOk X pins H2 b := fun b hb => by
    have hle : s2.heap.objs.size ≤ b := by
      have e' : b = s2.heap.objs.size + 1 ∨ b = s2.heap.objs.size := by simpa using hb
      rcases e' with z | z
      · rw [z]; exact Nat.le_succ _
      · rw [z]; exact Nat.le_refl _
    exact I2.fpOk hle (I2.hok.fresh hle)
  refine enum_begins_start (begins_tuple a its.toArray) p' (by omega) (by omega) fun h' he ho hsz kk => wpAny_pyIter_enum he ?_
  exact ⟨_, _, _, _, H2, rfl, I2.kept (t' := s2.toks) kk, turnEnumS (m := m) a (s2.heap.objs.size + 1) s2.heap.objs.size, ⟨⟨.none, by rw [Nat.zero_add]; exact he⟩, ⟨_, ho, rfl, rfl⟩, Nat.succ_ne_self _, Nat.ne_of_lt la⟩, fresh2, q⟩
theorem walk_enumS {K : PySem.W.Frag} {a : Addr} {m : Nat} {xs : List V} : Walk (IteS K m a) xs.length (fun H => SqT K H a xs) (YPair (fun i => some (.int ((i + m : Nat) : Int))) fun i => xs[i]?) where
  goes := fun i _ hi q => ⟨xs, xs[i], q, List.getElem?_eq_getElem hi⟩
  stops := fun _ q => ⟨xs, q, rfl⟩
  yields := fun i H v H' _ q ⟨T, x, h1, h2, h3, h4⟩ => ⟨T, _, x, h1, h2, h3, rfl, h4 xs q⟩
section
variable {c : Ct} {Γ : List (Option Rs)} {tr : TA} {ds : List PyData} {m : Nat}
def enumS (m : Nat) (ds : List PyData) : List Im := ds.zipIdx.map fun p => .t [.d (.int ((p.2 + m : Nat) : Int)), .d p.1]
/-- enumerate(t, start=m) -/
theorem i_enumS (h : EvA c tr Γ true [.tuple ds]) : EvI c (iEnumS c.K m tr) Γ true (enumS m ds) := fun H0 O H σ e R q =>
  h H0 O H σ e _ fun vs H1 r s => by
    obtain ⟨x, rfl, b⟩ := (BoAll.vm s).one
    obtain ⟨p, xs, rfl, sl, al⟩ := b.tup'
    refine ⟨p, xs, rfl, (sqT_same mns_same sl).sq, q _ H1 r ⟨(e.on r).j, ?_⟩⟩
    have hl : xs.length = (enumS m ds).length := by rw [al.len]; simp [enumS]
    rw [← hl]
    refine (walk_enumS (m := m)).mono (fun H h => (h.tup (e.on r).j sl).sq) fun i H v H' hi g y => ?_
    obtain ⟨T, x1, x2, rfl, hT, rfl, g1, g2⟩ := y
    cases g1
    obtain ⟨d, hd, bd⟩ := al.get g2
    have sm : Same H (upd H T (.tup [.int ((i + m : Nat) : Int), x2])) := fun b o z => by rw [upd_ne (ne_of_none z hT)]; exact z
    refine ⟨sm, .t [.d (.int ((i + m : Nat) : Int)), .d d], ?_, .tup (.inl (.inl upd_same)) (.cons (.leaf (.inl ⟨rfl, .int _⟩)) (.cons (.leaf (.inr ⟨rfl, bd⟩)) .nil))⟩
    simp [enumS, hd]
end
section
variable {X : Cx} {K : PySem.W.Frag} (hK : X.K = K)
include hK
theorem k_enumS {e : Expr} {ta : TA} {p pos tpos q1 q2 : Pos} {elts : List Expr} {kk m : Nat} {x1 : Nat} (hg : Gl X "enumerate") (hm : X.mg "enumerate" = none) (hm2 : m < 1000000) (ha : PA X [e] ta) (hk : PE X (.Constant (.int (m : Int)) x1 q1) (tC (.int (m : Int))))
    (he1 : backTo pos (starEach [e] X.env) = (false, eval e X.env) :: backTo pos (starEach [] X.env) := by rfl) (hp1 : (backTo pos (starEach [e] X.env)).any (·.1) = false := by rfl) :
    PI X (.Tuple elts kk tpos) (.Call (.Name "enumerate" p) [e] [⟨some "start", .Constant (.int (m : Int)) x1 q1, q2⟩] pos) (iEnumS K m ta) := hK ▸ pi_enumS hg hm hm2 ha hk he1 hp1
end
end Lm


/-! faults of lists: the promises -/
namespace Lm
open PySem PySem.Spec PyProof.Rows L2
variable {L F : List (List Int)} {r s : List Int} {v b : Int}
def fltD : Option (List PyData) → PyData
  | some ds => .tuple ds
  | none => .none
theorem flat_flt : flatD (fltD (faultD L r)) = true := by
  unfold faultD
  cases shortF L r with
  | some i => rfl
  | none => cases clashF L r <;> rfl
theorem enumS_rows {L : List (List Int)} {m : Nat} : enumS m (L.map tupD) = (List.range L.length).map fun i => .t [.d (.int ((i + m : Nat) : Int)), .d (tupD (L.getD i []))] := by
  apply List.ext_getElem
  · simp [enumS]
  · intro i h1 h2
    have h : i < L.length := by simpa using h2
    simp [enumS, List.getD_eq_getElem?_getD, h]
theorem enumI_rows {L : List (List Int)} : enumI (L.map tupD) = (List.range L.length).map fun i => .t [.d (.int (i : Nat)), .d (tupD (L.getD i []))] := by
  apply List.ext_getElem
  · simp [enumI]
  · intro i h1 h2
    have h : i < L.length := by simpa using h2
    simp [enumI, List.getD_eq_getElem?_getD, h]
theorem drop_at {F : List (List Int)} {n : Nat} (h : n < F.length) : F.drop n = F.getD n [] :: F.drop (n + 1) := by
  rw [List.drop_eq_getElem_cons h, List.getD_eq_getElem?_getD, List.getElem?_eq_getElem h]
  rfl
theorem flat_first {L : List (List Int)} : ∀ {F : List (List Int)} {i : Nat}, flatD (firstF L i F) = true
  | [], _ => rfl
  | r :: F, i => by
    unfold firstF
    have := flat_flt (L := L) (r := r)
    cases h : faultD L r with
    | some ds =>
      rw [h] at this
      have f : flatAll ds = true := this
      simp [flatD, flatAll, f]
    | none => exact flat_first
def hdsL (L : List (List Int)) (r : List Int) : List (List Int) := (List.range r.length).map (hdL L r)
theorem hds_at {i : Nat} (h : i < r.length) : atI ((hdsL L r).map tupD) (i : Int) = some (tupD (hdL L r i)) := by
  rw [at_tup (by simpa [hdsL] using h)]
  simp [hdsL, List.getD_eq_getElem?_getD, h]
theorem hds_zip (h : L.length = r.length) : (L.zip r).map (fun p => p.1.take p.2.toNat) = hdsL L r := by
  apply List.ext_getElem
  · simp [hdsL, h]
  · intro i h1 h2
    have hi : i < r.length := by simpa [hdsL] using h2
    have hj : i < L.length := by omega
    simp [hdsL, hdL, List.getD_eq_getElem?_getD, hi, hj]
theorem zipD_sh {L : List (List Int)} {r : List Int} : zipD (L.map tupD) (r.map .int) = (L.zip r).map fun p => .t [.d (tupD p.1), .d (.int p.2)] := by
  unfold zipD
  rw [List.zip_map, List.map_map]
  rfl
def sp_first_fault (K : PySem.W.Frag) : Sp := spD K fun ds k d => ∃ (L : List (List Int)) (r : List Int) (v b : Int), ds = [.tuple (r.map .int), .tuple (L.map tupD)] ∧ Shr r v ∧ Lsts L (v - 1) b ∧ 1 ≤ v ∧ v ≤ 5 ∧ k = .v ∧ d = fltD (faultD L r)
def sp_fault (K : PySem.W.Frag) : Sp := spD K fun ds k d => ∃ (L F : List (List Int)) (v : Int), ds = [.int v, .tuple (F.map tupD), .tuple (L.map tupD)] ∧ Fam F v ∧ Lsts L (v - 1) 1001 ∧ k = .v ∧ d = firstF L 0 F
end Lm


/-! the allowed shares of a family -/
namespace Lm
open PySem PySem.Spec PyProof.Rows L2
section
variable {X : Cx} {K : PySem.W.Frag} (hK : X.K = K)
include hK
end
theorem anyRows (l : List (List Int)) (g : List Int) : (l.map tupD).any (fun z => PyData.eqv z (tupD g)) = decide (g ∈ l) := by
  rw [Bool.eq_iff_iff, List.any_eq_true, decide_eq_true_iff]
  constructor
  · rintro ⟨z, hz, e⟩
    obtain ⟨r, hr, rfl⟩ := List.mem_map.mp hz
    rw [show PyData.eqv (tupD r) (tupD g) = decide (r = g) from eqvT r g, decide_eq_true_iff] at e
    rwa [e] at hr
  · intro hr
    exact ⟨tupD g, List.mem_map.mpr ⟨g, hr, rfl⟩, by rw [show PyData.eqv (tupD g) (tupD g) = decide (g = g) from eqvT g g]; simp⟩
end Lm


/-! == of plain data, forms of data, a drawn test behind a plain one -/
namespace Lm
open PySem PySem.Spec PyProof.Rows L2
mutual
/-- no truth values, no dicts: == is being equal -/
def plD : PyData → Bool
  | .none => true
  | .int _ => true
  | .str _ => true
  | .list ds => plAll ds
  | .tuple ds => plAll ds
  | _ => false
def plAll : List PyData → Bool
  | [] => true
  | d :: ds => plD d && plAll ds
end
mutual
theorem eqv_pl : ∀ {x y : PyData}, plD x = true → plD y = true → (PyData.eqv x y = true ↔ x = y)
  | .none, .none, _, _ => by simp [PyData.eqv]
  | .int i, .int j, _, _ => by simp [PyData.eqv]
  | .str i, .str j, _, _ => by simp [PyData.eqv]
  | .list xs, .list ys, h, g => by
    have := eqv_plA (xs := xs) (ys := ys) h g
    simp only [PyData.eqv, this, PyData.list.injEq]
  | .tuple xs, .tuple ys, h, g => by
    have := eqv_plA (xs := xs) (ys := ys) h g
    simp only [PyData.eqv, this, PyData.tuple.injEq]
  | .none, .int _, _, _ | .none, .str _, _, _ | .none, .list _, _, _ | .none, .tuple _, _, _ => by simp [PyData.eqv]
  | .int _, .none, _, _ | .int _, .str _, _, _ | .int _, .list _, _, _ | .int _, .tuple _, _, _ => by simp [PyData.eqv]
  | .str _, .none, _, _ | .str _, .int _, _, _ | .str _, .list _, _, _ | .str _, .tuple _, _, _ => by simp [PyData.eqv]
  | .list _, .none, _, _ | .list _, .int _, _, _ | .list _, .str _, _, _ | .list _, .tuple _, _, _ => by simp [PyData.eqv]
  | .tuple _, .none, _, _ | .tuple _, .int _, _, _ | .tuple _, .str _, _, _ | .tuple _, .list _, _, _ => by simp [PyData.eqv]
  | .bool _, _, h, _ | .dict _, _, h, _ => by simp [plD] at h
  | .none, .bool _, _, g | .none, .dict _, _, g | .int _, .bool _, _, g | .int _, .dict _, _, g | .str _, .bool _, _, g | .str _, .dict _, _, g | .list _, .bool _, _, g | .list _, .dict _, _, g | .tuple _, .bool _, _, g | .tuple _, .dict _, _, g => by simp [plD] at g
theorem eqv_plA : ∀ {xs ys : List PyData}, plAll xs = true → plAll ys = true → (PyData.eqvAll xs ys = true ↔ xs = ys)
  | [], [], _, _ => by simp [PyData.eqvAll]
  | [], _ :: _, _, _ => by simp [PyData.eqvAll]
  | _ :: _, [], _, _ => by simp [PyData.eqvAll]
  | x :: xs, y :: ys, h, g => by
    have h' : (plD x && plAll xs) = true := h
    have g' : (plD y && plAll ys) = true := g
    rw [Bool.and_eq_true] at h' g'
    have e1 := eqv_pl (x := x) (y := y) h'.1 g'.1
    have e2 := eqv_plA (xs := xs) (ys := ys) h'.2 g'.2
    simp only [PyData.eqvAll, Bool.and_eq_true, e1, e2, List.cons.injEq]
end
theorem eqv_rf {x : PyData} (h : plD x = true) : PyData.eqv x x = true := (eqv_pl h h).mpr rfl
/-- data of a depth of at most n, all of it to be compared -/
def Sh (n : Nat) (d : PyData) : Prop := d.canLay0 = true ∧ d.depth ≤ n
theorem Sh.ok {n : Nat} {d : PyData} (h : Sh n d) (hn : n ≤ 64) : SeqAt.shaped d = true := by
  unfold SeqAt.shaped
  rw [h.1, decide_eq_true (by have := h.2; omega)]
  rfl
theorem sh_int {i : Int} : Sh n (.int i) := ⟨rfl, by simp [PyData.depth]⟩
theorem sh_all {n : Nat} : ∀ {ds : List PyData}, (∀ d ∈ ds, Sh n d) → PyData.canLayAll0 ds = true ∧ PyData.depthAll ds ≤ n
  | [], _ => ⟨rfl, by simp [PyData.depthAll]⟩
  | d :: ds, h => by
    have a := h d (by simp)
    have b := sh_all (ds := ds) fun e he => h e (List.mem_cons_of_mem _ he)
    refine ⟨?_, ?_⟩
    · show (d.canLay0 && PyData.canLayAll0 ds) = true
      rw [a.1, b.1]; rfl
    · show max d.depth (PyData.depthAll ds) ≤ n
      have := a.2; have := b.2; omega
theorem sh_tup {n : Nat} {ds : List PyData} (h : ∀ d ∈ ds, Sh n d) : Sh (n + 1) (.tuple ds) := by
  have := sh_all h
  exact ⟨this.1, by show PyData.depthAll ds + 1 ≤ _; omega⟩
theorem Sh.up {n m : Nat} {d : PyData} (h : Sh n d) (hn : n ≤ m) : Sh m d := ⟨h.1, Nat.le_trans h.2 hn⟩
theorem sh_ints {n : Nat} (ns : List Int) : Sh (n + 1) (tupD ns) := sh_tup fun d hd => by
  obtain ⟨i, _, rfl⟩ := List.mem_map.mp hd
  exact sh_int
theorem sh_rows {n : Nat} (l : List (List Int)) : ∀ d ∈ l.map tupD, Sh (n + 1) d := fun d hd => by
  obtain ⟨i, _, rfl⟩ := List.mem_map.mp hd
  exact sh_ints i
section
variable {c : Ct} {Γ : List (Option Rs)} {ta tb : TE} {tt tu : TT} {ka kb : Kd} {d e : PyData} {a : Bool}
end
end Lm


/-! len(set(rows)): rows of ints, in a tuple or in a list -/
namespace Lm
open PySem PySem.Spec PyProof.Rows L2
section
variable {prog : Program} {w : World} {A : Around} {E : Value → Shared → Prop} {s : Shared}
end
section
variable {X : Cx}
theorem len_sub {α : Type} [DecidableEq α] : ∀ {as bs : List α}, as.Nodup → (∀ k, k ∈ as → k ∈ bs) → as.length ≤ bs.length
  | [], _, _, _ => Nat.zero_le _
  | a :: as, bs, ha, h => by
    have hm : a ∈ bs := h a (by simp)
    obtain ⟨hna, hnd⟩ := List.nodup_cons.mp ha
    have := len_sub (bs := bs.erase a) hnd fun k q => (List.mem_erase_of_ne fun (z : k = a) => hna (by rw [← z]; exact q)).mpr (h k (by simp [q]))
    rw [List.length_erase_of_mem hm] at this
    have : 0 < bs.length := List.length_pos_of_mem hm
    simp only [List.length_cons]
    omega
section
variable {K : PySem.W.Frag} (hK : X.K = K)
include hK
end
end
section
variable {c : Ct} {H : Hp} {Γ : List (Option Rs)} {ta : TE} {ka : Kd}
end
end Lm


/-! in and not in over tuples or lists of data -/
namespace Lm
open PySem PySem.Spec PyProof.Rows L2
def rInU (K : PySem.W.Frag) (neg : Bool) : R2 := fun x y H Q => ∃ d ds, Dp K H x d ∧ (Dp K H y (.list ds) ∨ Dp K H y (.tuple ds)) ∧ SeqAt.shaped d = true ∧ SeqAt.shaped (.tuple ds) = true ∧ Q (.bl (if neg then !(ds.any fun z => PyData.eqv z d) else ds.any fun z => PyData.eqv z d)) H
section
variable {X : Cx}
theorem op_inU (hu : X.A.units + 65 < cLine) : OpR X (compareOp .In) (rInU X.K false) := by
  intro pins s σ H x y v u Q I rx ry h
  obtain ⟨d, ds, hd, he, sd, se, q⟩ := h
  obtain ⟨as, r1⟩ := Dp.reads I d x v hd rx
  rcases he with he | he
  · obtain ⟨bs, r2⟩ := Dp.reads I (.list ds) y u he ry
    exact SeqAt.in_list_reads r2 r1 (SeqAt.canLay_of_shaped se) (SeqAt.canLay_of_shaped sd) (room_in_shaped sd hu) ⟨.bl _, H, I, rfl, q⟩
  · obtain ⟨bs, r2⟩ := Dp.reads I (.tuple ds) y u he ry
    exact SeqAt.in_tuple_reads r2 r1 (SeqAt.canLay_of_shaped se) (SeqAt.canLay_of_shaped sd) (room_in_shaped sd hu) ⟨.bl _, H, I, rfl, q⟩
variable {K : PySem.W.Frag} (hK : X.K = K)
include hK
theorem k_inU (hu : X.A.units + 65 < cLine) : OpR X (compareOp .In) (rInU K false) := hK ▸ op_inU hu
end
section
variable {c : Ct} {Γ : List (Option Rs)} {ta tb : TE} {ka kb : Kd} {d : PyData} {ds : List PyData} {r : List Int} {P : List (List Int)} {neg : Bool}
theorem e_inUL (ha : Ev c ta Γ ka d) (hb : Ev c tb Γ kb (.list ds)) (sd : SeqAt.shaped d = true) (sl : SeqAt.shaped (.tuple ds) = true) : Ev c (tOp (rInU c.K neg) ta tb) Γ .v (.bool (if neg then !(ds.any fun z => PyData.eqv z d) else ds.any fun z => PyData.eqv z d)) :=
  d_bin ha hb fun H O v u Q bv bu q => ⟨d, ds, bv.dp, .inl bu.dp, sd, sl, q _ H Rr.rf (.bl _)⟩
theorem shapedTR (l : List (List Int)) : SeqAt.shaped (.tuple (l.map tupD)) = true := (sh_tup (n := 1) (sh_rows l)).ok (by decide)
theorem e_inRL (ha : Ev c ta Γ ka (tupD r)) (hb : Ev c tb Γ kb (.list (P.map tupD))) : Ev c (tOp (rInU c.K false) ta tb) Γ .v (.bool (decide (r ∈ P))) := (e_inUL ha hb (shapedT r) (shapedTR P)).to (by rw [if_neg (by decide), anyRows])
end
section
variable {c : Ct} {Γ : List (Option Rs)} {tr : TA} {kv : Bool} {n m lo : Nat} {a : Im}
theorem i_rngN (h : EvA c tr Γ kv [.int (n : Int)]) (hn : n ≤ 1000000) : EvI c (iRng1 tr) Γ true ((List.range n).map fun (i : Nat) => Im.d (.int (i : Int))) := by
  have := i_rng1 h (by omega) (by omega)
  rw [Int.toNat_natCast] at this
  unfold upI at this
  rw [List.map_map] at this
  refine (congrArg (EvI c (iRng1 tr) Γ true) (List.map_congr_left fun i _ => ?_)).mp this
  show Im.d (.int (0 + (i : Int))) = _
  rw [Int.zero_add]
theorem rngN_at (h : ((List.range n).map fun (i : Nat) => Im.d (.int (i : Int)))[m]? = some a) : m < n ∧ a = .d (.int (m : Int)) := by
  rw [List.getElem?_map] at h
  cases q : (List.range n)[m]? with
  | none => rw [q] at h; cases h
  | some k =>
    rw [q] at h
    have hm := (List.getElem?_eq_some_iff.mp q).1
    rw [List.length_range] at hm
    rw [List.getElem?_range hm] at q
    cases Option.some.inj q
    exact ⟨hm, (Option.some.inj h).symm⟩
theorem i_rngN2 (h : EvA c tr Γ kv [.int (lo : Int), .int (n : Int)]) (hn : n ≤ 1000000) (hl : lo ≤ 1000000) : EvI c (iRng2 tr) Γ true ((List.range (n - lo)).map fun (i : Nat) => Im.d (.int ((lo + i : Nat) : Int))) := by
  have := i_rng2 h (by omega) (by omega) (by omega) (by omega)
  rw [show ((n : Int) - (lo : Int)).toNat = n - lo by omega] at this
  unfold upI at this
  rw [List.map_map] at this
  refine (congrArg (EvI c (iRng2 tr) Γ true) (List.map_congr_left fun i _ => ?_)).mp this
  show Im.d (.int ((lo : Int) + (i : Int))) = _
  rw [Int.natCast_add]
end
/-! ### plans -/
/-! bad triples -/
def castL (ks : List Nat) : List Int := ks.map fun (i : Nat) => (i : Int)
end Lm


/-! rules: the mathematics -/
namespace Lm
open PySem PySem.Spec PyProof.Rows L2
abbrev Pr := List Int × List Int
/-- an allocation and an assignment of it -/
structure OkP (p : Pr) (v b : Int) : Prop where
  alc : Alc p.1 v b
  len : (p.2.length : Int) = b
  rng : ∀ x ∈ p.2, 0 ≤ x ∧ x < v
  cnt : countsI p.2 v = p.1
theorem OkP.asg {p : Pr} {v b : Int} (h : OkP p v b) (hb : b ≤ 20) : Asg p.2 v := ⟨by have := h.len; omega, h.rng⟩
/-! the first of three places -/
/-! lists give the variants their buckets -/
theorem getD_setI {r : List Int} {i j : Nat} {x : Int} (hi : i < r.length) : (r.set i x).getD j 0 = if i = j then x else r.getD j 0 := by
  simp only [List.getD_eq_getElem?_getD, List.getElem?_set]
  split
  · rename_i h
    subst h
    simp [hi]
  · rfl
theorem gL_mem {Ls : List (List Int)} {i : Nat} (h : i < Ls.length) : Ls.getD i [] ∈ Ls := by
  rw [List.getD_eq_getElem?_getD, List.getElem?_eq_getElem h]
  exact List.getElem_mem h
end Lm


/-! drawn assignments of an allocation; drawn tests -/
namespace Lm
open PySem PySem.Spec PyProof.Rows L2
structure Drw (as : List Int) (lf acc : List Int) (n : Nat) : Prop where
  len : lf.length = as.length
  al : acc.length = n
  nn : ∀ x ∈ lf, 0 ≤ x
  rng : ∀ x ∈ acc, 0 ≤ x ∧ x < (as.length : Int)
  cnt : ∀ i < as.length, (acc.count (i : Int) : Int) + lf.getD i 0 = as.getD i 0
  sum : lf.sum + (n : Int) = as.sum
theorem sum_setX : ∀ {l : List Int} {i : Nat} {x : Int}, i < l.length → (l.set i x).sum = l.sum - l.getD i 0 + x
  | [], _, _, h => by simp at h
  | a :: l, 0, x, _ => by simp only [List.set_cons_zero, List.sum_cons, List.getD_cons_zero]; omega
  | a :: l, i + 1, x, h => by
    have := sum_setX (l := l) (i := i) (x := x) (by simpa using h)
    simp only [List.set_cons_succ, List.sum_cons, List.getD_cons_succ]
    omega
theorem Drw.step {as lf acc : List Int} {n i : Nat} (h : Drw as lf acc n) (hi : i < as.length) (hp : 0 < lf.getD i 0) : Drw as (lf.set i (lf.getD i 0 - 1)) (acc ++ [(i : Int)]) (n + 1) := by
  have hl := h.len
  refine ⟨by simpa using hl, by simp [h.al], fun x hx => ?_, fun x hx => ?_, fun j hj => ?_, ?_⟩
  · rcases List.mem_or_eq_of_mem_set hx with w | w
    · exact h.nn x w
    · omega
  · rcases List.mem_append.mp hx with w | w
    · exact h.rng x w
    · rw [List.mem_singleton.mp w]; omega
  · have hc := h.cnt j hj
    rw [getD_setI (by omega), List.count_append]
    by_cases e : i = j
    · subst e
      have c1 : List.count (i : Int) [(i : Int)] = 1 := by simp
      rw [if_pos rfl, c1]
      omega
    · have c1 : List.count (j : Int) [(i : Int)] = 0 := List.count_eq_zero_of_not_mem (by simp; omega)
      rw [if_neg e, c1]
      omega
  · rw [sum_setX (by omega)]
    have := h.sum
    omega
section
variable {c : Ct} {Γ : List (Option Rs)} {te ta tb : TE} {tt tu : TT} {k ka kb : Kd} {a : Bool} {P : Out → Prop} {n : Nat}
end
end Lm


/-! two places exchanged; drawn changes; which pairs a table keeps -/
namespace Lm
open PySem PySem.Spec PyProof.Rows L2
section
variable {c : Ct} {H H0 : Hp} {O : List Addr} {σ : L2.St} {Γ : List (Option Rs)} {te ta tb tx ty : TE} {k ka kb kc : Kd} {P : Out → Prop} {n m : Nat} {i j x y : Int} {ns : List Int} {u : TS}
end
/-- drawn steps from one assignment to one of another allocation -/
structure Chg (A B g : List Int) (v : Int) (n : Nat) (t : Int) : Prop where
  rng : ∀ x ∈ g, 0 ≤ x ∧ x < v
  len : (g.length : Int) = B.sum
  up : ∀ x : Nat, (x : Int) < v → A.getD x 0 ≤ B.getD x 0 → (g.count (x : Int) : Int) ≤ B.getD x 0
  dn : ∀ x : Nat, (x : Int) < v → B.getD x 0 < A.getD x 0 → (g.count (x : Int) : Int) = if x < n then B.getD x 0 else if x = n then A.getD x 0 - t else A.getD x 0
section
variable {A B g : List Int} {v b : Int} {n : Nat} {t : Int}
theorem Chg.next (h : Chg A B g v n t) (ht : B.getD n 0 < A.getD n 0 → t = A.getD n 0 - B.getD n 0) : Chg A B g v (n + 1) 0 := by
  refine ⟨h.rng, h.len, h.up, fun x hx hd => ?_⟩
  rw [h.dn x hx hd]
  by_cases e : x = n
  · subst e
    rw [if_neg (by omega), if_pos rfl, if_pos (by omega), ht hd]
    omega
  · by_cases q : x < n
    · rw [if_pos q, if_pos (by omega)]
    · rw [if_neg q, if_neg e, if_neg (by omega)]
      split <;> omega
theorem Chg.step (h : Chg A B g v n t) (ht : 0 ≤ t ∧ t < A.getD n 0 - B.getD n 0) (hn : (n : Int) < v) {p x : Nat} (hp : p < g.length) (hg : g.getD p 0 = (n : Int)) (hx : (x : Int) < v) (hw : (g.count (x : Int) : Int) < B.getD x 0) : Chg A B (g.set p (x : Int)) v n (t + 1) := by
  have cn := h.dn n hn (by omega)
  rw [if_neg (by omega), if_pos rfl] at cn
  have nx : x ≠ n := fun e => by subst e; omega
  have e1 : g[p] = (n : Int) := by rw [← hg]; simp [List.getD_eq_getElem?_getD, hp]
  have pos : 1 ≤ g.count (n : Int) := List.count_pos_iff.mpr (e1 ▸ List.getElem_mem hp)
  have cnt : ∀ y : Nat, ((g.set p (x : Int)).count (y : Int) : Int) = (g.count (y : Int) : Int) - (if y = n then 1 else 0) + (if y = x then 1 else 0) := fun y => by
    rw [List.count_set hp, e1]
    by_cases h1 : y = n
    · subst h1
      have : ¬ (x : Int) = (y : Int) := by omega
      simp [this, show ¬ y = x by omega]
      omega
    · by_cases h2 : y = x
      · subst h2
        have : ¬ (n : Int) = (y : Int) := by omega
        simp [this, h1]
      · have a1 : ¬ (n : Int) = (y : Int) := by omega
        have a2 : ¬ (x : Int) = (y : Int) := by omega
        simp [a1, a2, h1, h2]
  refine ⟨fun z hz => ?_, by simpa using h.len, fun y hy hd => ?_, fun y hy hd => ?_⟩
  · rcases List.mem_or_eq_of_mem_set hz with w | w
    · exact h.rng z w
    · omega
  · have := h.up y hy hd
    rw [cnt y]
    by_cases h1 : y = n
    · subst h1; omega
    · by_cases h2 : y = x
      · subst h2; rw [if_neg h1, if_pos rfl]; omega
      · rw [if_neg h1, if_neg h2]; omega
  · have hc := h.dn y hy hd
    have y2 : y ≠ x := fun e => by
      subst e
      rw [hc] at hw
      by_cases q : y < n
      · rw [if_pos q] at hw; omega
      · rw [if_neg q, if_neg nx] at hw; omega
    rw [cnt y, hc, if_neg y2]
    by_cases h1 : y = n
    · subst h1
      rw [if_neg (by omega), if_pos rfl, if_pos rfl, if_neg (by omega), if_pos rfl]
      omega
    · rw [if_neg h1]
      simp only [if_neg h1]
      omega
end
/-! which pairs a table keeps -/
end Lm


/-! which buckets fit: the mathematics -/
namespace Lm
open PySem PySem.Spec PyProof.Rows L2
abbrev Pk := Nat → Bool
/-- all its own are among the chosen -/
def insP (p : Pk) (own : List Int) : Bool := own.all fun y => p y.toNat
def rmP (as : List Int) (p : Pk) : Int := ((List.range as.length).map fun x => if p x then as.getD x 0 else 0).sum
def cfP (C : List (List Int)) (p : Pk) : Int := ((C.filter (insP p)).length : Nat)
def Hall (as : List Int) (C : List (List Int)) : Prop := ∀ p : Pk, cfP C p ≤ rmP as p
def dcI (x : Int) (as : List Int) : List Int := as.set x.toNat (as.getD x.toNat 0 - 1)
theorem dcI_len {x : Int} {as : List Int} : (dcI x as).length = as.length := by simp [dcI]
def b1 (b : Bool) : Int := if b then 1 else 0
theorem cf_cons {own : List Int} {C : List (List Int)} {p : Pk} : cfP (own :: C) p = cfP C p + b1 (insP p own) := by
  unfold cfP b1
  rw [List.filter_cons]
  split <;> simp
theorem cf_nn {C : List (List Int)} {p : Pk} : 0 ≤ cfP C p := by unfold cfP; omega
theorem sum_upd {g h : Nat → Int} : ∀ {n x : Nat}, x < n → (∀ i < n, i ≠ x → h i = g i) → ((List.range n).map h).sum = ((List.range n).map g).sum - g x + h x
  | n + 1, x, hx, e => by
    rw [List.range_succ, List.map_append, List.map_append, List.sum_append, List.sum_append]
    simp only [List.map_cons, List.map_nil, List.sum_cons, List.sum_nil]
    by_cases q : x = n
    · subst q
      have : (List.range x).map h = (List.range x).map g := List.map_congr_left fun i hi => e i (by have := List.mem_range.mp hi; omega) (by have := List.mem_range.mp hi; omega)
      rw [this]
      omega
    · have := sum_upd (n := n) (x := x) (g := g) (h := h) (by omega) fun i hi hn => e i (by omega) hn
      rw [this, e n (by omega) (fun z => q z.symm)]
      omega
theorem rm_dec {x : Int} {as : List Int} (hx : 0 ≤ x ∧ x < as.length) (p : Pk) : rmP (dcI x as) p = rmP as p - b1 (p x.toNat) := by
  unfold rmP
  rw [dcI_len]
  have xl : x.toNat < as.length := by omega
  have s : ∀ i, (dcI x as).getD i 0 = if x.toNat = i then as.getD x.toNat 0 - 1 else as.getD i 0 := fun i => getD_setI xl
  rw [sum_upd (g := fun i => if p i then as.getD i 0 else 0) xl fun i hi hn => by
    have e : (dcI x as).getD i 0 = as.getD i 0 := by rw [s, if_neg (fun z => hn z.symm)]
    rw [e]]
  rw [s, if_pos rfl]
  unfold b1
  split <;> omega
theorem rm_or (as : List Int) (p q : Pk) : rmP as (fun x => p x || q x) + rmP as (fun x => p x && q x) = rmP as p + rmP as q := by
  have e : ∀ (a c : Bool) (n : Int), (if (a || c) = true then n else 0) + (if (a && c) = true then n else 0) = (if a = true then n else 0) + (if c = true then n else 0) := fun a c n => by cases a <;> cases c <;> simp
  unfold rmP
  generalize List.range as.length = l
  induction l with
  | nil => rfl
  | cons x l ih =>
    have h1 := e (p x) (q x) (as.getD x 0)
    simp only [List.map_cons, List.sum_cons]
    simp only at ih
    omega
theorem ins_or {p q : Pk} {own : List Int} : insP p own = true → insP (fun x => p x || q x) own = true := fun h => by
  unfold insP at *
  rw [List.all_eq_true] at *
  intro y hy
  show (p y.toNat || q y.toNat) = true
  rw [h y hy]; rfl
theorem ins_or' {p q : Pk} {own : List Int} : insP q own = true → insP (fun x => p x || q x) own = true := fun h => by
  unfold insP at *
  rw [List.all_eq_true] at *
  intro y hy
  show (p y.toNat || q y.toNat) = true
  rw [h y hy, Bool.or_true]
theorem ins_and {p q : Pk} {own : List Int} : insP (fun x => p x && q x) own = (insP p own && insP q own) := by
  unfold insP
  induction own with
  | nil => rfl
  | cons y l ih =>
    simp only [List.all_cons, ih]
    cases p y.toNat <;> cases q y.toNat <;> simp
theorem cf_or (C : List (List Int)) (p q : Pk) : cfP C p + cfP C q ≤ cfP C (fun x => p x || q x) + cfP C (fun x => p x && q x) := by
  induction C with
  | nil => simp [cfP]
  | cons own C ih =>
    rw [cf_cons, cf_cons, cf_cons, cf_cons, ins_and]
    have h1 := ins_or (p := p) (q := q) (own := own)
    have h2 := ins_or' (p := p) (q := q) (own := own)
    unfold b1
    cases a : insP p own <;> cases c : insP q own <;> cases d : insP (fun x => p x || q x) own <;> simp_all <;> omega
/-- with such a bucket there is more in the two together -/
theorem cf_or1 {own : List Int} {C : List (List Int)} {p q : Pk} (h1 : insP p own = false) (h2 : insP q own = false) (h3 : insP (fun x => p x || q x) own = true) :
    cfP (own :: C) p + cfP (own :: C) q + 1 ≤ cfP (own :: C) (fun x => p x || q x) + cfP (own :: C) (fun x => p x && q x) := by
  have := cf_or C p q
  rw [cf_cons, cf_cons, cf_cons, cf_cons, ins_and, h1, h2, h3]
  simp only [b1, Bool.false_and, if_true, if_false, Bool.false_eq_true]
  omega
theorem hall_back {as own : List Int} {C : List (List Int)} {x : Int} (hx : x ∈ own) (x0 : 0 ≤ x ∧ x < as.length) (h : Hall (dcI x as) C) : Hall as (own :: C) := fun p => by
  have := h p
  rw [rm_dec x0] at this
  rw [cf_cons]
  unfold b1 at *
  cases q : insP p own with
  | false => split at this <;> simp only [if_false, Bool.false_eq_true] <;> omega
  | true =>
    unfold insP at q
    rw [List.all_eq_true.mp q x hx] at this
    simp only [if_true] at *
    omega
theorem hall_step {as own : List Int} {C : List (List Int)} (hr : ∀ y ∈ own, 0 ≤ y ∧ y < as.length) (h : Hall as (own :: C)) : ∃ x ∈ own, Hall (dcI x as) C := by
  refine Classical.byContradiction fun hc => ?_
  have bad : ∀ x ∈ own, ∃ p : Pk, p x.toNat = true ∧ insP p own = false ∧ cfP (own :: C) p = rmP as p := fun x hx => by
    refine Classical.byContradiction fun hn => hc ⟨x, hx, fun p => ?_⟩
    have hp := h p
    rw [rm_dec (hr x hx)]
    have hp' := hp
    rw [cf_cons] at hp
    unfold b1 at *
    cases q : insP p own with
    | true =>
      rw [q] at hp
      unfold insP at q
      rw [List.all_eq_true.mp q x hx]
      simp only [if_true] at *
      omega
    | false =>
      rw [q] at hp
      cases z : p x.toNat with
      | false => simp only [if_false, Bool.false_eq_true] at *; omega
      | true =>
        have ne : cfP (own :: C) p ≠ rmP as p := fun e => hn ⟨p, z, q, e⟩
        have e2 : cfP (own :: C) p = cfP C p := by rw [cf_cons, q]; simp [b1]
        simp only [if_true]
        omega
  have key : ∀ xs : List Int, (∀ x ∈ xs, x ∈ own) → ∃ U : Pk, insP U own = false ∧ (∀ x ∈ xs, U x.toNat = true) ∧ cfP (own :: C) U = rmP as U := by
    intro xs
    induction xs with
    | nil =>
      intro _
      have h0 := h fun _ => false
      have r0 : rmP as (fun _ => false) = 0 := by
        unfold rmP
        simp only [Bool.false_eq_true, if_false]
        exact sum_zeroN _
      have c0 := cf_nn (C := own :: C) (p := fun _ => false)
      have c1 := cf_nn (C := C) (p := fun _ => false)
      have hc0 := cf_cons (own := own) (C := C) (p := fun _ => false)
      refine ⟨fun _ => false, ?_, by simp, by omega⟩
      cases q : insP (fun _ => false) own with
      | false => rfl
      | true => rw [q] at hc0; simp only [b1, if_true] at hc0; omega
    | cons x xs ih =>
      intro hs
      obtain ⟨U, u1, u2, u3⟩ := ih fun y hy => hs y (by simp [hy])
      obtain ⟨p, p1, p2, p3⟩ := bad x (hs x (by simp))
      have hW := h fun y => U y || p y
      have hA := h fun y => U y && p y
      have ro := rm_or as U p
      refine ⟨fun y => U y || p y, ?_, fun y hy => ?_, ?_⟩
      · cases q : insP (fun y => U y || p y) own with
        | false => rfl
        | true =>
          have := cf_or1 (C := C) u1 p2 q
          omega
      · rcases List.mem_cons.mp hy with w | w
        · rw [w]; simp [p1]
        · simp [u2 y w]
      · have := cf_or (own :: C) U p
        omega
  obtain ⟨U, u1, u2, _⟩ := key own fun x hx => hx
  have : insP U own = true := by
    unfold insP
    rw [List.all_eq_true]
    exact u2
  rw [this] at u1
  cases u1
where sum_zeroN : ∀ l : List Nat, (l.map fun _ => (0 : Int)).sum = 0
  | [] => rfl
  | a :: l => by rw [List.map_cons, List.sum_cons, sum_zeroN l]; rfl
/-- each bucket has one of its own, and all shares are used up -/
def Fits : List Int → List (List Int) → List Int → Prop
  | as, [], [] => ∀ x ∈ as, x = 0
  | as, own :: C, x :: f => x ∈ own ∧ Fits (dcI x as) C f
  | _, _, _ => False
theorem sum_dcI {x : Int} {as : List Int} (hx : 0 ≤ x ∧ x < as.length) : (dcI x as).sum = as.sum - 1 := by
  unfold dcI
  rw [sum_setX (by omega)]
  omega
theorem rm_one {as : List Int} {x : Nat} (hx : x < as.length) : rmP as (fun y => decide (y = x)) = as.getD x 0 := by
  unfold rmP
  rw [sum_upd (g := fun _ => 0) hx fun i _ hn => by simp [hn], hall_step.sum_zeroN]
  simp
theorem hall_nn {as : List Int} {C : List (List Int)} (h : Hall as C) : ∀ x ∈ as, 0 ≤ x := fun x hx => by
  obtain ⟨i, hi⟩ := List.getElem?_of_mem hx
  have il := (List.getElem?_eq_some_iff.mp hi).1
  have := h fun y => decide (y = i)
  rw [rm_one il] at this
  have c := cf_nn (C := C) (p := fun y => decide (y = i))
  have e : as.getD i 0 = x := by rw [List.getD_eq_getElem?_getD, hi]; rfl
  omega
def Rng (C : List (List Int)) (n : Nat) : Prop := ∀ own ∈ C, ∀ y ∈ own, 0 ≤ y ∧ y < (n : Int)
theorem fit_hall : ∀ {C : List (List Int)} {as f : List Int}, Rng C as.length → Fits as C f → Hall as C
  | [], as, [], _, h => fun p => by
    have z : ∀ x ∈ as, x = 0 := h
    have e : rmP as p = 0 := by
      unfold rmP
      rw [List.map_congr_left (g := fun _ => (0 : Int)) fun i hi => by
        have : as.getD i 0 = 0 := z _ (gd_mem (List.mem_range.mp hi))
        rw [this]; split <;> rfl]
      exact hall_step.sum_zeroN _
    rw [e]
    simp [cfP]
  | own :: C, as, x :: f, hr, h => by
    obtain ⟨hx, hf⟩ := h
    exact hall_back hx (hr own (by simp) x hx) (fit_hall (by rw [dcI_len]; exact fun o ho => hr o (by simp [ho])) hf)
  | [], _, _ :: _, _, h => absurd h id
  | _ :: _, _, [], _, h => absurd h id
open Classical in
noncomputable def grd : List Int → List (List Int) → List Int
  | _, [] => []
  | as, own :: C => (own.filter fun x => decide (Hall (dcI x as) C)).headD 0 :: grd (dcI ((own.filter fun x => decide (Hall (dcI x as) C)).headD 0) as) C
theorem headF_mem {l : List Int} {p : Int → Bool} (h : ∃ x ∈ l, p x = true) : (l.filter p).headD 0 ∈ l ∧ p ((l.filter p).headD 0) = true := by
  obtain ⟨x, hx, hp⟩ := h
  have m : x ∈ l.filter p := List.mem_filter.mpr ⟨hx, hp⟩
  cases q : l.filter p with
  | nil => rw [q] at m; cases m
  | cons y r =>
    have : y ∈ l.filter p := by rw [q]; simp
    exact List.mem_filter.mp this
open Classical in
theorem grd_fit : ∀ {C : List (List Int)} {as : List Int}, Rng C as.length → Hall as C → as.sum = C.length → Fits as C (grd as C)
  | [], as, _, h, hs => fun x hx => by
    have nn := hall_nn h
    have := nn x hx
    have := le_sum nn x hx
    simp at hs
    omega
  | own :: C, as, hr, h, hs => by
    have ro := hr own (by simp)
    obtain ⟨x, hx, hh⟩ := hall_step ro h
    obtain ⟨m1, m2⟩ := headF_mem (l := own) (p := fun x => decide (Hall (dcI x as) C)) ⟨x, hx, decide_eq_true hh⟩
    have m2 := of_decide_eq_true m2
    refine ⟨m1, grd_fit (by rw [dcI_len]; exact fun o ho => hr o (by simp [ho])) m2 ?_⟩
    rw [sum_dcI (ro _ m1), hs]
    simp
end Lm


/-! which buckets fit: by all sets of variants -/
namespace Lm
open PySem PySem.Spec PyProof.Rows L2
theorem cmb_sub : ∀ {l : List Nat} {k : Nat} {s : List Nat}, s ∈ cmbL l k → s.Sublist l
  | _, 0, s, h => by
    have : s = [] := by simpa [cmbL] using h
    rw [this]
    exact List.nil_sublist _
  | [], k + 1, s, h => by simp [cmbL] at h
  | a :: l, k + 1, s, h => by
    rcases List.mem_append.mp h with w | w
    · obtain ⟨t, ht, rfl⟩ := List.mem_map.mp w
      exact (cmb_sub ht).cons_cons a
    · exact (cmb_sub w).cons a
theorem cmb_filter (p : Nat → Bool) : ∀ l : List Nat, l.filter p ∈ cmbL l (l.filter p).length
  | [] => by simp [cmbL]
  | a :: l => by
    have ih := cmb_filter p l
    rw [List.filter_cons]
    by_cases h : p a = true
    · rw [if_pos h, List.length_cons]
      exact List.mem_append_left _ (List.mem_map_of_mem ih)
    · rw [if_neg h]
      cases q : (l.filter p).length with
      | zero => rw [List.eq_nil_of_length_eq_zero q]; simp [cmbL]
      | succ k => rw [q] at ih; exact List.mem_append_right _ ih
/-- all sets of variants, the smaller ones first -/
def vsN (v : Nat) : List (List Nat) := (List.range (v + 1)).flatMap fun k => cmbs v k
theorem vs_sub {v : Nat} {s : List Nat} (h : s ∈ vsN v) : s.Sublist (List.range v) := by
  obtain ⟨k, _, hs⟩ := List.mem_flatMap.mp h
  exact cmb_sub hs
theorem vs_filter (v : Nat) (p : Nat → Bool) : (List.range v).filter p ∈ vsN v := by
  refine List.mem_flatMap.mpr ⟨((List.range v).filter p).length, List.mem_range.mpr ?_, cmb_filter p _⟩
  have := List.length_filter_le p (List.range v)
  rw [List.length_range] at this
  omega
def inS (s : List Nat) : Pk := fun x => decide (x ∈ s)
/-- what a set of variants has, and how many buckets need it -/
def roomI (as : List Int) (s : List Nat) : Int := (s.map fun x => as.getD x 0).sum
theorem sum_sub {g : Nat → Int} : ∀ {l s : List Nat}, s.Sublist l → l.Nodup → (s.map g).sum = (l.map fun x => if decide (x ∈ s) then g x else 0).sum
  | _, _, .slnil, _ => rfl
  | a :: l, s, .cons _ h, nd => by
    have na : a ∉ s := fun m => (List.nodup_cons.mp nd).1 (h.subset m)
    rw [List.map_cons, List.sum_cons, sum_sub h (List.nodup_cons.mp nd).2, decide_eq_false na]
    simp
  | a :: l, _ :: s, .cons_cons _ h, nd => by
    have nd' := List.nodup_cons.mp nd
    rw [List.map_cons, List.sum_cons, List.map_cons, List.sum_cons, sum_sub h nd'.2]
    have e : (l.map fun x => if decide (x ∈ s) then g x else 0) = l.map fun x => if decide (x ∈ a :: s) then g x else 0 := List.map_congr_left fun x hx => by
      have : x ≠ a := fun e => nd'.1 (e ▸ hx)
      simp [this]
    rw [e]
    simp
theorem room_rm {as : List Int} {s : List Nat} (h : s ∈ vsN as.length) : roomI as s = rmP as (inS s) := sum_sub (vs_sub h) List.nodup_range
theorem fits_iff : ∀ {C : List (List Int)} {as f : List Int}, Rng C as.length → (Fits as C f ↔ f.length = C.length ∧ (∀ i < f.length, f.getD i 0 ∈ C.getD i []) ∧ ∀ x < as.length, (f.count (x : Int) : Int) = as.getD x 0)
  | [], as, [], _ => by
    constructor
    · intro h
      exact ⟨rfl, by simp, fun x hx => by
        have h' : ∀ x ∈ as, x = 0 := h
        rw [h' _ (gd_mem hx)]; rfl⟩
    · rintro ⟨_, _, h⟩ x hx
      obtain ⟨i, hi⟩ := List.getElem?_of_mem hx
      have := h i (List.getElem?_eq_some_iff.mp hi).1
      rw [List.getD_eq_getElem?_getD, hi] at this
      simpa using this.symm
  | own :: C, as, x :: f, hr => by
    have rC : Rng C (dcI x as).length := by rw [dcI_len]; exact fun o ho => hr o (by simp [ho])
    have ih := fits_iff (as := dcI x as) (f := f) rC
    have cnt : ∀ (x0 : 0 ≤ x ∧ x < as.length) (y : Nat), y < as.length → (((x :: f).count (y : Int) : Int) = as.getD y 0 ↔ (f.count (y : Int) : Int) = (dcI x as).getD y 0) := fun x0 y hy => by
      have e : (dcI x as).getD y 0 = if x.toNat = y then as.getD x.toNat 0 - 1 else as.getD y 0 := getD_setI (by omega)
      rw [e, List.count_cons]
      by_cases w : x.toNat = y
      · subst w
        have : x = ((x.toNat : Nat) : Int) := by omega
        rw [if_pos rfl, if_pos (by rw [beq_iff_eq]; exact this)]
        omega
      · have : ¬ x = (y : Int) := by omega
        rw [if_neg w, if_neg (by simpa using this)]
        omega
    show x ∈ own ∧ Fits (dcI x as) C f ↔ _
    rw [ih, dcI_len]
    constructor
    · rintro ⟨hx, h1, h2, h3⟩
      have x0 := hr own (by simp) x hx
      refine ⟨by simp [h1], fun i hi => ?_, fun y hy => (cnt x0 y hy).mpr (h3 y hy)⟩
      cases i with
      | zero => exact hx
      | succ i => exact h2 i (by simpa using hi)
    · rintro ⟨h1, h2, h3⟩
      have hx : x ∈ own := h2 0 (by simp)
      have x0 := hr own (by simp) x hx
      exact ⟨hx, by simpa using h1, fun i hi => h2 (i + 1) (by simpa using hi), fun y hy => (cnt x0 y hy).mp (h3 y hy)⟩
  | [], _, _ :: _, _ => by simp [Fits]
  | _ :: _, _, [], _ => by simp [Fits]
end Lm


/-! which buckets fit: the promises -/
namespace Lm
open PySem PySem.Spec PyProof.Rows L2
structure Mns (C : List (List Int)) (n : Nat) : Prop where
  rng : Rng C n
  len : C.length ≤ 20
  own : ∀ own ∈ C, own.length ≤ 5
section
variable {c : Ct} {Γ : List (Option Rs)} {tl : TE} {k : Kd} {C : List (List Int)} {d : PyData}
end
end Lm


/-! sorted(set(..)) of ints, and of rows -/
namespace Lm
open PySem PySem.Spec PyProof.Rows L2
section
variable {X : Cx}
section
variable {K : PySem.W.Frag} (hK : X.K = K)
include hK
end
end
/-- each value once, ascending -/
def sdI (ns : List Int) : List Int := sortI (dd ns)
theorem asc_unique : ∀ {as bs : List Int}, as.Pairwise (· < ·) → bs.Pairwise (· < ·) → (∀ x, x ∈ as ↔ x ∈ bs) → as = bs
  | [], [], _, _, _ => rfl
  | [], b :: _, _, _, h => absurd ((h b).mpr (by simp)) (by simp)
  | a :: _, [], _, _, h => absurd ((h a).mp (by simp)) (by simp)
  | a :: as, b :: bs, pa, pb, h => by
    have qa := List.pairwise_cons.mp pa
    have qb := List.pairwise_cons.mp pb
    have ab : a = b := by
      have h1 : a ∈ b :: bs := (h a).mp (by simp)
      have h2 : b ∈ a :: as := (h b).mpr (by simp)
      rcases List.mem_cons.mp h1 with w | w
      · exact w
      · rcases List.mem_cons.mp h2 with u | u
        · exact u.symm
        · have := qb.1 a w; have := qa.1 b u; omega
    subst ab
    rw [asc_unique qa.2 qb.2 fun x => ?_]
    constructor
    · intro hx
      rcases List.mem_cons.mp ((h x).mp (by simp [hx])) with w | w
      · subst w; have := qa.1 x hx; omega
      · exact w
    · intro hx
      rcases List.mem_cons.mp ((h x).mpr (by simp [hx])) with w | w
      · subst w; have := qb.1 x hx; omega
      · exact w
theorem pw_strict {l : List Int} (p : l.Pairwise (· ≤ ·)) (nd : l.Nodup) : l.Pairwise (· < ·) := by
  rw [List.pairwise_iff_getElem] at *
  intro i j hi hj hij
  have h1 := p i j hi hj hij
  have h2 : l[i] ≠ l[j] := List.pairwise_iff_getElem.mp nd i j hi hj hij
  omega
theorem sd_pw (ns : List Int) : (sdI ns).Pairwise (· < ·) := pw_strict (sortI_pw _) ((sortI_perm _).nodup_iff.mpr nd_dd)
theorem mem_sd {ns : List Int} {x : Int} : x ∈ sdI ns ↔ x ∈ ns := by
  unfold sdI
  rw [(sortI_perm _).mem_iff, mem_dd]
section
variable {c : Ct} {Γ : List (Option Rs)} {te : TE} {k : Kd}
end
end Lm


/-! shortages, and how rules go on -/
namespace Lm
open PySem PySem.Spec PyProof.Rows L2
/-- the first set of variants that is too small -/
def shS (as : List Int) (C : List (List Int)) : Option (List Nat) := (vsN as.length).find? fun s => decide (roomI as s < cfP C (inS s))
theorem sh_some {as : List Int} {C : List (List Int)} {s : List Nat} (h : shS as C = some s) : s ∈ vsN as.length ∧ roomI as s < cfP C (inS s) := by
  unfold shS at h
  have q := List.find?_some h
  exact ⟨List.mem_of_find?_eq_some h, by simpa using q⟩
section
variable {c : Ct} {Γ : List (Option Rs)} {tl tb : TE} {kb : Kd} {C : List (List Int)} {cd : PyData}
end
/-! rules -/
end Lm


/-! strings in comparisons; whys -/
namespace Lm
open PySem PySem.Spec PyProof.Rows L2
theorem str_ok (s : String) : PyData.strOk (Str.ofString s) = true := by
  rw [Str.ofString_eq_toList]
  unfold PyData.strOk
  simp only [List.all_toArray, List.all_map, List.all_eq_true, Function.comp, decide_eq_true_eq]
  intro c _
  rcases c.valid with h | h
  · exact Nat.lt_trans h (by decide)
  · exact h.2
theorem sh_str {n : Nat} {s : String} : Sh n (.str (Str.ofString s)) := ⟨str_ok s, by simp [PyData.depth]⟩
theorem shapedS2 {s t : String} : SeqAt.shaped (.tuple [.str (Str.ofString s), .str (Str.ofString t)]) = true := (sh_tup (n := 0) (ds := [.str (Str.ofString s), .str (Str.ofString t)]) (by simp [sh_str])).ok (by decide)
end Lm


/-! a list of one's own put into another -/
namespace Lm
open PySem PySem.Spec PyProof.Rows L2
section
variable {c : Ct} {H H0 : Hp} {O : List Addr} {σ : L2.St} {Γ : List (Option Rs)} {ds : List PyData} {d : PyData} {n m : Nat} {P : Out → Prop} {u : TS}
theorem Env.gift (e : Env c H0 O H σ Γ) (hn : Γ[n]? = some (some (.o (.list ds)))) (hm : Γ[m]? = some (some (.o d))) (ne : n ≠ m) :
    ∃ p xs v, σ[n]? = some (some (.ref p)) ∧ σ[m]? = some (some v) ∧ H p = some (.lst xs) ∧ xs.length = ds.length ∧ Env c H0 O (upd H p (.lst (xs ++ [v]))) σ ((Γ.set m none).set n (some (.o (.list (ds ++ [d]))))) := by
  obtain ⟨fp, hr, nd, sub⟩ := e.rep
  obtain ⟨x, f, pre, post, hx, ⟨v, rfl, fo⟩, hfp, up⟩ := hr.nth hm
  subst hfp
  have r1 : Reps c O H (σ.set m (some v)) (Γ.set m none) (pre ++ ([] ++ post)) := up O H (some v) none [] (fun _ _ _ _ z => z) rfl
  have es : σ.set m (some v) = σ := by
    obtain ⟨hlt, e1⟩ := List.getElem?_eq_some_iff.mp hx
    rw [← e1]
    exact List.set_getElem_self hlt
  rw [es] at r1
  have hn' : (Γ.set m none)[n]? = some (some (.o (.list ds))) := by rw [List.getElem?_set_ne (Ne.symm ne)]; exact hn
  obtain ⟨y, f0, pre2, post2, hy, ⟨w, rfl, b⟩, hfp2, up2⟩ := r1.nth hn'
  obtain ⟨p, xs, g, rfl, rfl, hp, hfa⟩ := b.list'
  rw [List.nil_append] at hfp2
  have p1 : (pre ++ (f ++ post)).Perm (f ++ (pre ++ post)) := by
    rw [← List.append_assoc, ← List.append_assoc]
    exact List.Perm.append_right _ List.perm_append_comm
  have nd1 := p1.nodup_iff.mp nd
  rw [hfp2] at nd1
  have p2 : (f ++ (pre2 ++ ((p :: g) ++ post2))).Perm (pre2 ++ ((p :: (g ++ f)) ++ post2)) := by
    have q1 : (f ++ (pre2 ++ ((p :: g) ++ post2))).Perm ((pre2 ++ ((p :: g) ++ post2)) ++ f) := List.perm_append_comm
    refine q1.trans ?_
    rw [List.append_assoc, List.append_assoc]
    refine List.Perm.append_left _ ?_
    show ((p :: g) ++ (post2 ++ f)).Perm (((p :: g) ++ f) ++ post2)
    rw [List.append_assoc]
    exact List.Perm.append_left _ List.perm_append_comm
  have nd2 := p2.nodup_iff.mp nd1
  have subs : ∀ a ∈ pre2 ++ ((p :: (g ++ f)) ++ post2), a ∈ O := fun a ha => sub a (p1.mem_iff.mpr (by rw [hfp2]; exact p2.mem_iff.mpr ha))
  have hpO : p ∈ O := subs p (by simp)
  have mid := (List.nodup_append.mp (List.nodup_append.mp nd2).2.1).1
  have hpg : p ∉ g ++ f := (List.nodup_cons.mp mid).1
  have np : ∀ a ∈ pre2 ++ post2, a ≠ p := fun a ha w => by
    subst w
    rcases List.mem_append.mp ha with u | u
    · exact (List.nodup_append.mp nd2).2.2 a u a (by simp) rfl
    · exact (List.nodup_append.mp (List.nodup_append.mp nd2).2.1).2.2 a (by simp) a u rfl
  have em : mns (upd H p (.lst (xs ++ [v]))) O = mns H O := by
    funext a
    by_cases ha : a ∈ O
    · rw [mns_in ha, mns_in ha]
    · rw [mns_out ha, mns_out ha, upd_ne (fun z => ha (by rw [z]; exact hpO))]
  have lx : xs.length = ds.length := (hfa.bo fun a ha => e.okO a (subs a (by simp [ha]))).len
  refine ⟨p, xs, v, hy, hx, hp, lx, by rw [em]; exact e.r0, by rw [em]; exact e.j, e.fr, fun a ha => ?_, ?_⟩
  · by_cases q : a = p
    · rw [q]; exact ⟨_, upd_same, trivial⟩
    · rw [upd_ne q]; exact e.dm a ha
  · have hσ : σ.set n (some (.ref p)) = σ := by
      obtain ⟨hlt, e1⟩ := List.getElem?_eq_some_iff.mp hy
      rw [← e1]
      exact List.set_getElem_self hlt
    have fa : FoAll c (upd H p (.lst (xs ++ [v]))) (xs ++ [v]) (ds ++ [d]) (g ++ f) := by
      have := hfa.app (.cons fo .nil : FoAll c H [v] [d] (f ++ []))
      rw [List.append_nil] at this
      exact this.up (fun _ _ s => sqT_upd hp s) fun a ha o z => by
        have : a ≠ p := fun w => hpg (w ▸ ha)
        rw [upd_ne this]; exact z
    have := up2 O (upd H p (.lst (xs ++ [v]))) (some (.ref p)) (some (.o (.list (ds ++ [d])))) (p :: (g ++ f)) (fun y t h q z => ?_) ⟨.ref p, rfl, .lst upd_same fa⟩
    · rw [hσ] at this
      exact ⟨_, this, nd2, subs⟩
    · cases t with
      | none => exact z
      | some t =>
        cases t with
        | v d => exact ⟨z.1, z.2.elim fun v hv => ⟨v, hv.1, by rw [em]; exact hv.2⟩⟩
        | o d =>
          refine z.elim fun v hv => ⟨v, hv.1, hv.2.up (fun _ _ s => sqT_upd hp s) fun a ha o ho => ?_⟩
          rw [upd_ne (np a (q a ha))]
          exact ho
        | r y => exact z
        | d u =>
          refine z.elim fun a ⟨w1, w2, w3, w4⟩ => ⟨a, w1, w2, ?_, w4⟩
          rw [upd_ne (np a (q a (by rw [w1]; simp)))]
          exact w3
        | w ds =>
          refine z.elim fun a ⟨xs, w1, w2, w3, w4⟩ => ⟨a, xs, w1, w2, ?_, by rw [em]; exact w4⟩
          rw [upd_ne (np a (q a (by rw [w1]; simp)))]
          exact w3
end
end Lm


/-! zip of a list and a tuple -/
namespace Lm
open PySem PySem.Spec PyProof.Rows L2
def ItM (t : Bool) (h : Heap) (i a : Addr) (k : Nat) : Prop := match t with
  | true => h.IsListIter i a k
  | false => h.IsTupleIter i a k
theorem ItM.at {t : Bool} {h h' : Heap} {i a : Addr} {k : Nat} (x : ItM t h i a k) (f : ∀ o, h.get? i = some o → h'.get? i = some o) : ItM t h' i a k := by
  cases t
  · exact Heap.IsTupleIter.at x f
  · exact Heap.IsListIter.at x f
end Lm


/-! walks over zip of a list and a tuple; pairs that are drawn; forbidden pairs, pins, menus, bounds by levels -/
namespace Lm
open PySem PySem.Spec PyProof.Rows L2
section
variable {X : Cx} {K : PySem.W.Frag} (hK : X.K = K)
include hK
end
section
variable {c : Ct} {H H' H0 H1 H2 H3 : Hp} {O : List Addr} {Γ Γ' Γ1 : List (Option Rs)}
variable {te ta tb tx ty : TE} {k ka kb kc : Kd} {d x y z : PyData} {ds es : List PyData}
end
/-! ### mathematics -/
/-- pairs of buckets and variants, ascending -/
structure Prd (F : List (List Int)) (v b : Nat) : Prop where
  row : ∀ r ∈ F, ∃ x y : Nat, r = [(x : Int), (y : Int)] ∧ x < b ∧ y < v
  asc : F.Pairwise fun a b => TS.code 1000 a < TS.code 1000 b
  len : F.length ≤ 36
theorem Prd.filter {F : List (List Int)} {v b : Nat} (h : Prd F v b) (p : List Int → Bool) : Prd (F.filter p) v b :=
  ⟨fun r hr => h.row r (List.mem_filter.mp hr).1, h.asc.filter _, Nat.le_trans (List.length_filter_le _ _) h.len⟩
/-- pins: of different buckets -/
structure Pin (P : List (List Int)) (v b : Nat) : Prop extends Prd P v b where
  fst : P.Pairwise fun p q => p.getD 0 0 < q.getD 0 0
def psL (as : List Int) (v : Int) (b : Nat) (C : List (List Int)) : List (List Int) := (allL v b).filter fun f => decide (countsI f v = as) && ((List.range b).map fun k => decide (f.getD k 0 ∈ C.getD k [])).all id
theorem mem_psL {as f : List Int} {v : Int} {b : Nat} {C : List (List Int)} (hv : 0 ≤ v) : f ∈ psL as v b C ↔ f.length = b ∧ (∀ x ∈ f, 0 ≤ x ∧ x < v) ∧ countsI f v = as ∧ ∀ k < b, f.getD k 0 ∈ C.getD k [] := by
  unfold psL
  rw [List.mem_filter, mem_allL hv, Bool.and_eq_true, List.all_map, List.all_eq_true]
  simp only [decide_eq_true_eq, List.mem_range, Function.comp, id]
  constructor
  · rintro ⟨⟨h1, h2⟩, h3, h4⟩; exact ⟨h1, h2, h3, h4⟩
  · rintro ⟨h1, h2, h3, h4⟩; exact ⟨⟨h1, h2⟩, h3, h4⟩
def wrtI (h : Int) (ls : List Int) (y : Int) : Int := (if y = h then 1 else 0) - ls.getD y.toNat 0
def gw (own : List Int) (h : Int) (ls : List Int) : Int := mxL (own.map (wrtI h ls))
def gwS (C : List (List Int)) (f ls : List Int) : Int := ((C.zip f).map fun p => gw p.1 p.2 ls).sum
def mulI (a b : Int) : Int := a * b
theorem gw_ge {own ls : List Int} {h y : Int} (hy : y ∈ own) : wrtI h ls y ≤ gw own h ls := mxL_le _ (List.mem_map_of_mem hy)
/-- no row keeps more than the bound, less the levels it takes -/
theorem kept_le {ls : List Int} : ∀ {C : List (List Int)} {f r : List Int}, C.length = f.length → r.length = f.length → (∀ k < r.length, r.getD k 0 ∈ C.getD k []) →
    (f.length : Int) - zs ne1 f r ≤ gwS C f ls + (r.map fun y => ls.getD y.toNat 0).sum
  | [], [], [], _, _, _ => by simp [gwS, zs]
  | own :: C, h :: f, y :: r, h1, h2, hm => by
    have ih := kept_le (ls := ls) (C := C) (f := f) (r := r) (by simpa using h1) (by simpa using h2) fun k hk => by have := hm (k + 1) (by simpa using hk); simpa using this
    have m0 : y ∈ own := by have := hm 0 (by simp); simpa using this
    have g := gw_ge (ls := ls) (h := h) m0
    have e : gwS (own :: C) (h :: f) ls = gw own h ls + gwS C f ls := by simp [gwS]
    have en : ne1 h y = if h = y then 0 else 1 := rfl
    rw [zs_cons, e, en, List.map_cons, List.sum_cons, List.length_cons]
    unfold wrtI at g
    by_cases q : h = y
    · rw [if_pos q.symm] at g
      rw [if_pos q]
      omega
    · rw [if_neg (fun z => q z.symm)] at g
      rw [if_neg q]
      omega
  | [], _ :: _, _, h, _, _ => by simp at h
  | _ :: _, [], _, h, _, _ => by simp at h
  | _, [], _ :: _, _, h, _ => by simp at h
  | _, _ :: _, [], _, h, _ => by simp at h
theorem nil_sum {α : Type} : ∀ l : List α, (l.map fun _ => (0 : Int)).sum = 0
  | [] => rfl
  | _ :: l => by rw [List.map_cons, List.sum_cons, nil_sum l]; rfl
theorem pick_sum {g : Nat → Int} {x : Nat} : ∀ n : Nat, x < n → ((List.range n).map fun k => if k = x then g k else 0).sum = g x
  | 0, h => by omega
  | n + 1, h => by
    rw [List.range_succ, List.map_append, List.sum_append, List.map_singleton, List.sum_singleton]
    by_cases e : x = n
    · subst e
      have : ((List.range x).map fun k => if k = x then g k else 0) = (List.range x).map fun _ => (0 : Int) := List.map_congr_left fun k hk => if_neg (by have := List.mem_range.mp hk; omega)
      rw [this, if_pos rfl, nil_sum]
      omega
    · rw [pick_sum n (by omega), if_neg (fun z => e z.symm)]
      omega
/-- what the levels give in all -/
theorem lev_sum {ls : List Int} {v : Nat} (hl : ls.length = v) : ∀ {r : List Int}, (∀ x ∈ r, 0 ≤ x ∧ x < (v : Int)) → (r.map fun y => ls.getD y.toNat 0).sum = zs mulI (countsI r v) ls
  | [], _ => by
    unfold zs
    rw [countsI_len, Int.toNat_natCast]
    have : ((List.range v).map fun j => mulI ((countsI [] v).getD j 0) (ls.getD j 0)) = (List.range v).map fun _ => (0 : Int) := List.map_congr_left fun j hj => by
      rw [countsI_get (by have := List.mem_range.mp hj; omega)]
      simp [mulI]
    rw [this, nil_sum]
    rfl
  | y :: r, h => by
    have ih := lev_sum hl (r := r) fun x hx => h x (by simp [hx])
    obtain ⟨y0, y1⟩ := h y (by simp)
    obtain ⟨Y, rfl⟩ := Int.eq_ofNat_of_zero_le y0
    rw [List.map_cons, List.sum_cons, ih, Int.toNat_natCast]
    unfold zs
    rw [countsI_len, countsI_len, Int.toNat_natCast]
    have e : ∀ j ∈ List.range v, mulI ((countsI ((Y : Int) :: r) v).getD j 0) (ls.getD j 0) = (if j = Y then ls.getD j 0 else 0) + mulI ((countsI r v).getD j 0) (ls.getD j 0) := fun j hj => by
      have hj' : (j : Int) < v := by have := List.mem_range.mp hj; omega
      rw [countsI_get hj', countsI_get hj', List.count_cons]
      unfold mulI
      by_cases q : j = Y
      · subst q
        simp [Int.add_mul]
        omega
      · have : ¬ ((Y : Int) = (j : Int)) := by omega
        simp [q, this]
    rw [List.map_congr_left e]
    have add : ∀ (f g : Nat → Int) (l : List Nat), (l.map fun i => f i + g i).sum = (l.map f).sum + (l.map g).sum := fun f g l => by
      induction l with
      | nil => rfl
      | cons a l ih => rw [List.map_cons, List.sum_cons, List.map_cons, List.sum_cons, List.map_cons, List.sum_cons, ih]; omega
    rw [add, pick_sum (g := fun j => ls.getD j 0) v (by omega)]
/-- no possible assignment keeps more than the bound -/
theorem weak {as f r ls : List Int} {v b : Nat} {C : List (List Int)} (hC : C.length = b) (hf : f.length = b) (hl : ls.length = v) (hr : r ∈ psL as v b C) : [] ∉ C ∧ (b : Int) - zs ne1 f r ≤ zs mulI as ls + gwS C f ls := by
  obtain ⟨h1, h2, h3, h4⟩ := (mem_psL (by omega)).mp hr
  refine ⟨fun z => ?_, ?_⟩
  · obtain ⟨k, hk, e⟩ := List.getElem_of_mem z
    have := h4 k (by omega)
    rw [List.getD_eq_getElem?_getD, List.getD_eq_getElem?_getD, List.getElem?_eq_getElem hk, e] at this
    simp at this
  · have := kept_le (ls := ls) (C := C) (f := f) (r := r) (by omega) (by omega) fun k hk => h4 k (by omega)
    rw [lev_sum hl h2, h3] at this
    omega
end Lm


/-! forbidden pairs and pins that are drawn; promises -/
namespace Lm
open PySem PySem.Spec PyProof.Rows L2
structure PrdN (F : List (List Int)) (v n m : Nat) : Prop where
  row : ∀ r ∈ F, ∃ x y : Nat, r = [(x : Int), (y : Int)] ∧ y < v ∧ x * 1000 + y < n * 1000 + m
  asc : F.Pairwise fun a b => TS.code 1000 a < TS.code 1000 b
  len : F.length ≤ n * v + m
theorem PrdN.nil {v : Nat} : PrdN [] v 0 0 := ⟨by simp, List.Pairwise.nil, by simp⟩
theorem PrdN.next {F : List (List Int)} {v n : Nat} (h : PrdN F v n v) (hv : v ≤ 5) : PrdN F v (n + 1) 0 :=
  ⟨fun r hr => let ⟨x, y, e, a, b⟩ := h.row r hr; ⟨x, y, e, a, by omega⟩, h.asc, by have := h.len; rw [Nat.add_mul]; omega⟩
structure PinN (P : List (List Int)) (v n : Nat) : Prop where
  row : ∀ r ∈ P, ∃ x y : Nat, r = [(x : Int), (y : Int)] ∧ x < n ∧ y < v
  fst : P.Pairwise fun p q => p.getD 0 0 < q.getD 0 0
  len : P.length ≤ n
theorem PinN.nil {v : Nat} : PinN [] v 0 := ⟨by simp, List.Pairwise.nil, by simp⟩
theorem Pin.nil {v b : Nat} : Pin [] v b := { row := by simp, fst := List.Pairwise.nil, len := by simp, asc := List.Pairwise.nil }
structure Exc (as f : List Int) (F P : List (List Int)) (v b : Nat) : Prop where
  v1 : 1 ≤ v
  v5 : v ≤ 5
  b6 : b ≤ 6
  asg : Asg f (v : Int)
  len : f.length = b
  alc : Alc as (v : Int) (b : Int)
  prd : Prd F v b
  pin : Pin P v b
end Lm


/-! lists that stay: displays of anything, put together, subscripts -/
namespace Lm
open PySem PySem.Spec PyProof.Rows L2
def rCatS (K : PySem.W.Frag) : R2 := fun x y H Q => ∃ l b xs zs, x = .ref l ∧ y = .ref b ∧ SqL K H l xs ∧ SqL K H b zs ∧ xs.length + zs.length ≤ sizeLine ∧ ∀ p, H p = none → Q (.ref p) (upd H p (.lst (xs ++ zs)))
theorem op_catS {X : Cx} : OpR X (binaryOp .Add) (rCatS X.K) := by
  intro pins s σ H x y v u Q I rx ry h
  obtain ⟨l, b, xs, zs, rfl, rfl, hH, hB, hz, q⟩ := h
  cases rx
  cases ry
  obtain ⟨its, r, p1, z⟩ := I.list hH
  obtain ⟨its2, r2, p2, z2⟩ := I.list hB
  have l1 := r.length
  have l2 := r2.length
  obtain ⟨⟨cls, dd, data, sl⟩, ho, hc, n, hd⟩ := p1.isList
  obtain ⟨⟨cls2, dd2, data2, sl2⟩, ho2, hc2, n2, hd2⟩ := p2.isList
  simp only at hc hd hc2 hd2
  subst hc hd hc2 hd2
  have ea : its.toArray ++ its2.toArray = (its ++ its2).toArray := by simp
  refine concat_meets ⟨_, ho, rfl⟩ ⟨_, ho2, rfl⟩ noFill_list_add seq_list_add PySem.F.slot_list_add PySem.F.entry_list_add (PySem.F.args_list_add_2 _ _) (list_addW l b its.toArray its2.toArray n n2 dd dd2 sl sl2 (by simp; omega)) ⟨ho, ho2, ?_⟩
  rw [ea]
  exact ⟨.ref _, _, I.lnew (t' := s.toks) (r.append r2) (by rw [List.length_append]; omega), rfl, q _ I.fresh⟩
section
variable {X : Cx} {K : PySem.W.Frag} (hK : X.K = K)
include hK
theorem k_catS : OpR X (binaryOp .Add) (rCatS K) := hK ▸ op_catS
end
section
variable {c : Ct} {Γ : List (Option Rs)} {te ta tb : TE} {tr : TA} {k ka kb : Kd} {d : PyData} {ds es : List PyData}
theorem Ev.frz (h : Ev c te Γ .o d) : Ev c te Γ .v d := fun H0 O H σ e Q q => h H0 O H σ e _ fun v H2 r s => q v H2 r (Res.frozen e r s ko_ne)
/-- a new list of things that stay -/
theorem newV {H0 H H2 : Hp} {O : List Addr} {σ : L2.St} {xs : List V} {p : Addr} (e : Env c H0 O H2 σ Γ) (al : BoAll c (mns H2 O) xs ds) (hp : H2 p = none) : Bo c (mns (upd H2 p (.lst xs)) O) (.ref p) (.list ds) := by
  have sm : Same H2 (upd H2 p (.lst xs)) := fun b o z => by rw [upd_ne (ne_of_none z hp)]; exact z
  have r4 : Rr c H2 (upd H2 p (.lst xs)) := Rr.same sm
  have no := new_notO e hp
  refine .lst (okA.fresh e.jH hp) (.inl ?_) (al.mono e.j (r4.mns e.j e.okO))
  left
  rw [mns_out no]
  exact upd_same
theorem e_lstV (h : EvA c tr Γ true ds) (hl : ds.length ≤ 1000000) : Ev c (tLst tr) Γ .v (.list ds) := fun H0 O H σ e Q q =>
  h H0 O H σ e _ fun vs H1 r s => by
    have s' := BoAll.vm s
    refine ⟨by rw [s'.len]; exact sizeOk hl, fun p hp => q _ _ (r.tr (Rr.same fun b u z => by rw [upd_ne (ne_of_none z hp)]; exact z)) (newV (H := H1) (e.on r) s' hp)⟩
theorem e_catS (ha : Ev c ta Γ .v (.list ds)) (hb : Ev c tb Γ .v (.list es)) (hl : ds.length + es.length ≤ 1000000) : Ev c (tOp (rCatS c.K) ta tb) Γ .v (.list (ds ++ es)) := fun H0 O H σ e Q q =>
  ha H0 O H σ e _ fun v H1 r1 s1 => hb H0 O H1 σ (e.on r1) _ fun u H2 r2 s2 => by
    have bv : Bo c (mns H2 O) v (.list ds) := Res.on (k := .v) e r1 r2 s1
    have bu : Bo c (mns H2 O) u (.list es) := s2
    obtain ⟨p, xs, rfl, _, sl, al⟩ := bv.lst'
    obtain ⟨b, zs, rfl, _, sl2, al2⟩ := bu.lst'
    refine ⟨p, b, xs, zs, rfl, rfl, mns_same.seq sl, mns_same.seq sl2, by rw [al.len, al2.len]; exact sizeOk hl, fun p' hp' => ?_⟩
    have r := r1.tr r2
    exact q _ _ (r.tr (Rr.same fun b u z => by rw [upd_ne (ne_of_none z hp')]; exact z)) (newV (H := H) (e.on r) (al.app al2) hp')
theorem n_ixLV {P : PyData → Prop} {Q : Int → Prop} (ha : Ev c ta Γ .v (.list ds)) (hb : EvN c tb Γ kb (SomeI Q)) (hr : ∀ i, Q i → ∃ d, atI ds i = some d ∧ P d) : EvN c (tOp (rIx c.K) ta tb) Γ .v P := fun H0 O H σ e Q' q =>
  ha H0 O H σ e _ fun v H1 r1 s1 => hb H0 O H1 σ (e.on r1) _ fun u y H2 ⟨i, hi, qi⟩ r2 s2 => by
    obtain ⟨d, he, pd⟩ := hr i qi
    subst hi
    have bv : Bo c (mns H2 O) v (.list ds) := Res.on (k := .v) e r1 r2 s1
    obtain ⟨p, xs, rfl, _, s, al⟩ := bv.lst'
    obtain ⟨x, hx, bx⟩ := atI_bo al he
    exact .inl ⟨p, xs, i, x, rfl, (Res.bo (e.on r1) s2).int', mns_same.seq s, hx, q x d H2 pd (r1.tr r2) bx⟩
end
end Lm


/-! possible assignments: which come first, what is none -/
namespace Lm
open PySem PySem.Spec PyProof.Rows L2
theorem mem_ps {as f : List Int} {v b : Nat} {C : List (List Int)} (al : as.length = v) (hC : C.length = b) (hr : Rng C v) : f ∈ psL as v b C ↔ Fits as C f := by
  rw [mem_psL (by omega), fits_iff (by rw [al]; exact hr), hC]
  have cnt : (countsI f v = as ↔ ∀ x < as.length, (f.count (x : Int) : Int) = as.getD x 0) := by
    constructor
    · intro h x hx
      rw [← h, countsI_get (by omega)]
    · intro h
      apply List.ext_getElem
      · rw [countsI_len]; omega
      · intro i h1 h2
        have e1 : (countsI f v).getD i 0 = (f.count (i : Int) : Int) := countsI_get (by omega)
        rw [h i h2] at e1
        simpa [List.getD_eq_getElem?_getD, h1, h2] using e1
  constructor
  · rintro ⟨h1, h2, h3, h4⟩
    exact ⟨h1, fun i hi => h4 i (by omega), cnt.mp h3⟩
  · rintro ⟨h1, h2, h3⟩
    refine ⟨h1, fun x hx => ?_, cnt.mpr h3, fun k hk => h2 k (by omega)⟩
    obtain ⟨i, hi⟩ := List.getElem?_of_mem hx
    have il := (List.getElem?_eq_some_iff.mp hi).1
    have m := h2 i il
    have fx : f.getD i 0 = x := by rw [List.getD_eq_getElem?_getD, hi]; rfl
    rw [fx] at m
    exact hr _ (gL_mem (by omega)) x m
theorem rep_flat {d : PyData} : ∀ n : Nat, (List.replicate n [d]).flatten = List.replicate n d
  | 0 => rfl
  | n + 1 => by rw [List.replicate_succ, List.flatten_cons, rep_flat n]; rfl
end Lm


/-! what is no pair and no rule; promises of k53 -/
namespace Lm
open PySem PySem.Spec PyProof.Rows L2
section
variable {c : Ct} {Γ : List (Option Rs)} {tr : TA} {kv : Bool} {v : Nat}
theorem i_rng1v (h : EvA c tr Γ kv [.int 1, .int (v : Int)]) (hv : v ≤ 1000) : EvI c (iRng2 tr) Γ true ((List.range (v - 1)).map fun (k : Nat) => Im.d (.int ((k + 1 : Nat) : Int))) := by
  have := i_rng2 h (by omega) (by omega) (by omega) (by omega)
  unfold upI at this
  rw [List.map_map, show ((v : Int) - 1).toNat = v - 1 by omega] at this
  refine (congrArg (EvI c (iRng2 tr) Γ true) (List.map_congr_left fun i _ => ?_)).mp this
  show Im.d (.int (1 + (i : Int))) = _
  rw [show (1 : Int) + (i : Int) = ((i + 1 : Nat) : Int) by omega]
end
end Lm


/-! enumerate(xs, start=k), xs a list -/
namespace Lm
open PySem PySem.Spec PyProof.Rows L2
def IteL (K : PySem.W.Frag) (m : Nat) (a : Addr) : It where
  go := fun i H => ∃ (xs : List V) (x : V), SqL K H a xs ∧ xs[i]? = some x
  yld := fun i H v H' => ∃ T x, v = .ref T ∧ H T = none ∧ H' = upd H T (.tup [.int ((i + m : Nat) : Int), x]) ∧ ∀ xs, SqL K H a xs → xs[i]? = some x
  stop := fun i H => ∃ xs : List V, SqL K H a xs ∧ xs.length = i
theorem turnEnumL {P : Program} {w : World} {K : PySem.W.Frag} {elts : List Expr} {kk m : Nat} {tpos : Pos} (a e it : Addr) :
    Turn P w K (.Tuple elts kk tpos) (IteL K m a) [e, it] e fun i h => (∃ old, IsEnum h e it ((i + m : Nat) : Int) old) ∧ h.IsListIter it a i ∧ e ≠ it ∧ a ≠ it where
  mem := List.mem_cons_self
  obj := by
    rintro i h ⟨⟨old, he⟩, ⟨o, ho, _, hd⟩, _⟩ b hb
    have e' : b = e ∨ b = it := by simpa using hb
    rcases e' with q | q
    · rw [q]; exact ⟨_, he, fun v q => nomatch q⟩
    · rw [q]; exact ⟨o, ho, fun v q => by rw [hd] at q; cases q⟩
  keep := by
    rintro i h h' ⟨⟨old, he⟩, hi, hne⟩ k
    exact ⟨⟨old, k e (by simp) _ he⟩, hi.at fun o q => k it (by simp) o q, hne⟩
  item := by
    intro X hP hw hK hc i pins s σ H E I hf ⟨⟨old, he⟩, hit, hne, hai⟩ ⟨xs, x, hq, hx⟩
    subst hP hw hK
    obtain ⟨its, rv, p0, hz⟩ := I.list hq
    have p := p0.isList
    obtain ⟨u, hu, ru⟩ := rv.get hx
    have hlt : i < its.toArray.size := by rw [List.size_toArray]; exact (List.getElem?_eq_some_iff.mp hu).1
    have hel := Heap.lt_size he
    have hil : it < s.heap.objs.size := let ⟨_, q, _⟩ := hit; Heap.lt_size q
    have hea : e ≠ a := fun z => by
      obtain ⟨ob, g, gc, n, gd⟩ := p
      rw [← z, he] at g
      cases g
      exact absurd gc (by simp)
    have D := drawsUp (Draws.list (prog := X.prog) (w := X.w) (A := X.A.in1) (show X.A.in1.handled = none from I.ok.hd hc) it a hai its.toArray) m
    refine PySem.wpAny_pyNext_enum_itemD D he ⟨i, rfl, hit, p⟩ (by omega) hne (by simpa [hne] using hea) fun x' h' tk hx' ho hs' hT hsz hk => ?_
    obtain ⟨i', ei, hx'⟩ := hx'
    have : i' = i := by omega
    subst this
    have ex : x' = u := by
      have : its[i']? = some x' := by simpa using hx'
      rw [hu] at this
      exact (Option.some.inj this).symm
    subst ex
    refine ⟨_, rfl, wpAny_letOwnedTupleGo_enum (s := { s with heap := h', toks := tk + 1 }) ho fun h'' he' sb => ?_⟩
    have hT2 := (sb.2 _ (Nat.ne_of_gt hel)).trans hT
    have new : ObjOk X.prog X.w (upd H s.heap.objs.size (.tup [.int ((i' + m : Nat) : Int), x])) h'' s.heap.objs.size (.tup [.int ((i' + m : Nat) : Int), x]) :=
      ⟨(by decide : 2 ≤ sizeLine), [.int ((i' + m : Nat) : Int) tk, x'], .cons ⟨_, rfl⟩ (.cons ru .nil), _, hT2, rfl, _, rfl⟩
    have I1 := I.turnedNew (t' := tk + 1) (ch := [e, it]) (fun b ob hb q => (sb.2 b fun z => hb (by simp [z])).trans (hk b ob (fun z => hb (by simp [z])) (fun z => hb (by simp [z])) q)) hf (Nat.le_refl _) new
    obtain ⟨i2, e2, hs2⟩ := hs'
    have : i2 = i' + 1 := by omega
    subst this
    refine ⟨.ref s.heap.objs.size, _, I1, rfl, ⟨_, x, rfl, I.hok.fresh (Nat.le_refl _), rfl, fun ys hy => by rw [I.list_inj hy hq]; exact hx⟩, ⟨⟨x', ?_⟩, hs2.1.at fun o q => (sb.2 it hne.symm).trans q, hne, hai⟩, fun b hb => ?_⟩
    · have e1 : ((i' + 1 + m : Nat) : Int) = ((i' + m : Nat) : Int) + 1 := by omega
      rw [e1]; exact he'
    · have hb' : b < s.heap.objs.size := by
        have e' : b = e ∨ b = it := by simpa using hb
        rcases e' with q | q
        · rw [q]; exact hel
        · rw [q]; exact hil
      rw [upd_ne (Nat.ne_of_lt hb')]
      exact (hf b hb).1
  done := by
    intro X hP hw hK hc i pins s σ H E I hf ⟨⟨old, he⟩, hit, hne, hai⟩ ⟨xs, hq, hx⟩
    subst hP hw hK
    obtain ⟨its, rv, p0, hz⟩ := I.list hq
    have p := p0.isList
    obtain ⟨f0, f1, f2, f3, f4, f5⟩ := hf it (by simp)
    have hl : its.toArray.size = i := by rw [List.size_toArray, ← rv.length]; exact hx
    have D := drawsUp (Draws.list (prog := X.prog) (w := X.w) (A := X.A.in1) (show X.A.in1.handled = none from I.ok.hd hc) it a hai its.toArray) m
    rw [hl] at D
    exact PySem.wpAny_pyNext_enum_endD D he ⟨i, rfl, hit, p⟩ fun h' eb => ⟨rfl, I.turned (t' := s.toks) (fun b o hb q => eb b o hb q) f0 f1 f3 f4 f5⟩
  self := fun A i s Q E ⟨⟨_, he⟩, _⟩ h => wpAny_pyIter_enum he h
def iEnumLS (K : PySem.W.Frag) (m : Nat) (ta : TA) : TI := fun σ H R => ta σ H fun vs H1 => ∃ a xs, vs = [.ref a] ∧ SqL K H1 a xs ∧ R (IteL K m a) H1
theorem pi_enumLS {X : Cx} {e : Expr} {ta : TA} {p pos tpos q1 q2 : Pos} {elts : List Expr} {kk m : Nat} {x1 : Nat} (hg : Gl X "enumerate") (hm : X.mg "enumerate" = none) (hm2 : m < 1000000) (ha : PA X [e] ta) (hk : PE X (.Constant (.int (m : Int)) x1 q1) (tC (.int (m : Int))))
    (he1 : backTo pos (starEach [e] X.env) = (false, eval e X.env) :: backTo pos (starEach [] X.env) := by rfl) (hp1 : (backTo pos (starEach [e] X.env)).any (·.1) = false := by rfl) :
    PI X (.Tuple elts kk tpos) (.Call (.Name "enumerate" p) [e] [⟨some "start", .Constant (.int (m : Int)) x1 q1, q2⟩] pos) (iEnumLS X.K m ta) := by
  refine ⟨fun pins s σ H R I h => ?_⟩
  refine wpAny_Call_Name_kw (ld_blt I hg hm boot_enumerate (callTyKw (thn (ha.run pos pins s σ H _ I h) fun us s1 ⟨vs, H1, I1, r1, q1⟩ => ?_) he1 hp1))
  refine PyProof.Rows.kws_cons (thn (hk.run pins s1 σ H1 (fun x H' => x = .int (m : Int) ∧ H' = H1) I1 ⟨rfl, rfl⟩) fun w s2 ⟨x, H2, I2, r2, ex, eh⟩ => PyProof.Rows.kws_nil ?_)
  subst ex eh
  obtain ⟨t, rfl⟩ := r2
  obtain ⟨a, xs, rfl, hq, q⟩ := q1
  obtain ⟨u, rfl, ru⟩ := vals1 r1
  cases ru
  obtain ⟨its, rv, p0, hz⟩ := I2.list hq
  have p' := p0.isList
  have la : a < s2.heap.objs.size := let ⟨_, g, _⟩ := p'; Heap.lt_size g
  have fresh2 : ∀ b ∈ [s2.heap.objs.size + 1, s2.heap.objs.size], FpOk X pins H2 b := fun b hb => by
    have hle : s2.heap.objs.size ≤ b := by
      have e' : b = s2.heap.objs.size + 1 ∨ b = s2.heap.objs.size := by simpa using hb
      rcases e' with z | z
      · rw [z]; exact Nat.le_succ _
      · rw [z]; exact Nat.le_refl _
    exact I2.fpOk hle (I2.hok.fresh hle)
  refine enum_begins_start (begins_list a its.toArray) p' (by omega) (by omega) fun h' he ho hsz kk => wpAny_pyIter_enum he ?_
  exact ⟨_, _, _, _, H2, rfl, I2.kept (t' := s2.toks) kk, turnEnumL (m := m) a (s2.heap.objs.size + 1) s2.heap.objs.size, ⟨⟨.none, by rw [Nat.zero_add]; exact he⟩, ⟨_, ho, rfl, rfl⟩, Nat.succ_ne_self _, Nat.ne_of_lt la⟩, fresh2, q⟩
theorem walk_enumLS {K : PySem.W.Frag} {a : Addr} {m : Nat} {xs : List V} : Walk (IteL K m a) xs.length (fun H => SqL K H a xs) (YPair (fun i => some (.int ((i + m : Nat) : Int))) fun i => xs[i]?) where
  goes := fun i _ hi q => ⟨xs, xs[i], q, List.getElem?_eq_getElem hi⟩
  stops := fun _ q => ⟨xs, q, rfl⟩
  yields := fun i H v H' _ q ⟨T, x, h1, h2, h3, h4⟩ => ⟨T, _, x, h1, h2, h3, rfl, h4 xs q⟩
section
variable {c : Ct} {Γ : List (Option Rs)} {tr : TA} {ds : List PyData} {m : Nat}
/-- enumerate(xs, start=m), xs a list -/
theorem i_enumLS {te : TE} {k : Kd} (h : Ev c te Γ k (.list ds)) (hk : k ≠ .b) : EvI c (iEnumLS c.K m (tCons te tNil)) Γ true (enumS m ds) := fun H0 O H σ e R q =>
  h H0 O H σ e _ fun v H1 r s => by
    obtain ⟨p, xs, rfl, kp, sl, al⟩ := (Res.frozen e r s hk).lst'
    refine ⟨p, xs, rfl, mns_same.seq sl, q _ H1 r ⟨(e.on r).j, ?_⟩⟩
    have hl : xs.length = (enumS m ds).length := by rw [al.len]; simp [enumS]
    rw [← hl]
    refine (walk_enumLS (m := m)).mono (fun H h => h.lst kp sl) fun i H v H' hi g y => ?_
    obtain ⟨T, x1, x2, rfl, hT, rfl, g1, g2⟩ := y
    cases g1
    obtain ⟨d, hd, bd⟩ := al.get g2
    have sm : Same H (upd H T (.tup [.int ((i + m : Nat) : Int), x2])) := fun b o z => by rw [upd_ne (ne_of_none z hT)]; exact z
    refine ⟨sm, .t [.d (.int ((i + m : Nat) : Int)), .d d], ?_, .tup (.inl (.inl upd_same)) (.cons (.leaf (.inl ⟨rfl, .int _⟩)) (.cons (.leaf (.inr ⟨rfl, bd⟩)) .nil))⟩
    simp [enumS, hd]
end
section
variable {X : Cx} {K : PySem.W.Frag} (hK : X.K = K)
include hK
theorem k_enumLS {e : Expr} {ta : TA} {p pos tpos q1 q2 : Pos} {elts : List Expr} {kk m : Nat} {x1 : Nat} (hg : Gl X "enumerate") (hm : X.mg "enumerate" = none) (hm2 : m < 1000000) (ha : PA X [e] ta) (hk : PE X (.Constant (.int (m : Int)) x1 q1) (tC (.int (m : Int))))
    (he1 : backTo pos (starEach [e] X.env) = (false, eval e X.env) :: backTo pos (starEach [] X.env) := by rfl) (hp1 : (backTo pos (starEach [e] X.env)).any (·.1) = false := by rfl) :
    PI X (.Tuple elts kk tpos) (.Call (.Name "enumerate" p) [e] [⟨some "start", .Constant (.int (m : Int)) x1 q1, q2⟩] pos) (iEnumLS K m ta) := hK ▸ pi_enumLS hg hm hm2 ha hk he1 hp1
end
end Lm


/-! entries of families -/
namespace Lm
open PySem PySem.Spec PyProof.Rows L2
def gsL (F : List (List Int)) (n : Nat) : List Int := (List.range n).map fun p => mxL (F.map fun r => r.getD p 0)
def entI (i : Nat) (n : Int) : List (List Int) := (List.range n.toNat).map fun (p : Nat) => [((i + 1 : Nat) : Int), (p : Int)]
def entL (ns : List Int) : List (List Int) := (List.range ns.length).flatMap fun i => entI i (ns.getD i 0)
theorem ent_take {ns : List Int} {n : Nat} : (List.range (n + 1)).flatMap (fun i => entI i (ns.getD i 0)) = (List.range n).flatMap (fun i => entI i (ns.getD i 0)) ++ entI n (ns.getD n 0) := by
  rw [List.range_succ, List.flatMap_append]
  simp
theorem entI_len {i : Nat} {n : Int} (h : n ≤ 10) : (entI i n).length ≤ 10 := by unfold entI; rw [List.length_map, List.length_range]; omega
theorem ent_len {ns : List Int} (h : ∀ x ∈ ns, x ≤ 10) : ∀ n, n ≤ ns.length → ((List.range n).flatMap (fun i => entI i (ns.getD i 0))).length ≤ n * 10
  | 0, _ => by simp
  | n + 1, hn => by
    rw [ent_take, List.length_append]
    have h1 := ent_len h n (by omega)
    have h2 := h _ (gd_mem (l := ns) (j := n) (by omega))
    have h3 : (entI n (ns.getD n 0)).length ≤ 10 := by unfold entI; rw [List.length_map, List.length_range]; omega
    omega
/-- the row uses the entry -/
def usB (r e : List Int) : Bool := decide (e.getD 1 0 < r.getD (e.getD 0 0 - 1).toNat 0)
def togB (F : List (List Int)) (e f : List Int) : Bool := !decide (e = f) && (F.map fun r => usB r e && usB r f).any id
def sp_greatest_shares (K : PySem.W.Frag) : Sp := spD K fun ds k d => ∃ (F : List (List Int)) (v : Nat), ds = [.tuple (F.map tupD)] ∧ Fam F (v : Int) ∧ k = .o ∧ d = .list ((gsL F (v - 1)).map .int)
def sp_entries (K : PySem.W.Frag) : Sp := spD K fun ds k d => ∃ (F : List (List Int)) (v : Nat), ds = [.int (v : Int), .tuple (F.map tupD)] ∧ Fam F (v : Int) ∧ k = .o ∧ d = .list ((entL (gsL F (v - 1))).map tupD)
def sp_is_used (K : PySem.W.Frag) : Sp := spD K fun ds k d => ∃ (r : List Int) (x y : Nat), ds = [tupD r, tupD [((x + 1 : Nat) : Int), (y : Int)]] ∧ x < r.length ∧ k = .v ∧ d = .bool (usB r [((x + 1 : Nat) : Int), (y : Int)])
def sp_are_together (K : PySem.W.Frag) : Sp := spD K fun ds k d => ∃ (F : List (List Int)) (v x y x' y' : Nat), ds = [.tuple (F.map tupD), tupD [((x + 1 : Nat) : Int), (y : Int)], tupD [((x' + 1 : Nat) : Int), (y' : Int)]] ∧ Fam F (v : Int) ∧ x < v - 1 ∧ x' < v - 1 ∧ k = .v ∧ d = .bool (togB F [((x + 1 : Nat) : Int), (y : Int)] [((x' + 1 : Nat) : Int), (y' : Int)])
def sp_coexist (K : PySem.W.Frag) : Sp := spD K fun ds k d => ∃ (F : List (List Int)) (v : Nat) (e f : List Int), ds = [.int (v : Int), .tuple (F.map tupD), tupD e, tupD f] ∧ Fam F (v : Int) ∧ e ∈ entL (gsL F (v - 1)) ∧ f ∈ entL (gsL F (v - 1)) ∧ k = .v ∧ d = .bool (togB F e f)
/-- the entries -/
theorem mem_ent {ns e : List Int} : e ∈ entL ns ↔ ∃ x y : Nat, e = [((x + 1 : Nat) : Int), (y : Int)] ∧ x < ns.length ∧ (y : Int) < ns.getD x 0 := by
  unfold entL entI
  simp only [List.mem_flatMap, List.mem_map, List.mem_range]
  constructor
  · rintro ⟨x, hx, y, hy, rfl⟩
    exact ⟨x, y, rfl, hx, by omega⟩
  · rintro ⟨x, y, rfl, hx, hy⟩
    exact ⟨x, hx, y, by omega, rfl⟩
theorem gs_len {F : List (List Int)} {n : Nat} : (gsL F n).length = n := by simp [gsL]
theorem gs_at {F : List (List Int)} {n p : Nat} (h : p < n) : (gsL F n).getD p 0 = mxL (F.map fun r => r.getD p 0) := by
  unfold gsL
  simp [List.getD_eq_getElem?_getD, h]
end Lm


/-! sorted(xs), xs a list of rows -/
namespace L2
open PySem PySem.Spec PyProof.Rows
end L2
namespace Lm
open PySem PySem.Spec PyProof.Rows L2
section
variable {X : Cx} {K : PySem.W.Frag} (hK : X.K = K)
include hK
end
section
variable {c : Ct} {Γ : List (Option Rs)} {te : TE} {k : Kd}
end
end Lm


/-! tuple * -1 -/
namespace L2
open PySem PySem.Spec PyProof.Rows
end L2
namespace Lm
open PySem PySem.Spec PyProof.Rows L2
section
variable {X : Cx} {K : PySem.W.Frag} (hK : X.K = K)
include hK
end
section
variable {c : Ct} {Γ : List (Option Rs)} {ta tb : TE} {ka kb : Kd} {ds : List PyData} {i : Int}
end
end Lm


/-! what is no tuple of shares and no family; promises of k62 for any value -/
namespace Lm
open PySem PySem.Spec PyProof.Rows L2
def NoS (x : PyData) (v : Nat) : Prop := SmallT x ∧ (areInts x 0 10 = false ∨ ∃ r : List Int, x = tupD r ∧ (r.length : Int) ≠ (v : Int) - 1)
def NoF (x : PyData) (v : Nat) : Prop := (∀ es, x ≠ .tuple es) ∨ (∃ es, x = .tuple es ∧ (es.length = 0 ∨ 5 < es.length)) ∨ (∃ (G : List (List Int)) (y : PyData), x = .tuple (G.map tupD ++ [y]) ∧ G.length ≤ 4 ∧ (∀ r ∈ G, Shr r (v : Int)) ∧ NoS y v)
def sp_is_tuple_of_sharesX (K : PySem.W.Frag) : Sp := spD K fun ds k d => ∃ (x : PyData) (v : Nat), ds = [x, .int (v : Int)] ∧ 1 ≤ v ∧ v ≤ 5 ∧ k = .v ∧ ((∃ r, x = tupD r ∧ Shr r (v : Int) ∧ d = .bool true) ∨ (NoS x v ∧ d = .bool false))
def sp_is_familyX (K : PySem.W.Frag) : Sp := spD K fun ds k d => ∃ (x : PyData) (v : Nat), ds = [x, .int (v : Int)] ∧ 1 ≤ v ∧ v ≤ 5 ∧ k = .v ∧ ((∃ F : List (List Int), x = .tuple (F.map tupD) ∧ Fam F (v : Int) ∧ d = .bool true) ∨ (NoF x v ∧ d = .bool false))
end Lm


namespace Lm
open PySem PySem.Spec PyProof.Rows L2

/-! ### pairs of entries that are used together -/
abbrev E2 := List Int × List Int
structure UsP (A : List (List Int)) (s : List Int) (k : Nat) (Ps : List E2) : Prop where
  nd : Ps.Nodup
  mem : ∀ e f, (e, f) ∈ Ps ↔ (∃ r ∈ A, e ∈ entL r ∧ f ∈ entL r ∧ e ≠ f) ∨ (e ∈ (entL s).take k ∧ f ∈ entL s ∧ e ≠ f)
theorem UsP.nil : UsP [] [] 0 [] := ⟨List.nodup_nil, fun e f => by simp⟩
theorem UsP.done {A : List (List Int)} {s : List Int} {Ps : List E2} (h : UsP A s (entL s).length Ps) : UsP (A ++ [s]) [] 0 Ps := ⟨h.nd, fun e f => by
  rw [h.mem, List.take_length]
  constructor
  · rintro (⟨r, hr, h⟩ | h)
    · exact .inl ⟨r, List.mem_append_left _ hr, h⟩
    · exact .inl ⟨s, by simp, h⟩
  · rintro (⟨r, hr, h⟩ | h)
    · rcases List.mem_append.mp hr with q | q
      · exact .inl ⟨r, q, h⟩
      · rw [List.mem_singleton.mp q] at h; exact .inr h
    · simp at h⟩
def newP (s e : List Int) (Ps : List E2) : List E2 := ((entL s).filter fun g => !decide (e = g) && !decide ((e, g) ∈ Ps)).map fun g => (e, g)
theorem UsP.step {A : List (List Int)} {s e : List Int} {k : Nat} {Ps : List E2} (h : UsP A s k Ps) (nd : (entL s).Nodup) (hk : (entL s)[k]? = some e) : UsP A s (k + 1) (Ps ++ newP s e Ps) := by
  refine ⟨?_, fun a b => ?_⟩
  · rw [List.nodup_append]
    refine ⟨h.nd, ?_, fun x hx y hy z => ?_⟩
    · exact List.Pairwise.map _ (fun a b ne z => ne (Prod.mk.inj z).2) (nd.filter _)
    · obtain ⟨g, hg, rfl⟩ := List.mem_map.mp hy
      have := (List.mem_filter.mp hg).2
      rw [Bool.and_eq_true] at this
      subst z
      have w := this.2
      rw [decide_eq_true hx] at w
      cases w
  · rw [List.mem_append, h.mem, List.take_add_one, hk]
    constructor
    · rintro ((w | w) | w)
      · exact .inl w
      · exact .inr ⟨List.mem_append_left _ w.1, w.2⟩
      · obtain ⟨g, hg, z⟩ := List.mem_map.mp w
        obtain ⟨rfl, rfl⟩ := Prod.mk.inj z
        obtain ⟨m, q⟩ := List.mem_filter.mp hg
        rw [Bool.and_eq_true] at q
        refine .inr ⟨by simp, m, ?_⟩
        have := q.1
        simpa using this
    · rintro (w | ⟨w1, w2, w3⟩)
      · exact .inl (.inl w)
      · rcases List.mem_append.mp w1 with q | q
        · exact .inl (.inr ⟨q, w2, w3⟩)
        · have q : a = e := by simpa using q
          subst q
          by_cases m : (a, b) ∈ Ps
          · exact .inl ((h.mem a b).mp m)
          · refine .inr (List.mem_map.mpr ⟨b, List.mem_filter.mpr ⟨w2, ?_⟩, rfl⟩)
            simp [m, w3]
theorem UsP.len {A : List (List Int)} {s : List Int} {k : Nat} {Ps : List E2} (h : UsP A s k Ps) (hA : ∀ r ∈ s :: A, r.length ≤ 4 ∧ ∀ x ∈ r, x ≤ 10) : Ps.length ≤ 1600 := by
  have big : ∀ r ∈ s :: A, ∀ e ∈ entL r, e ∈ entL [10, 10, 10, 10] := fun r hr e he => by
    obtain ⟨x, y, rfl, hx, hy⟩ := mem_ent.mp he
    have hs' := hA r hr
    have := hs'.2 _ (gd_mem hx)
    refine mem_ent.mpr ⟨x, y, rfl, by show x < 4; omega, ?_⟩
    have x4 : x < 4 := by omega
    have : ([10, 10, 10, 10] : List Int).getD x 0 = 10 := by
      match x, x4 with
      | 0, _ => rfl
      | 1, _ => rfl
      | 2, _ => rfl
      | 3, _ => rfl
    omega
  have l40 : (entL [10, 10, 10, 10]).length = 40 := by decide
  refine Nat.le_trans (nodup_sub (m := (entL [10, 10, 10, 10]).flatMap fun e => (entL [10, 10, 10, 10]).map fun f => (e, f)) h.nd fun p hp => ?_) ?_
  · obtain ⟨e, f⟩ := p
    have m : ∃ r ∈ s :: A, e ∈ entL r ∧ f ∈ entL r := by
      rcases (h.mem e f).mp hp with ⟨r, hr, h1, h2, _⟩ | ⟨h1, h2, _⟩
      · exact ⟨r, List.mem_cons_of_mem _ hr, h1, h2⟩
      · exact ⟨s, List.mem_cons_self, List.mem_of_mem_take h1, h2⟩
    obtain ⟨r, hr, h1, h2⟩ := m
    exact List.mem_flatMap.mpr ⟨e, big r hr e h1, List.mem_map_of_mem (big r hr f h2)⟩
  · have : ∀ (l m : List (List Int)), (l.flatMap fun e => m.map fun f => (e, f)).length = l.length * m.length := by
      intro l m
      induction l with
      | nil => simp
      | cons a l ih => rw [List.flatMap_cons, List.length_append, ih, List.length_map, List.length_cons, Nat.succ_mul]; omega
    rw [this, l40]
    decide
end Lm


namespace Lm
open PySem PySem.Spec PyProof.Rows L2

/-! ### while -/
section
variable {c : Ct} {H0 H : Hp} {O : List Addr} {σ : L2.St} {Γ : List (Option Rs)} {P : Out → Prop} {tc : TT} {tb u : TS}
theorem s_while (I : Nat → List (Option Rs) → Prop) {n0 : Nat} (h0 : I n0 Γ)
    (hs : ∀ n Γ1, I n Γ1 → ∃ b, EvT c tc Γ1 b ∧ (b = true → Sd c tb Γ1 (fun o => (∃ Γ3 m, (o = .nx Γ3 ∨ o = .ct Γ3) ∧ m < n ∧ I m Γ3) ∨ (∃ Γ3, o = .bk Γ3 ∧ P (.nx Γ3)) ∨ ∃ k d, o = .rt k d ∧ P o)) ∧ (b = false → P (.nx Γ1))) :
    Sd c (tWhile tc tb) Γ P := fun H0 O H σ D e s => by
  refine ⟨fun n σ' H' => ∃ O' Γ', I n Γ' ∧ Env c H0 O' H' σ' Γ', ⟨n0, O, Γ, h0, e⟩, ?_⟩
  rintro n σ' H' ⟨O', Γ', hI, e'⟩
  obtain ⟨b, ht, hb, hn⟩ := hs n Γ' hI
  refine ht _ _ _ _ e' _ fun H2 r2 => ?_
  cases b with
  | true =>
    rw [if_pos rfl]
    refine ⟨fun σ4 H4 => ∃ m, m < n ∧ ∃ O4 Γ4, I m Γ4 ∧ Env c H0 O4 H4 σ4 Γ4, fun σ4 H4 h => h, ?_⟩
    refine hb rfl _ _ _ _ _ (e'.on r2) fun o po => ?_
    rcases po with ⟨Γ3, m, ho, hm, h3⟩ | ⟨Γ3, ho, h3⟩ | ⟨k, d, ho, h3⟩
    · rcases ho with rfl | rfl
      · exact fun O4 H4 σ4 e4 => ⟨m, hm, O4, Γ3, h3, e4⟩
      · exact fun O4 H4 σ4 e4 => ⟨m, hm, O4, Γ3, h3, e4⟩
    · subst ho; exact fun O4 H4 σ4 e4 => s _ h3 O4 H4 σ4 e4
    · subst ho; exact s _ h3
  | false =>
    rw [if_neg (by decide)]
    exact s _ (hn rfl) _ _ _ (e'.on r2)
theorem q_while (I : Nat → List (Option Rs) → Prop) {n0 : Nat} (h0 : I n0 Γ)
    (hs : ∀ n Γ1, I n Γ1 → ∃ b, EvT c tc Γ1 b ∧ (b = true → Sd c tb Γ1 (fun o => (∃ Γ3 m, (o = .nx Γ3 ∨ o = .ct Γ3) ∧ m < n ∧ I m Γ3) ∨ (∃ Γ3, o = .bk Γ3 ∧ Sd c u Γ3 P) ∨ ∃ k d, o = .rt k d ∧ P o)) ∧ (b = false → Sd c u Γ1 P)) :
    Sd c (tSeq (tWhile tc tb) u) Γ P := by
  refine s_seq (P1 := fun o => (∃ Γ1, o = .nx Γ1 ∧ Sd c u Γ1 P) ∨ ∃ k d, o = .rt k d ∧ P o) (s_while I h0 fun n Γ1 hI => ?_) ?_ ?_ ?_ ?_
  · obtain ⟨b, ht, hb, hn⟩ := hs n Γ1 hI
    refine ⟨b, ht, fun e => (hb e).imp fun o po => ?_, fun e => .inl ⟨_, rfl, hn e⟩⟩
    rcases po with w | ⟨Γ3, ho, h3⟩ | ⟨k, d, ho, h3⟩
    · exact .inl w
    · exact .inr (.inl ⟨Γ3, ho, .inl ⟨_, rfl, h3⟩⟩)
    · exact .inr (.inr ⟨k, d, ho, .inr ⟨k, d, ho, h3⟩⟩)
  · rintro Γ1 (⟨Γ2, e, h⟩ | ⟨k, d, e, _⟩)
    · cases e; exact h
    · cases e
  · rintro k d (⟨Γ2, e, h⟩ | ⟨k', d', e, h⟩)
    · cases e
    · exact h
  · rintro Γ1 (⟨Γ2, e, h⟩ | ⟨k', d', e, h⟩) <;> cases e
  · rintro Γ1 (⟨Γ2, e, h⟩ | ⟨k', d', e, h⟩) <;> cases e
end

/-! ### levels: the mathematics -/
def bvI (own : List Int) (h : Int) (ls : List Int) : List Int := own.filter fun y => decide (wrtI h ls y = gw own h ls)
def bvL (C : List (List Int)) (f ls : List Int) : List (List Int) := (C.zip f).map fun p => bvI p.1 p.2 ls
def upS (c : Int) (p : Pk) (ls : List Int) : List Int := (List.range ls.length).map fun y => ls.getD y 0 + c * b1 (p y)
def bnd (as f : List Int) (C : List (List Int)) (ls : List Int) : Int := zs mulI as ls + gwS C f ls
theorem upS_get {c : Int} {p : Pk} {ls : List Int} {y : Nat} (h : y < ls.length) : (upS c p ls).getD y 0 = ls.getD y 0 + c * b1 (p y) := by
  unfold upS
  rw [List.getD_eq_getElem?_getD, List.getElem?_map, List.getElem?_range h]
  rfl
theorem sumM_add {α : Type} (g h : α → Int) : ∀ l : List α, (l.map fun x => g x + h x).sum = (l.map g).sum + (l.map h).sum
  | [] => rfl
  | a :: l => by simp only [List.map_cons, List.sum_cons, sumM_add g h l]; omega
theorem sumM_mul {α : Type} (c : Int) (h : α → Int) : ∀ l : List α, (l.map fun x => c * h x).sum = c * (l.map h).sum
  | [] => by simp
  | a :: l => by simp only [List.map_cons, List.sum_cons, sumM_mul c h l, Int.mul_add]
theorem zs_up {as ls : List Int} (c : Int) (p : Pk) (h : as.length = ls.length) : zs mulI as (upS c p ls) = zs mulI as ls + c * rmP as p := by
  unfold zs rmP
  rw [← sumM_mul, ← sumM_add]
  congr 1
  refine List.map_congr_left fun j hj => ?_
  have := List.mem_range.mp hj
  rw [upS_get (by omega)]
  unfold mulI b1
  rw [Int.mul_add]
  by_cases q : p j = true
  · rw [if_pos q, if_pos q, Int.mul_one, Int.mul_comm c]
  · rw [if_neg q, if_neg q]; simp
theorem wrt_up {h c : Int} {p : Pk} {ls : List Int} {y : Int} (y0 : 0 ≤ y) (yl : y < ls.length) : wrtI h (upS c p ls) y = wrtI h ls y - c * b1 (p y.toNat) := by
  unfold wrtI
  rw [upS_get (by omega)]
  omega
theorem gw_mem {own ls : List Int} {h : Int} (ne : own ≠ []) : ∃ y ∈ own, wrtI h ls y = gw own h ls := by
  obtain ⟨y, hy, e⟩ := List.mem_map.mp (mxL_mem (ns := own.map (wrtI h ls)) (by rw [List.length_map]; exact List.length_pos_iff.mpr ne))
  exact ⟨y, hy, e⟩
theorem gw_top {own ls : List Int} {h m : Int} (ne : own ≠ []) (hm : ∀ y ∈ own, wrtI h ls y ≤ m) : gw own h ls ≤ m := by
  obtain ⟨y, hy, e⟩ := gw_mem (h := h) (ls := ls) ne
  rw [← e]; exact hm y hy
theorem mem_bvI {own ls : List Int} {h y : Int} : y ∈ bvI own h ls ↔ y ∈ own ∧ wrtI h ls y = gw own h ls := by
  unfold bvI
  rw [List.mem_filter, decide_eq_true_iff]
theorem ins_iff {p : Pk} {own : List Int} : insP p own = true ↔ ∀ y ∈ own, p y.toNat = true := by
  unfold insP
  rw [List.all_eq_true]
theorem b1_nn (b : Bool) : 0 ≤ b1 b ∧ b1 b ≤ 1 := by cases b <;> simp [b1]
theorem gw_step {own ls : List Int} {h : Int} {p : Pk} (ne : own ≠ []) (hr : ∀ y ∈ own, 0 ≤ y ∧ y < ls.length) : gw own h (upS 1 p ls) = gw own h ls - b1 (insP p (bvI own h ls)) := by
  have wr : ∀ y ∈ own, wrtI h (upS 1 p ls) y = wrtI h ls y - b1 (p y.toNat) := fun y hy => by
    rw [wrt_up (hr y hy).1 (hr y hy).2]; omega
  obtain ⟨y1, m1, e1⟩ := gw_mem (h := h) (ls := upS 1 p ls) ne
  by_cases hc : insP p (bvI own h ls) = true
  · rw [hc]
    have hp := ins_iff.mp hc
    obtain ⟨y0, m0, e0⟩ := gw_mem (h := h) (ls := ls) ne
    have g0 := gw_ge (ls := upS 1 p ls) (h := h) m0
    rw [wr y0 m0, hp y0 (mem_bvI.mpr ⟨m0, e0⟩), e0] at g0
    have g1 := gw_ge (ls := ls) (h := h) m1
    rw [wr y1 m1] at e1
    show gw own h (upS 1 p ls) = gw own h ls - 1
    have b11 : b1 true = 1 := rfl
    by_cases q : wrtI h ls y1 = gw own h ls
    · rw [hp y1 (mem_bvI.mpr ⟨m1, q⟩)] at e1
      omega
    · have := b1_nn (p y1.toNat)
      omega
  · have hc' : insP p (bvI own h ls) = false := by simpa using hc
    rw [hc']
    have : ∃ y ∈ bvI own h ls, p y.toNat = false := by
      unfold insP at hc'
      rw [List.all_eq_false] at hc'
      obtain ⟨y, hy, q⟩ := hc'
      exact ⟨y, hy, by simpa using q⟩
    obtain ⟨y0, hy0, q0⟩ := this
    obtain ⟨m0, e0⟩ := mem_bvI.mp hy0
    have g0 := gw_ge (ls := upS 1 p ls) (h := h) m0
    rw [wr y0 m0, q0, e0] at g0
    have g1 := gw_ge (ls := ls) (h := h) m1
    rw [wr y1 m1] at e1
    have := b1_nn (p y1.toNat)
    have b10 : b1 false = 0 := rfl
    omega
theorem bv_cons {own : List Int} {C : List (List Int)} {h : Int} {f ls : List Int} : bvL (own :: C) (h :: f) ls = bvI own h ls :: bvL C f ls := rfl
theorem gwS_cons {own : List Int} {C : List (List Int)} {h : Int} {f ls : List Int} : gwS (own :: C) (h :: f) ls = gw own h ls + gwS C f ls := by simp [gwS]
theorem gwS_step {p : Pk} {ls : List Int} : ∀ {C : List (List Int)} {f : List Int}, C.length = f.length → [] ∉ C → Rng C ls.length → gwS C f (upS 1 p ls) = gwS C f ls - cfP (bvL C f ls) p
  | [], [], _, _, _ => by simp [gwS, bvL, cfP]
  | own :: C, h :: f, hl, ne, hr => by
    have ih := gwS_step (p := p) (ls := ls) (C := C) (f := f) (by simpa using hl) (fun z => ne (List.mem_cons_of_mem _ z)) fun o ho => hr o (List.mem_cons_of_mem _ ho)
    rw [gwS_cons, gwS_cons, bv_cons, cf_cons, ih, gw_step (fun z => ne (by rw [z]; exact List.mem_cons_self)) (hr own List.mem_cons_self)]
    omega
  | [], _ :: _, h, _, _ => by simp at h
  | _ :: _, [], h, _, _ => by simp at h
theorem bnd_step {as f ls : List Int} {C : List (List Int)} {p : Pk} (hl : C.length = f.length) (ne : [] ∉ C) (hr : Rng C ls.length) (ha : as.length = ls.length) : bnd as f C (upS 1 p ls) = bnd as f C ls + rmP as p - cfP (bvL C f ls) p := by
  unfold bnd
  rw [zs_up 1 p ha, gwS_step hl ne hr]
  omega
end Lm


namespace Lm
open PySem PySem.Spec PyProof.Rows L2

/-! ### the first levels -/
theorem vs_sizes : ∀ v < 6, (vsN v).Pairwise fun a b => a.length ≤ b.length := by decide +kernel
theorem sh_first {as : List Int} {C : List (List Int)} {s t : List Nat} (h5 : as.length ≤ 5) (h : shS as C = some s) (ht : t ∈ vsN as.length) (hl : t.length < s.length) : cfP C (inS t) ≤ roomI as t := by
  obtain ⟨_, as1, bs, e, hn⟩ := List.find?_eq_some_iff_append.mp h
  have pw := vs_sizes as.length (by omega)
  rw [e] at pw ht
  obtain ⟨_, p2, _⟩ := List.pairwise_append.mp pw
  have q := (List.pairwise_cons.mp p2).1
  rcases List.mem_append.mp ht with w | w
  · have := hn t w
    simp only [Bool.not_eq_true', decide_eq_false_iff_not] at this
    omega
  · rcases List.mem_cons.mp w with w | w
    · rw [w] at hl; omega
    · have := q t w; omega
theorem bv_point {own ls ms : List Int} {h : Int} {p q t : Pk} (le : ∀ y ∈ own, ls.getD y.toNat 0 ≤ ms.getD y.toNat 0) (hq : ∀ y ∈ own, p y.toNat = true → q y.toNat = false → ls.getD y.toNat 0 = ms.getD y.toNat 0)
    (ht : ∀ y ∈ own, p y.toNat = true → ls.getD y.toNat 0 = ms.getD y.toNat 0 → t y.toNat = true)
    (h1 : insP p (bvI own h ls) = true) (h2 : insP q (bvI own h ls) = false) : insP t (bvI own h ms) = true := by
  unfold insP at h2
  rw [List.all_eq_false] at h2
  obtain ⟨y, hy, qy⟩ := h2
  have qy : q y.toNat = false := by simpa using qy
  have hp := ins_iff.mp h1
  obtain ⟨my, ey⟩ := mem_bvI.mp hy
  have e := hq y my (hp y hy) qy
  have wle : ∀ z ∈ own, wrtI h ms z ≤ wrtI h ls z := fun z hz => by
    unfold wrtI
    have := le z hz
    omega
  have wy : wrtI h ms y = wrtI h ls y := by unfold wrtI; rw [e]
  have g1 : gw own h ms ≤ gw own h ls := gw_top (fun z => by rw [z] at my; cases my) fun z hz => by
    have a := wle z hz
    have b := gw_ge (ls := ls) (h := h) hz
    omega
  have g2 := gw_ge (ls := ms) (h := h) my
  refine ins_iff.mpr fun z hz => ?_
  obtain ⟨mz, ez⟩ := mem_bvI.mp hz
  have a := wle z mz
  have b := gw_ge (ls := ls) (h := h) mz
  have best : z ∈ bvI own h ls := mem_bvI.mpr ⟨mz, by omega⟩
  refine ht z mz (hp z best) ?_
  have : wrtI h ms z = wrtI h ls z := by omega
  unfold wrtI at this
  omega
theorem bv_count {ls ms : List Int} {p q t : Pk} : ∀ {C : List (List Int)} {f : List Int}, C.length = f.length → (∀ own ∈ C, ∀ y ∈ own, ls.getD y.toNat 0 ≤ ms.getD y.toNat 0) → (∀ own ∈ C, ∀ y ∈ own, p y.toNat = true → q y.toNat = false → ls.getD y.toNat 0 = ms.getD y.toNat 0) →
    (∀ own ∈ C, ∀ y ∈ own, p y.toNat = true → ls.getD y.toNat 0 = ms.getD y.toNat 0 → t y.toNat = true) → cfP (bvL C f ls) p ≤ cfP (bvL C f ls) q + cfP (bvL C f ms) t
  | [], [], _, _, _, _ => by simp [bvL, cfP]
  | own :: C, h :: f, hl, le, hq, ht => by
    have ih := bv_count (p := p) (q := q) (t := t) (C := C) (f := f) (by simpa using hl) (fun o ho => le o (List.mem_cons_of_mem _ ho)) (fun o ho => hq o (List.mem_cons_of_mem _ ho)) fun o ho => ht o (List.mem_cons_of_mem _ ho)
    rw [bv_cons, bv_cons, cf_cons, cf_cons, cf_cons]
    have n1 := b1_nn (insP q (bvI own h ls))
    have n2 := b1_nn (insP t (bvI own h ms))
    have n3 := b1_nn (insP p (bvI own h ls))
    have b11 : b1 true = 1 := rfl
    have b10 : b1 false = 0 := rfl
    cases e1 : insP p (bvI own h ls) with
    | false => omega
    | true =>
      cases e2 : insP q (bvI own h ls) with
      | true => omega
      | false =>
        have := bv_point (h := h) (le own List.mem_cons_self) (hq own List.mem_cons_self) (ht own List.mem_cons_self) e1 e2
        rw [this]
        omega
  | [], _ :: _, h, _, _, _ => by simp at h
  | _ :: _, [], h, _, _, _ => by simp at h
theorem nodup_lt {s t : List Nat} {y : Nat} (nd : t.Nodup) (sub : ∀ x ∈ t, x ∈ s) (hy : y ∈ s) (hn : y ∉ t) : t.length < s.length := by
  have := nodup_sub (l := y :: t) (m := s) (List.nodup_cons.mpr ⟨hn, nd⟩) fun x hx => by
    rcases List.mem_cons.mp hx with q | q
    · rw [q]; exact hy
    · exact sub x q
  rw [List.length_cons] at this
  omega
/-- a smallest set that is too small is raised below all levels that reach the bound -/
theorem below {as f ls ms : List Int} {C : List (List Int)} {s : List Nat} (h5 : as.length ≤ 5) (hl : C.length = f.length) (hr : Rng C as.length) (l1 : ls.length = as.length) (h : shS as (bvL C f ls) = some s) (hall : Hall as (bvL C f ms))
    (le : ∀ y < as.length, ls.getD y 0 ≤ ms.getD y 0) : ∀ y < as.length, (upS 1 (inS s) ls).getD y 0 ≤ ms.getD y 0 := by
  intro y hy
  rw [upS_get (by omega)]
  have a := le y hy
  by_cases ys : inS s y = true
  · by_cases eq : ls.getD y 0 = ms.getD y 0
    · exfalso
      obtain ⟨hs, short⟩ := sh_some h
      obtain ⟨t, et⟩ : ∃ t : List Nat, t = (List.range as.length).filter fun x => inS s x && !decide (ls.getD x 0 = ms.getD x 0) := ⟨_, rfl⟩
      have tv : t ∈ vsN as.length := by rw [et]; exact vs_filter ..
      have mt : ∀ x, x ∈ t ↔ x < as.length ∧ (x ∈ s ∧ ls.getD x 0 ≠ ms.getD x 0) := fun x => by
        rw [et, List.mem_filter, List.mem_range, Bool.and_eq_true]
        unfold inS
        rw [decide_eq_true_iff, Bool.not_eq_true', decide_eq_false_iff_not]
      have lt : t.length < s.length := nodup_lt (by rw [et]; exact List.nodup_range.filter _) (fun x hx => ((mt x).mp hx).2.1) (show y ∈ s from of_decide_eq_true ys) fun w => ((mt y).mp w).2.2 eq
      have few := sh_first h5 h tv lt
      rw [room_rm tv] at few
      rw [room_rm hs] at short
      have up := bv_count (ls := ls) (ms := ms) (p := inS s) (q := inS t) (t := fun x => inS s x && decide (ls.getD x 0 = ms.getD x 0)) (C := C) (f := f) hl (fun own ho z hz => by
          have := hr own ho z hz
          exact le _ (by omega)) (fun own ho z hz p1 q1 => by
          have zr := hr own ho z hz
          apply Decidable.byContradiction
          intro ne
          have : inS t z.toNat = true := decide_eq_true ((mt _).mpr ⟨by omega, of_decide_eq_true p1, ne⟩)
          rw [this] at q1; cases q1) (fun own ho z hz p1 e1 => by
          show (inS s z.toNat && decide _) = true
          rw [p1, decide_eq_true e1]; rfl)
      have ha := hall fun x => inS s x && decide (ls.getD x 0 = ms.getD x 0)
      have parts : rmP as (inS s) = rmP as (inS t) + rmP as fun x => inS s x && decide (ls.getD x 0 = ms.getD x 0) := by
        unfold rmP
        rw [← sumM_add]
        congr 1
        refine List.map_congr_left fun x hx => ?_
        have hx := List.mem_range.mp hx
        by_cases m : x ∈ s
        · have e1 : inS s x = true := decide_eq_true m
          by_cases e : ls.getD x 0 = ms.getD x 0
          · have e2 : inS t x = false := decide_eq_false fun w => ((mt x).mp w).2.2 e
            simp only [e1, e2, decide_eq_true e]; simp
          · have e2 : inS t x = true := decide_eq_true ((mt x).mpr ⟨hx, m, e⟩)
            simp only [e1, e2, decide_eq_false e]; simp
        · have e1 : inS s x = false := decide_eq_false m
          have e2 : inS t x = false := decide_eq_false fun w => m ((mt x).mp w).2.1
          simp only [e1, e2]; simp
      omega
    · have := b1_nn (inS s y)
      omega
  · have e : inS s y = false := by simpa using ys
    rw [e]
    show ls.getD y 0 + 1 * 0 ≤ _
    omega
/-- what the levels of a setting speak of -/
structure LvOk (as f : List Int) (C : List (List Int)) (v b : Nat) : Prop where
  asl : as.length = v
  fl : f.length = b
  cl : C.length = b
  mns : Mns C v
  pw : ∀ own ∈ C, own.Pairwise (· < ·)
  v5 : v ≤ 5
  b20 : b ≤ 20
  alc : Alc as (v : Int) (b : Int)
variable {as f : List Int} {C : List (List Int)} {v b : Nat}
theorem LvOk.hall_ps (h : LvOk as f C v b) : Hall as C ↔ ∃ r, r ∈ psL as v b C := by
  have hr : Rng C as.length := by rw [h.asl]; exact h.mns.rng
  have sum : as.sum = C.length := by rw [h.alc.sum, h.cl]
  constructor
  · intro ha
    exact ⟨_, (mem_ps h.asl h.cl h.mns.rng).mpr (grd_fit hr ha sum)⟩
  · rintro ⟨r, hm⟩
    exact fit_hall hr ((mem_ps h.asl h.cl h.mns.rng).mp hm)
theorem zs_b : ∀ {f r : List Int}, f.length = r.length → 0 ≤ zs ne1 f r ∧ zs ne1 f r ≤ f.length
  | [], [], _ => by simp [zs]
  | x :: f, y :: r, h => by
    have := zs_b (f := f) (r := r) (by simpa using h)
    have e : ne1 x y = if x = y then 0 else 1 := rfl
    rw [zs_cons, e, List.length_cons]
    split <;> omega
  | [], _ :: _, h => by simp at h
  | _ :: _, [], h => by simp at h
theorem LvOk.no_nil (h : LvOk as f C v b) (ha : Hall as C) : [] ∉ C := by
  obtain ⟨r, hr⟩ := h.hall_ps.mp ha
  exact (weak (ls := List.replicate v 0) h.cl h.fl (by simp) hr).1
theorem LvOk.nn (h : LvOk as f C v b) (ha : Hall as C) {ls : List Int} (hl : ls.length = v) : 0 ≤ bnd as f C ls := by
  obtain ⟨r, hr⟩ := h.hall_ps.mp ha
  have w := (weak (ls := ls) h.cl h.fl hl hr).2
  have rl := ((mem_psL (by omega)).mp hr).1
  have z := zs_b (f := f) (r := r) (by rw [h.fl, rl])
  have := h.fl
  unfold bnd
  omega
theorem LvOk.step (h : LvOk as f C v b) (ha : Hall as C) {ls : List Int} {s : List Nat} (hl : ls.length = v) (hs : shS as (bvL C f ls) = some s) : bnd as f C (upS 1 (inS s) ls) < bnd as f C ls := by
  rw [bnd_step (by rw [h.cl, h.fl]) (h.no_nil ha) (by rw [hl]; exact h.mns.rng) (by rw [h.asl, hl])]
  obtain ⟨h1, h2⟩ := sh_some hs
  rw [room_rm h1] at h2
  omega
end Lm


namespace Lm
open PySem PySem.Spec PyProof.Rows L2

/-! ### promises of keeping.py, for up to 20 buckets -/
structure ExcW (as f : List Int) (F P : List (List Int)) (v b : Nat) : Prop where
  v1 : 1 ≤ v
  v5 : v ≤ 5
  b6 : b ≤ 20
  asg : Asg f (v : Int)
  len : f.length = b
  alc : Alc as (v : Int) (b : Int)
  prd : Prd F v b
  pin : Pin P v b
theorem Exc.w {as f : List Int} {F P : List (List Int)} {v b : Nat} (h : Exc as f F P v b) : ExcW as f F P v b := ⟨h.v1, h.v5, by have := h.b6; omega, h.asg, h.len, h.alc, h.prd, h.pin⟩
variable {as f : List Int} {C : List (List Int)} {v b : Nat}
end Lm


namespace Lm
open PySem PySem.Spec PyProof.Rows L2
variable {as f : List Int} {C : List (List Int)} {v b : Nat}
theorem Prd.sub {F F' : List (List Int)} (h : Prd F v b) (s : F'.Sublist F) : Prd F' v b :=
  ⟨fun r hr => h.row r (s.subset hr), h.asc.sublist s, Nat.le_trans s.length_le h.len⟩
theorem Pin.sub {F F' : List (List Int)} (h : Pin F v b) (s : F'.Sublist F) : Pin F' v b :=
  ⟨h.toPrd.sub s, h.fst.sublist s⟩
end Lm


namespace Lm
open PySem PySem.Spec PyProof.Rows L2
section
variable {c : Ct} {H H' H0 H1 H2 H3 : Hp} {O : List Addr} {σ : L2.St} {Γ Γ' : List (Option Rs)} {te ta tx : TE} {k : Kd} {u : TS} {P : Out → Prop} {n : Nat} {x : PyData}
/-! ### where no list of one's own is alive, what a call answers may be kept, lists in it too -/
def bareB : List (Option Rs) → Bool
  | [] => true
  | some (.o _) :: _ => false
  | none :: Γ => bareB Γ
  | some (.v _) :: Γ => bareB Γ
  | some (.r _) :: Γ => bareB Γ
  | some (.d _) :: _ => false
  | some (.w _) :: _ => false
end

/-! ### any evidence (k80) -/
end Lm


namespace Lm
open PySem PySem.Spec PyProof.Rows L2

/-! ### buckets and variants renamed in a setting -/
structure RnS (as as' : List Int) (C C' : List (List Int)) (v b : Nat) (os io nm im : List Int) : Prop where
  o : IsOrd os (b : Int)
  oi : IsOrd io (b : Int)
  q : IsOrd nm (v : Int)
  qi : IsOrd im (v : Int)
  o1 : ∀ k < b, gI io (gI os ((k : Nat) : Int)) = (k : Int)
  o2 : ∀ k < b, gI os (gI io ((k : Nat) : Int)) = (k : Int)
  q1 : ∀ k < v, gI im (gI nm ((k : Nat) : Int)) = (k : Int)
  q2 : ∀ k < v, gI nm (gI im ((k : Nat) : Int)) = (k : Int)
  al : as.length = v
  al' : as'.length = v
  cl : C.length = b
  cl' : C'.length = b
  rg : Rng C v
  rg' : Rng C' v
  sh : ∀ y < v, gI as' (gI nm ((y : Nat) : Int)) = gI as (y : Int)
  mn : ∀ k < b, ∀ y < v, (gI nm ((y : Nat) : Int) ∈ C'.getD (gI os ((k : Nat) : Int)).toNat [] ↔ (y : Int) ∈ C.getD k [])
section
variable {as as' f f' os io nm im : List Int} {C C' : List (List Int)} {v b : Nat}
theorem ord_nat {os : List Int} {m : Nat} (o : IsOrd os (m : Int)) {k : Nat} (hk : k < m) : ∃ j : Nat, gI os (k : Int) = (j : Int) ∧ j < m := by
  have r := o.rng _ (gd_mem (l := os) (j := k) (by have := o.len; omega))
  exact ⟨(os.getD k 0).toNat, by show os.getD k 0 = _; omega, by omega⟩
theorem RnS.symm (h : RnS as as' C C' v b os io nm im) : RnS as' as C' C v b io os im nm := by
  refine ⟨h.oi, h.o, h.qi, h.q, h.o2, h.o1, h.q2, h.q1, h.al', h.al, h.cl', h.cl, h.rg', h.rg, fun y hy => ?_, fun k hk y hy => ?_⟩
  · obtain ⟨z, ez, hz⟩ := ord_nat h.qi hy
    have := h.sh z hz
    rw [← ez, h.q2 y hy] at this
    exact this.symm
  · obtain ⟨z, ez, hz⟩ := ord_nat h.qi hy
    obtain ⟨j, ej, hj⟩ := ord_nat h.oi hk
    have := h.mn j hj z hz
    rw [← ez, ← ej, h.q2 y hy, h.o2 k hk, Int.toNat_natCast, ez] at this
    rw [ez, ej, Int.toNat_natCast]
    exact this.symm
end
end Lm


namespace Lm
open PySem PySem.Spec PyProof.Rows L2
/-! ### a def that answers or raises -/
theorem fn_or {P : Program} {w : World} {K : PySem.W.Frag} {mg : Str → Option Value} {base : Heap} {CX : CXT} {k : Nat} {f : Addr} {fd : FuncData} {ps : List Str} {sp sp' : Sp} (F : FnOk P w K mg base CX k f fd ps sp) (G : FnOk P w K mg base CX k f fd ps sp') :
    FnOk P w K mg base CX k f fd ps (fun vs H Q E => sp vs H Q E ∨ sp' vs H Q E) :=
  ⟨fun vs H Q E h => h.elim (F.len vs H Q E) (G.len vs H Q E), fun A outer s H args us vs Q E hr he hb hv hs => hs.elim (F.run A outer s H args us vs Q E hr he hb hv) (G.run A outer s H args us vs Q E hr he hb hv)⟩
end Lm


/-! itertools.permutations(range(n), k), walked -/
namespace PrmK
open PySem PySem.Spec PyProof.Rows L2
theorem mro_c : mroOf (.type "itertools.permutations") = pure [.type "itertools.permutations", .type "object"] := by rw [mroOf_type]; kernel_rfl
theorem new_c : typeLookup (.type "itertools.permutations") "__new__" = pure (some (.builtin "itertools.permutations.__new__")) := by rw [typeLookup_type, builtinLookup_eq_fast]; kernel_rfl
theorem init_c : Slot "itertools.permutations" "__init__" "object.__init__" :=
  .of (owner := "object") (n := "__init__") (by rw [typeLookup_type, builtinLookup_eq_fast]; kernel_rfl) (by decide +kernel) (by decide +kernel) (by decide +kernel) (by first | exact .inl (by decide +kernel) | exact .inr (by decide +kernel)) (by rw [isSubtype_type]; kernel_rfl)
theorem sub_c : isSubtype (.type "itertools.permutations") (.type "itertools.permutations") = pure true := by rw [isSubtype_type]; kernel_rfl
theorem called_c : TypeCalled "itertools.permutations" "itertools.permutations.__new__" "object.__init__" :=
  ⟨by decide +kernel, by decide +kernel, ⟨_, _, mro_c⟩, madeBy_type mro_c new_c (by decide +kernel), by decide +kernel, sub_c, init_c⟩
theorem tcall_c (a b : Value) : checkTypeCall "itertools.permutations" ⟨[a, b], []⟩ = pure () := by kernel_rfl
theorem ncall_c (a b : Value) : checkBuiltinCall "itertools.permutations.__new__" ⟨[.type "itertools.permutations", a, b], []⟩ = pure () := by kernel_rfl
theorem entryN_c : entryFor table "itertools.permutations.__new__" = some Builtin.«itertools.permutations.__new__» := entryFor_of_tree (by kernel_rfl)
theorem iter_c : Slot "itertools.permutations" "__iter__" "itertools.permutations.__iter__" :=
  .of (owner := "itertools.permutations") (n := "__iter__") (by rw [typeLookup_type, builtinLookup_eq_fast]; kernel_rfl) (by decide +kernel) (by decide +kernel) (by decide +kernel) (by first | exact .inl (by decide +kernel) | exact .inr (by decide +kernel)) sub_c
theorem next_c : Slot "itertools.permutations" "__next__" "itertools.permutations.__next__" :=
  .of (owner := "itertools.permutations") (n := "__next__") (by rw [typeLookup_type, builtinLookup_eq_fast]; kernel_rfl) (by decide +kernel) (by decide +kernel) (by decide +kernel) (by first | exact .inl (by decide +kernel) | exact .inr (by decide +kernel)) sub_c
theorem entryI_c : entryFor table "itertools.permutations.__iter__" = some Builtin.«dict_keyiterator.__iter__» :=
  entryFor_alias (id' := "dict_keyiterator.__iter__") (by kernel_rfl) (by first | rfl | decide +kernel | (unfold String.splitOn; simp +decide [String.splitOnAux])) (by decide +kernel) (by kernel_rfl)
theorem entryX_c : entryFor table "itertools.permutations.__next__" = some Builtin.«itertools.permutations.__next__» := entryFor_of_tree (by kernel_rfl)
theorem owner_c : Manifest.owners.lookup (String.ofList "itertools.permutations".toList.reverse.reverse) = some Manifest.sig_itertools_permutations := by kernel_rfl
theorem argsI_c (a : Value) : argsOk "itertools.permutations.__iter__" ⟨[a], []⟩ := by
  unfold argsOk; rw [signature?_of (id := "itertools.permutations.__iter__") (n := "__iter__".toList.reverse) (o := "itertools.permutations".toList.reverse) (by kernel_rfl) owner_c]; kernel_rfl
theorem argsX_c (a : Value) : argsOk "itertools.permutations.__next__" ⟨[a], []⟩ := by
  unfold argsOk; rw [signature?_of (id := "itertools.permutations.__next__") (n := "__next__".toList.reverse) (o := "itertools.permutations".toList.reverse) (by kernel_rfl) owner_c]; kernel_rfl
theorem noDict_c : typeHasDict (.type "itertools.permutations") = false := by decide +kernel
/-- the iterator: its items' tuple, 0 before the first item, 1 behind it, 2 at the end; how many it picks; what it handed out; the places and how often each goes round -/
def cells (T : Addr) (st : Int) (r : Nat) (bf : Value) (ns : List Nat) : Array Value := ([.ref T, .int st 0, .int r 0, bf] ++ ns.map fun (i : Nat) => Value.int i 0).toArray
abbrev IsPrm (h : Heap) (it T : Addr) (st : Int) (r : Nat) (bf : Value) (ns : List Nat) : Prop := h.get? it = some { cls := .type "itertools.permutations", dict := none, data := .fields (cells T st r bf ns), slots := #[] }
/-- the places and turns that follow -/
def nxP (n : Nat) : Nat → List Nat → List Nat → Option (List Nat × List Nat)
  | 0, _, _ => none
  | p + 1, ix, cy => if cy.getD p 0 - 1 == 0 then nxP n p (ix.take p ++ ix.drop (p + 1) ++ [ix.getD p 0]) (cy.set p (n - p)) else
      some ((ix.set p (ix.getD (n - (cy.getD p 0 - 1)) 0)).set (n - (cy.getD p 0 - 1)) (ix.getD p 0), cy.set p (cy.getD p 0 - 1))
theorem nxP_uniq {f : Nat → Nat → List Nat → List Nat → Option (List Nat × List Nat)} (h0 : ∀ n ix cy, f n 0 ix cy = none)
    (h1 : ∀ n p ix cy, f n (p + 1) ix cy = if cy.getD p 0 - 1 == 0 then f n p (ix.take p ++ ix.drop (p + 1) ++ [ix.getD p 0]) (cy.set p (n - p)) else
      some ((ix.set p (ix.getD (n - (cy.getD p 0 - 1)) 0)).set (n - (cy.getD p 0 - 1)) (ix.getD p 0), cy.set p (cy.getD p 0 - 1))) (n : Nat) : ∀ (p : Nat) (ix cy : List Nat), f n p ix cy = nxP n p ix cy
  | 0, ix, cy => by rw [h0]; rfl
  | p + 1, ix, cy => by
    rw [h1]
    unfold nxP
    split
    · exact nxP_uniq h0 h1 n p _ _
    · rfl
end PrmK


/-! itertools.permutations(range(n), k): made, its turns -/
namespace PrmK
open PySem PySem.Spec PyProof.Rows L2
end PrmK


/-! itertools.permutations: its turns -/
namespace PrmK
open PySem PySem.Spec PyProof.Rows L2
theorem cells_st (T : Addr) (st st' : Int) (r : Nat) (bf : Value) (ns : List Nat) : (cells T st r bf ns).setIfInBounds 1 (.int st' 0) = cells T st' r bf ns := by
  unfold cells
  simp
theorem cells_bf (T : Addr) (st : Int) (r : Nat) (bf bf' : Value) (ns : List Nat) : (cells T st r bf ns).setIfInBounds 3 bf' = cells T st r bf' ns := by
  unfold cells
  simp
theorem cells_set (T : Addr) (st : Int) (r : Nat) (bf : Value) (ns ls : List Nat) : (cells T st r bf ns).extract 0 4 ++ (ls.map fun (n : Nat) => rawInt n).toArray = cells T st r bf ls := by
  unfold cells
  simp [rawInt]
/-- the items at these places -/
def picks (xs : Array Value) (ks : List Nat) : List Value := ks.map fun i => xs.getD i .none
section
variable {prog : Program} {w : World} {A : Around} {E : Value → Shared → Prop} {s : Shared} {it T : Addr} {bf : Value} {ns : List Nat} {r : Nat} {xs : Array Value}
theorem nums_from {st : Int} {Q : List Nat → Shared → Prop} (hz : IsPrm s.heap it T st r bf ns) (h : Q ns s) : wpAny (model prog w) A (Builtin.Itertools.itNumbersFrom (.ref it) 4) Q E s := by
  have key : ∀ l, l = ns → Q l s := fun l e => e ▸ h
  unfold Builtin.Itertools.itNumbersFrom
  refine wpAny_bind (wpAny_load hz (wpAny_pure (key _ ?_)))
  show List.map _ (ns.map fun (i : Nat) => Value.int i 0) = ns
  rw [List.map_map]
  conv => rhs; rw [← List.map_id ns]
  apply List.map_congr_left
  intro i _
  simp
/-- the items at the places, handed out -/
theorem hand_out {st : Int} {ls : List Nat} {Q : Value → Shared → Prop} (hz : IsPrm s.heap it T st r bf ns) (hT : s.heap.IsTuple T xs) (hl : ls.length ≤ 1000)
    (hQ : ∀ h', IsPrm h' it T st r (.ref s.heap.objs.size) ns → h'.get? s.heap.objs.size = some { cls := .type "tuple", data := .seq (picks xs ls).toArray } → h'.objs.size = s.heap.objs.size + 1 →
      (∀ c o, c ≠ it → s.heap.get? c = some o → h'.get? c = some o) → Q (.ref s.heap.objs.size) { s with heap := h' }) :
    wpAny (model prog w) A (newTuple (ls.map fun i => xs.getD i .none)) (fun result s1 => wpAny (model prog w) A (field (.ref it) 3 >>= fun before => setField (.ref it) 3 result >>= fun _ => letGo [before] [result] >>= fun _ => ret result) (fun fin s' => ∃ v, fin = .done (.ret v) ∧ Q v s') E s1) E s := by
  refine wpAny_newTuple ?_ (by rw [List.length_map, sizeLine_eq]; omega)
  have lt : it < s.heap.objs.size := Heap.lt_size hz
  have hz1 : IsPrm (s.heap.push { cls := .type "tuple", data := .seq (picks xs ls).toArray }) it T st r bf ns := Heap.get?_push_of_some _ hz
  refine wpAny_bind (wpAny_field hz1 rfl (x := bf) rfl ?_)
  refine wpAny_bind (wpAny_setField_rec hz1 (by simp [cells]) fun h2 hz2 hs2 => ?_)
  rw [cells_bf] at hz2
  refine wpAny_bind (wpAny_letGo (wpAny_pure ⟨_, rfl, ?_⟩))
  replace hs2 : Heap.SameBut it (s.heap.push { cls := .type "tuple", data := .seq (picks xs ls).toArray }) h2 := hs2
  refine hQ h2 hz2 (hs2.extBut _ _ (Nat.ne_of_gt lt) (Heap.get?_push_size _ rfl)) (by rw [hs2.1, Heap.size_push]) fun c o ce q => hs2.extBut _ _ ce (Heap.get?_push_of_some _ q)
theorem notT {st : Int} {h : Heap} (hz : IsPrm h it T st r bf ns) (hT : h.IsTuple T xs) : T ≠ it := fun e => by
  obtain ⟨o, ho, hc, _⟩ := id hT
  rw [e, hz] at ho
  cases ho
  simp at hc
theorem opt_some {α : Type} {o : Option (List Nat × List Nat)} {a b : List Nat} {F : List Nat → List Nat → Sem α} {G : Sem α} {Q : α → Shared → Prop} (h : o = some (a, b)) (k : wpAny (model prog w) A (F a b) Q E s) : wpAny (model prog w) A (match o with | some (x, y) => F x y | none => G) Q E s := by
  subst h; exact k
theorem opt_none {α : Type} {o : Option (List Nat × List Nat)} {F : List Nat → List Nat → Sem α} {G : Sem α} {Q : α → Shared → Prop} (h : o = none) (k : wpAny (model prog w) A G Q E s) : wpAny (model prog w) A (match o with | some (x, y) => F x y | none => G) Q E s := by
  subst h; exact k
/-- the first item -/
theorem turn_first {Q : Value → Shared → Prop} (hl : ns.length ≤ 2000) (hr : r ≤ 1000) (hz : IsPrm s.heap it T 0 r bf ns) (hT : s.heap.IsTuple T xs)
    (hQ : ∀ h', IsPrm h' it T 1 r (.ref s.heap.objs.size) ns → h'.get? s.heap.objs.size = some { cls := .type "tuple", data := .seq (picks xs (ns.take r)).toArray } → h'.objs.size = s.heap.objs.size + 1 →
      (∀ c o, c ≠ it → s.heap.get? c = some o → h'.get? c = some o) → Q (.ref s.heap.objs.size) { s with heap := h' }) :
    wpAny (model prog w) A (Builtin.«itertools.permutations.__next__» ⟨[.ref it], []⟩) (fun fin s' => ∃ v, fin = .done (.ret v) ∧ Q v s') E s := by
  have er : (Int.toNat ((r : Nat) : Int)) = r := Int.toNat_natCast r
  show wpAny _ _ (field (.ref it) 0 >>= _) _ _ s
  refine wpAny_bind (wpAny_field hz rfl (x := .ref T) rfl ?_)
  obtain ⟨o, ho, _, n, hd⟩ := id hT
  show wpAny _ _ (Builtin.Itertools.itPoolItems (.ref T) >>= _) _ _ s
  refine wpAny_bind (wpAny_bind (wpAny_seqItems ho hd (wpAny_pure ?_)))
  show wpAny _ _ (Builtin.Itertools.itIntField (.ref it) 2 >>= _) _ _ s
  refine wpAny_bind (wpAny_bind (wpAny_field hz rfl (x := .int r 0) rfl (wpAny_pure ?_)))
  show wpAny _ _ (Builtin.Itertools.itNumbersFrom (.ref it) 4 >>= _) _ _ s
  refine wpAny_bind (nums_from hz ?_)
  show wpAny _ _ (Builtin.Itertools.itIntField (.ref it) 1 >>= _) _ _ s
  refine wpAny_bind (wpAny_bind (wpAny_field hz rfl (x := .int 0 0) rfl (wpAny_pure ?_)))
  show wpAny _ _ (setField (.ref it) 1 (rawInt 1) >>= _) _ _ s
  refine wpAny_bind (wpAny_setField_rec hz (by simp [cells]) fun h1 hz1 hs1 => ?_)
  rw [show rawInt 1 = Value.int 1 0 from rfl, cells_st] at hz1
  replace hs1 : Heap.SameBut it s.heap h1 := hs1
  have hT1 : h1.IsTuple T xs := let ⟨o, ho, r⟩ := hT; ⟨o, hs1.extBut _ _ (notT hz hT) ho, r⟩
  show wpAny _ _ (newTuple ((ns.take (Int.toNat (r : Int))).map fun i => xs.getD i .none) >>= _) _ _ _
  rw [er]
  refine wpAny_bind ?_
  exact hand_out (s := { s with heap := h1 }) hz1 hT1 (by rw [List.length_take]; omega) fun h2 z2 t2 n2 k2 => by
    have n1 : h1.objs.size = s.heap.objs.size := hs1.1
    replace z2 : IsPrm h2 it T 1 r (.ref h1.objs.size) ns := z2
    replace t2 : h2.get? h1.objs.size = some { cls := .type "tuple", data := .seq (picks xs (ns.take r)).toArray } := t2
    replace n2 : h2.objs.size = h1.objs.size + 1 := n2
    show Q (.ref h1.objs.size) { s with heap := h2 }
    rw [n1] at z2 t2 n2 ⊢
    exact hQ h2 z2 t2 n2 fun c o ce q => k2 c o ce (hs1.extBut _ _ ce q)
/-- an item behind the first one -/
theorem turn_next {Q : Value → Shared → Prop} {ix cy : List Nat} (hl : ix.length ≤ 1000) (hc : cy.length ≤ 1000) (hr : r ≤ 1000) (hz : IsPrm s.heap it T 1 r bf ns) (hT : s.heap.IsTuple T xs) (hn : nxP xs.size r (ns.take xs.size) (ns.drop xs.size) = some (ix, cy))
    (hQ : ∀ h', IsPrm h' it T 1 r (.ref s.heap.objs.size) (ix ++ cy) → h'.get? s.heap.objs.size = some { cls := .type "tuple", data := .seq (picks xs (ix.take r)).toArray } → h'.objs.size = s.heap.objs.size + 1 →
      (∀ c o, c ≠ it → s.heap.get? c = some o → h'.get? c = some o) → Q (.ref s.heap.objs.size) { s with heap := h' }) :
    wpAny (model prog w) A (Builtin.«itertools.permutations.__next__» ⟨[.ref it], []⟩) (fun fin s' => ∃ v, fin = .done (.ret v) ∧ Q v s') E s := by
  have er : (Int.toNat ((r : Nat) : Int)) = r := Int.toNat_natCast r
  show wpAny _ _ (field (.ref it) 0 >>= _) _ _ s
  refine wpAny_bind (wpAny_field hz rfl (x := .ref T) rfl ?_)
  obtain ⟨o, ho, _, n, hd⟩ := id hT
  show wpAny _ _ (Builtin.Itertools.itPoolItems (.ref T) >>= _) _ _ s
  refine wpAny_bind (wpAny_bind (wpAny_seqItems ho hd (wpAny_pure ?_)))
  show wpAny _ _ (Builtin.Itertools.itIntField (.ref it) 2 >>= _) _ _ s
  refine wpAny_bind (wpAny_bind (wpAny_field hz rfl (x := .int r 0) rfl (wpAny_pure ?_)))
  show wpAny _ _ (Builtin.Itertools.itNumbersFrom (.ref it) 4 >>= _) _ _ s
  refine wpAny_bind (nums_from hz ?_)
  show wpAny _ _ (Builtin.Itertools.itIntField (.ref it) 1 >>= _) _ _ s
  refine wpAny_bind (wpAny_bind (wpAny_field hz rfl (x := .int 1 0) rfl (wpAny_pure ?_)))
  rw [er]
  have un : ∀ {f : Nat → Nat → List Nat → List Nat → Option (List Nat × List Nat)}, (∀ n ix cy, f n 0 ix cy = none) → (∀ n p ix cy, f n (p + 1) ix cy = if cy.getD p 0 - 1 == 0 then f n p (ix.take p ++ ix.drop (p + 1) ++ [ix.getD p 0]) (cy.set p (n - p)) else
      some ((ix.set p (ix.getD (n - (cy.getD p 0 - 1)) 0)).set (n - (cy.getD p 0 - 1)) (ix.getD p 0), cy.set p (cy.getD p 0 - 1))) → f xs.size r (ns.take xs.size) (ns.drop xs.size) = some (ix, cy) := fun h0 h1 => (nxP_uniq h0 h1 _ _ _ _).trans hn
  have fin : wpAny (model prog w) A (Builtin.Itertools.itSetNumbersFrom (.ref it) 4 (ix ++ cy)) (fun _ s1 => wpAny (model prog w) A (newTuple ((ix.take r).map fun i => xs.getD i .none) >>= fun result => field (.ref it) 3 >>= fun before => setField (.ref it) 3 result >>= fun _ => letGo [before] [result] >>= fun _ => ret result) (fun fin s' => ∃ v, fin = .done (.ret v) ∧ Q v s') E s1) E s := by
    refine wpAny_updateFields hz rfl ?_ (by rw [cells_set]; simp [cells, sizeLine_eq]; omega)
    have hz1 := Heap.get?_update_self (Obj.mapFields fun fs => fs.extract 0 4 ++ ((ix ++ cy).map fun (n : Nat) => rawInt n).toArray) hz rfl
    have e1 : (Obj.mapFields (fun fs => fs.extract 0 4 ++ ((ix ++ cy).map fun (n : Nat) => rawInt n).toArray) { cls := .type "itertools.permutations", data := .fields (cells T 1 r bf ns) }) = { cls := .type "itertools.permutations", dict := none, data := .fields (cells T 1 r bf (ix ++ cy)), slots := #[] } := by
      rw [← cells_set T 1 r bf ns (ix ++ cy)]
      rfl
    rw [e1] at hz1
    have sb : Heap.SameBut it s.heap (s.heap.update it (Obj.mapFields fun fs => fs.extract 0 4 ++ ((ix ++ cy).map fun (n : Nat) => rawInt n).toArray)) := Heap.SameBut.update ..
    generalize s.heap.update it (Obj.mapFields fun fs => fs.extract 0 4 ++ ((ix ++ cy).map fun (n : Nat) => rawInt n).toArray) = h1 at hz1 sb
    have hT1 : h1.IsTuple T xs := let ⟨o, ho, r⟩ := hT; ⟨o, sb.extBut _ _ (notT hz hT) ho, r⟩
    refine wpAny_bind ?_
    exact hand_out (s := { s with heap := h1 }) hz1 hT1 (by rw [List.length_take]; omega) fun h2 z2 t2 n2 k2 => by
      have n1 : h1.objs.size = s.heap.objs.size := sb.1
      replace z2 : IsPrm h2 it T 1 r (.ref h1.objs.size) (ix ++ cy) := z2
      replace t2 : h2.get? h1.objs.size = some { cls := .type "tuple", data := .seq (picks xs (ix.take r)).toArray } := t2
      replace n2 : h2.objs.size = h1.objs.size + 1 := n2
      show Q (.ref h1.objs.size) { s with heap := h2 }
      rw [n1] at z2 t2 n2 ⊢
      exact hQ h2 z2 t2 n2 fun c o ce q => k2 c o ce (sb.extBut _ _ ce q)
  refine opt_some (F := fun a b => Builtin.Itertools.itSetNumbersFrom (.ref it) 4 (a ++ b) >>= fun _ => newTuple ((a.take r).map fun i => xs.getD i .none) >>= fun result => field (.ref it) 3 >>= fun before => setField (.ref it) 3 result >>= fun _ => letGo [before] [result] >>= fun _ => ret result) (G := setField (.ref it) 1 (rawInt 2) >>= fun _ => Builtin.Itertools.itStop) (un (by intros; rfl) (by intros; rfl)) ?_
  exact wpAny_bind fin
/-- StopIteration -/
theorem stops {Q : Fin → Shared → Prop} (hh : A.handled = none) (hE : ∀ e h', (∀ c o, s.heap.get? c = some o → h'.get? c = some o) → (∃ o, h'.get? e = some o ∧ o.cls = .type "StopIteration") → E (.ref e) { s with heap := h' }) :
    wpAny (model prog w) A (Builtin.Itertools.itStop (α := Fin)) Q E s := CmbK.stops hh hE
/-- at its end: behind the last item, or there never was one -/
theorem turn_end {st : Int} {Q : Fin → Shared → Prop} (hh : A.handled = none) (hz : IsPrm s.heap it T st r bf ns) (hT : s.heap.IsTuple T xs) (hn : (st = 1 ∧ nxP xs.size r (ns.take xs.size) (ns.drop xs.size) = none) ∨ st = 2)
    (hE : ∀ e h', (∀ c o, c ≠ it → s.heap.get? c = some o → h'.get? c = some o) → (∃ o, h'.get? e = some o ∧ o.cls = .type "StopIteration") → E (.ref e) { s with heap := h' }) :
    wpAny (model prog w) A (Builtin.«itertools.permutations.__next__» ⟨[.ref it], []⟩) Q E s := by
  have er : (Int.toNat ((r : Nat) : Int)) = r := Int.toNat_natCast r
  show wpAny _ _ (field (.ref it) 0 >>= _) _ _ s
  refine wpAny_bind (wpAny_field hz rfl (x := .ref T) rfl ?_)
  obtain ⟨o, ho, _, n, hd⟩ := id hT
  show wpAny _ _ (Builtin.Itertools.itPoolItems (.ref T) >>= _) _ _ s
  refine wpAny_bind (wpAny_bind (wpAny_seqItems ho hd (wpAny_pure ?_)))
  show wpAny _ _ (Builtin.Itertools.itIntField (.ref it) 2 >>= _) _ _ s
  refine wpAny_bind (wpAny_bind (wpAny_field hz rfl (x := .int r 0) rfl (wpAny_pure ?_)))
  show wpAny _ _ (Builtin.Itertools.itNumbersFrom (.ref it) 4 >>= _) _ _ s
  refine wpAny_bind (nums_from hz ?_)
  show wpAny _ _ (Builtin.Itertools.itIntField (.ref it) 1 >>= _) _ _ s
  refine wpAny_bind (wpAny_bind (wpAny_field hz rfl (x := .int st 0) rfl (wpAny_pure ?_)))
  rcases hn with ⟨rfl, hn⟩ | rfl
  · rw [er]
    have un : ∀ {f : Nat → Nat → List Nat → List Nat → Option (List Nat × List Nat)}, (∀ n ix cy, f n 0 ix cy = none) → (∀ n p ix cy, f n (p + 1) ix cy = if cy.getD p 0 - 1 == 0 then f n p (ix.take p ++ ix.drop (p + 1) ++ [ix.getD p 0]) (cy.set p (n - p)) else
      some ((ix.set p (ix.getD (n - (cy.getD p 0 - 1)) 0)).set (n - (cy.getD p 0 - 1)) (ix.getD p 0), cy.set p (cy.getD p 0 - 1))) → f xs.size r (ns.take xs.size) (ns.drop xs.size) = none := fun h0 h1 => (nxP_uniq h0 h1 _ _ _ _).trans hn
    refine opt_none (F := fun a b => Builtin.Itertools.itSetNumbersFrom (.ref it) 4 (a ++ b) >>= fun _ => newTuple ((a.take r).map fun i => xs.getD i .none) >>= fun result => field (.ref it) 3 >>= fun before => setField (.ref it) 3 result >>= fun _ => letGo [before] [result] >>= fun _ => ret result) (G := setField (.ref it) 1 (rawInt 2) >>= fun _ => Builtin.Itertools.itStop) (un (by intros; rfl) (by intros; rfl)) ?_
    refine wpAny_bind (wpAny_setField_rec hz (by simp [cells]) fun h1 _ hs1 => ?_)
    replace hs1 : Heap.SameBut it s.heap h1 := hs1
    exact stops (s := { s with heap := h1 }) hh fun e h' k x => hE e h' (fun c o ce q => k c o (hs1.extBut _ _ ce q)) x
  · show wpAny _ _ (rule "itertools.permutations.ended" >>= _) _ _ s
    refine wpAny_bind (wpAny_rule ?_)
    exact stops hh fun e h' k x => hE e h' (fun c o _ q => k c o q) x
/-- next(c) -/
theorem py_next {st : Int} {Q : Option Value → Shared → Prop} (hz : IsPrm s.heap it T st r bf ns)
    (h : ∀ E' : Value → Shared → Prop, wpAny (model prog w) A.in1 (Builtin.«itertools.permutations.__next__» ⟨[.ref it], []⟩) (fun fin s' => ∃ v, fin = .done (.ret v) ∧ Q (some v) s') E' s) : wpAny (model prog w) A (pyNext (.ref it)) Q E s := by
  have hC : s.TypeIs (.ref it) "itertools.permutations" := ⟨_, hz, rfl⟩
  unfold pyNext
  refine wpAny_bind (wpAny_attempt (wpAny_callSpecial?_slot (name := Str.ofString "__next__") hC next_c (wpAny_call_entry next_c hC entryX_c ?_ (argsX_c _))))
  refine wpAny_mono (h _) (fun fin s' ⟨v, e, q⟩ => ?_) fun _ _ y => y
  subst e
  exact ⟨v, rfl, wpAny_pure q⟩
theorem py_end {st : Int} {Q : Option Value → Shared → Prop} (hh : A.handled = none) (hz : IsPrm s.heap it T st r bf ns) (hT : s.heap.IsTuple T xs) (hn : (st = 1 ∧ nxP xs.size r (ns.take xs.size) (ns.drop xs.size) = none) ∨ st = 2)
    (hQ : ∀ h', (∀ c o, c ≠ it → s.heap.get? c = some o → h'.get? c = some o) → Q none { s with heap := h' }) : wpAny (model prog w) A (pyNext (.ref it)) Q E s := by
  have hC : s.TypeIs (.ref it) "itertools.permutations" := ⟨_, hz, rfl⟩
  unfold pyNext
  refine wpAny_bind (wpAny_attempt (wpAny_callSpecial?_slot (name := Str.ofString "__next__") hC next_c (wpAny_call_entry next_c hC entryX_c ?_ (argsX_c _))))
  refine turn_end (A := A.in1) hh hz hT hn fun e h' k ⟨o, ho, hc⟩ => ?_
  refine wpAny_bind (wpAny_isInstance (T := "StopIteration") (b := true) ⟨o, ho, hc⟩ isSubtype_stop ?_)
  exact wpAny_pure (hQ _ k)
theorem py_iter {st : Int} {Q : Value → Shared → Prop} (hz : IsPrm s.heap it T st r bf ns) (h : Q (.ref it) s) : wpAny (model prog w) A (pyIter (.ref it)) Q E s := by
  have hC : s.TypeIs (.ref it) "itertools.permutations" := ⟨_, hz, rfl⟩
  refine wpAny_pyIter_slot hC iter_c (wpAny_call_entry iter_c hC entryI_c ?_ (argsI_c _))
  show wpAny _ _ (ret (.ref it)) _ _ s
  exact wpAny_pure ⟨_, rfl, "itertools.permutations", _, hC, next_c.lookup, h⟩
end
end PrmK


/-! for t in itertools.permutations(range(n), k) -/
namespace Lm
open PySem PySem.Spec PyProof.Rows L2 PrmK
abbrev PrS := List Nat × List Nat
section
variable {c : Ct} {Γ : List (Option Rs)} {te tk : TE} {kd ke : Kd}
end
end Lm


/-! itertools.permutations(range(n), k): made, its turns -/
namespace PrmK
open PySem PySem.Spec PyProof.Rows L2
end PrmK


/-! list(permutations(range(n))) -/
namespace PrmK
open PySem PySem.Spec PyProof.Rows L2
end PrmK
namespace Lm
open PySem PySem.Spec PyProof.Rows L2 PrmK
/-- the iterator at its i-th turn -/
def PAt (k : Nat) (seq : List PrS) (xs : Array Value) (h : Heap) (it T : Addr) (i : Nat) : Prop := ∃ bf st ns, IsPrm h it T st k bf ns ∧ h.IsTuple T xs ∧ ((i = 0 ∧ st = 0 ∧ ∃ s, seq[0]? = some s ∧ ns = s.1 ++ s.2) ∨ (∃ j, i = j + 1 ∧ st = 1 ∧ ∃ s, seq[j]? = some s ∧ ns = s.1 ++ s.2))
theorem PAt.at {k : Nat} {seq : List PrS} {xs : Array Value} {h h' : Heap} {it T : Addr} {i : Nat} (p : PAt k seq xs h it T i) (kk : ∀ c ∈ [it, T], ∀ o, h.get? c = some o → h'.get? c = some o) : PAt k seq xs h' it T i := by
  obtain ⟨bf, st, ns, hz, ⟨o, ho, r⟩, cs⟩ := p
  exact ⟨bf, st, ns, kk it (by simp) _ hz, ⟨o, kk T (by simp) _ ho, r⟩, cs⟩
section
variable {prog : Program} {w : World} {A : Around} {E : Value → Shared → Prop} {s : Shared} {it T : Addr} {n k : Nat} {seq : List PrS} {xs : Array Value}
end
section
variable {prog : Program} {w : World} {A : Around} {R : Result → Shared → Prop}
end
section
variable {prog : Program} {w : World} {A : Around} {E : Value → Shared → Prop} {s : Shared}
end
section
variable {c : Ct} {H H' : Hp} {Γ : List (Option Rs)} {te : TE} {kd : Kd}
end
end Lm


/-! sorted(xs), xs a list of data that can be compared -/
namespace L2
open PySem PySem.Spec PyProof.Rows
end L2
namespace Lm
open PySem PySem.Spec PyProof.Rows L2
section
variable {X : Cx} {K : PySem.W.Frag} (hK : X.K = K)
include hK
end
section
variable {c : Ct} {Γ : List (Option Rs)} {te : TE} {k : Kd}
end
end Lm


/-! a comprehension whose items stay, lists in them too; a for loop over such things -/
namespace Lm
open PySem PySem.Spec PyProof.Rows L2
section
variable {c : Ct} {H H' H0 H1 H2 H3 H4 : Hp} {O : List Addr} {σ : L2.St} {Γ Γ' : List (Option Rs)} {te ta tb tx : TE} {tr : TA} {k ka kb : Kd} {u : TS} {P : Out → Prop} {n : Nat} {x d : PyData} {ds : List PyData} {fz : Bool}
theorem mns_own {D : Addr} {o : HO} (hD : H D = none) : mns (upd H D o) (D :: O) = mns H O := by
  funext a
  by_cases q : a = D
  · subst q
    rw [mns_in (by simp)]
    by_cases w : a ∈ O
    · rw [mns_in w]
    · rw [mns_out w, hD]
  · by_cases w : a ∈ O
    · rw [mns_in w, mns_in (by simp [w])]
    · rw [mns_out w, mns_out (by simp [w, q]), upd_ne q]
theorem mns_upd {D : Addr} {o : HO} : mns (upd H D o) (D :: O) = mns H (D :: O) := by
  funext a
  by_cases q : a = D
  · subst q
    rw [mns_in (by simp), mns_in (by simp)]
  · by_cases w : a ∈ O
    · rw [mns_in (by simp [w]), mns_in (by simp [w])]
    · rw [mns_out (by simp [w, q]), mns_out (by simp [w, q]), upd_ne q]
theorem rr_upd {D : Addr} {o : HO} (r : Rr c H1 H4) (hD : H1 D = none) : Rr c H1 (upd H4 D o) := by
  refine ⟨fun a o' ok z => ?_, fun jj => ?_⟩
  · rw [upd_ne (ne_of_none z hD)]; exact r.1 a o' ok z
  · intro st l eq
    obtain ⟨ns, x, k, g1, g2, g3, g4⟩ := r.2 jj st l eq
    have d1 : st ≠ D := fun z => by
      obtain ⟨ns', x', k', g1', _⟩ := jj st l eq
      rw [z, hD] at g1'; cases g1'
    have d2 : l ≠ D := fun z => by
      obtain ⟨ns', x', k', _, g2', _⟩ := jj st l eq
      rw [z, hD] at g2'; cases g2'
    exact ⟨ns, x, k, by rw [upd_ne d1]; exact g1, by rw [upd_ne d2]; exact g2, g3, g4⟩
/-- with one more list of one's own -/
theorem Env.own {D : Addr} {acc : List V} (e : Env c H0 O H σ Γ) (hD : H D = none) (r : Rr c H H') (h : H' D = some (.lst acc)) (rm : Rr c (mns H O) (mns H' (D :: O))) : Env c H0 (D :: O) H' σ Γ := by
  refine ⟨e.r0.tr rm, rm.2 e.j, fun a ha => ?_, fun a ha => ?_, ?_⟩
  · rcases List.mem_cons.mp ha with w | w
    · subst w
      refine e.back0 ?_
      by_cases z : a ∈ O
      · exact mns_in z
      · rw [mns_out z]; exact hD
    · exact e.fr a w
  · rcases List.mem_cons.mp ha with w | w
    · subst w; exact ⟨_, h, trivial⟩
    · obtain ⟨xs, q, hq⟩ := e.dm a w
      exact ⟨xs, r.1 a _ (e.okO a w) q, hq⟩
  · obtain ⟨fp, h, nd, sub⟩ := e.rep
    refine ⟨fp, h.map fun x s f q z => ?_, nd, fun a ha => List.mem_cons_of_mem _ (sub a ha)⟩
    cases s with
    | none => exact z
    | some s =>
      cases s with
      | v d => exact ⟨z.1, z.2.elim fun v hv => ⟨v, hv.1, hv.2.mono e.j rm⟩⟩
      | o d => exact z.elim fun v hv => ⟨v, hv.1, hv.2.up (fun _ _ s => r.tup e.jH s) fun a ha o ho => r.1 a o (e.okO a (sub a (q a ha))) ho⟩
      | r y => exact z
      | d u => exact z.elim fun a ⟨w1, w2, w3, w4⟩ => ⟨a, w1, w2, r.1 a _ (e.okO a (sub a (q a (by rw [w1]; simp)))) w3, w4⟩
      | w ds => exact z.elim fun a ⟨xs, w1, w2, w3, w4⟩ => ⟨a, xs, w1, w2, r.1 a _ (e.okO a (sub a (q a (by rw [w1]; simp)))) w3, w4.mono e.j rm⟩
end
end Lm
namespace Lm
open PySem PySem.Spec PyProof.Rows L2
/-! ### any value: what shows that a set is too small -/
def intsD : PyData → List Int
  | .tuple ds => ds.map fun d => match d with
    | .int i => i
    | _ => 0
  | _ => []
theorem intsD_tup (ns : List Int) : intsD (tupD ns) = ns := by
  show (ns.map PyData.int).map _ = ns
  rw [List.map_map]
  exact List.map_id'' (fun _ => rfl) ns
def SmF (x : PyData) : Prop := ∀ es, x = .tuple es → es.length < 64
theorem SmF.t {x : PyData} (h : SmF x) : SmallT x := fun es e => by have := h es e; omega
end Lm
namespace Lm
open PySem PySem.Spec PyProof.Rows L2
end Lm
namespace Lm
open PySem PySem.Spec PyProof.Rows L2
end Lm


namespace Lm
open PySem PySem.Spec PyProof.Rows L2
section
variable {c : Ct} {H H' H0 H1 H2 H3 H4 : Hp} {O : List Addr} {σ : L2.St} {Γ Γ' : List (Option Rs)} {te ta tb tx : TE} {tt : TT} {tr : TA} {k ka kb : Kd} {u : TS} {n : Nat} {x d : PyData} {ds : List PyData} {fz : Bool}
end
theorem smf_len {es : List PyData} (h : es.length < 64) : SmF (.tuple es) := fun es' e => by cases e; exact h
theorem smf_tup {ns : List Int} (h : ns.length < 64) : SmF (tupD ns) := smf_len (by simpa using h)
theorem smf_no {x : PyData} (h : ∀ es, x ≠ .tuple es) : SmF x := fun es e => absurd e (h es)
end Lm


/-! displays of which some items are drawn -/
namespace Lm
open PySem PySem.Spec PyProof.Rows L2
def EvAN (c : Ct) (ta : TA) (Γ : List (Option Rs)) (Pd : List PyData → Prop) : Prop :=
  ∀ H0 O H σ, Env c H0 O H σ Γ → ∀ Q : List V → Hp → Prop, (∀ vs ds H2, Pd ds → Rr c H H2 → BoAll c (mns H2 O) vs ds → Q vs H2) → ta σ H Q
section
variable {c : Ct} {H H' H0 H1 H2 H3 H4 : Hp} {O : List Addr} {σ : L2.St} {Γ Γ' : List (Option Rs)} {te ta tb tx : TE} {tr : TA} {k ka kb : Kd} {u : TS} {n : Nat} {x d : PyData} {ds : List PyData} {P P' : PyData → Prop} {Pd : List PyData → Prop}
theorem an_nil : EvAN c tNil Γ (fun ds => ds = []) := fun H0 O H σ e Q q => q [] [] H rfl Rr.rf .nil
theorem an_cons {P2 : List PyData → Prop} (h : EvN c te Γ .v P) (t : EvAN c tr Γ P2) : EvAN c (tCons te tr) Γ (fun ds => ∃ d es, ds = d :: es ∧ P d ∧ P2 es) := fun H0 O H σ e Q q =>
  h H0 O H σ e _ fun v d H1 pd r1 s1 => t H0 O H1 σ (e.on r1) _ fun vs es H2 pe r2 s2 => by
    have b1 : Bo c (mns H2 O) v d := Res.on (k := .v) e r1 r2 s1
    exact q (v :: vs) (d :: es) H2 ⟨d, es, rfl, pd, pe⟩ (r1.tr r2) (.cons b1 s2)
theorem an_consD (h : Ev c te Γ .v d) {P2 : List PyData → Prop} (t : EvAN c tr Γ P2) : EvAN c (tCons te tr) Γ (fun ds => ∃ d' es, ds = d' :: es ∧ d' = d ∧ P2 es) := an_cons h.n t
theorem n_lstVN (h : EvAN c tr Γ Pd) (hl : ∀ ds, Pd ds → ds.length ≤ 1000000) : EvN c (tLst tr) Γ .v (fun d => ∃ ds, d = .list ds ∧ Pd ds) := fun H0 O H σ e Q q =>
  h H0 O H σ e _ fun vs ds H1 pd r s => by
    refine ⟨by rw [s.len]; exact sizeOk (hl ds pd), fun p hp => q _ _ _ ⟨ds, rfl, pd⟩ (r.tr (Rr.same fun b u z => by rw [upd_ne (ne_of_none z hp)]; exact z)) (newV (H := H1) (e.on r) s hp)⟩
theorem n_tupVN (h : EvAN c tr Γ Pd) (hl : ∀ ds, Pd ds → ds.length ≤ 1000000) : EvN c (tTupN tr) Γ .v (fun d => ∃ ds, d = .tuple ds ∧ Pd ds) := fun H0 O H σ e Q q =>
  h H0 O H σ e _ fun vs ds H1 pd r s => by
    refine ⟨by rw [s.len]; exact sizeOk (hl ds pd), newTk (c := c) fun p H2 hp sm tp => q _ _ H2 ⟨ds, rfl, pd⟩ (r.tr (Rr.same sm)) ?_⟩
    have r2 : Rr c H H2 := r.tr (Rr.same sm)
    exact .tup (tpN_mns e r2 tp) (s.mono (e.on r).j ((Rr.same sm : Rr c H1 H2).mns (e.on r).j e.okO))
theorem EvAN.imp {P2 : List PyData → Prop} (h : EvAN c tr Γ Pd) (i : ∀ ds, Pd ds → P2 ds) : EvAN c tr Γ P2 := fun H0 O H σ e Q q => h H0 O H σ e Q fun vs ds H2 p => q vs ds H2 (i ds p)
/-- all of one kind -/
def AllP (P : PyData → Prop) (n : Nat) (ds : List PyData) : Prop := ds.length = n ∧ ∀ d ∈ ds, P d
end
theorem smf_i {i : Int} : SmF (.int i) := smf_no fun es e => by cases e
end Lm


/-! sorted(xs, key=len), xs a list of lists -/
namespace L2
open PySem PySem.Spec PyProof.Rows
end L2
namespace L2
open PySem PySem.Spec PyProof.Rows
end L2
namespace Lm
open PySem PySem.Spec PyProof.Rows L2
def lenI (a b : List Int) : Bool := decide ((a.length : Int) ≤ (b.length : Int))
section
variable {c : Ct} {Γ : List (Option Rs)} {te : TE} {k : Kd}
end
end Lm
namespace Lm
open PySem PySem.Spec PyProof.Rows L2
end Lm
namespace Lm
open PySem PySem.Spec PyProof.Rows L2
end Lm
namespace Lm
open PySem PySem.Spec PyProof.Rows L2
end Lm
namespace Lm
open PySem PySem.Spec PyProof.Rows L2
def rwB (b : Int) (r : PyData) : Bool := areInts r 0 (b - 1) && decide (((sdI (intsD r)).length : Int) = ((intsD r).length : Int))
def alB (x : PyData) (v b : Int) : Bool := match x with
  | .tuple es => decide ((es.length : Int) = v) && es.all (rwB b)
  | _ => false
def SmL (x : PyData) : Prop := ∀ es, x = .tuple es → es.length ≤ 1000 ∧ ∀ r ∈ es, SmF r
end Lm


/-! lists by whomever (k56) -/
namespace Lm
open PySem PySem.Spec PyProof.Rows L2
/-! ### rules: a slice whose end is drawn, tuples of which one is drawn -/
section
variable {c : Ct} {H H' H0 H1 H2 H3 : Hp} {O : List Addr} {Γ Γ' Γ1 : List (Option Rs)}
variable {te ta tb tx : TE} {tl th : TO} {k ka kb : Kd} {d x y z : PyData} {i j : Int} {a b : Bool} {ds es : List PyData}
theorem n_catT {Pa Pb : PyData → Prop} (ha : EvN c ta Γ .v Pa) (hb : EvN c tb Γ .v Pb) (hp : ∀ x y, Pa x → Pb y → ∃ ds es, x = .tuple ds ∧ y = .tuple es ∧ ds.length + es.length ≤ 1000000) :
    EvN c (tOp (rAddA c.K) ta tb) Γ .v (fun d => ∃ ds es, d = .tuple (ds ++ es) ∧ Pa (.tuple ds) ∧ Pb (.tuple es)) := fun H0 O H σ e Q q =>
  ha H0 O H σ e _ fun v x H1 px r1 s1 => hb H0 O H1 σ (e.on r1) _ fun u y H2 py r2 s2 => by
    obtain ⟨ds, es, rfl, rfl, hl⟩ := hp x y px py
    have bv : Bo c (mns H2 O) v (.tuple ds) := Res.on (k := .v) e r1 r2 s1
    have bu : Bo c (mns H2 O) u (.tuple es) := s2
    obtain ⟨p, xs, rfl, s, al⟩ := Bo.tup' bv
    obtain ⟨p2, ys, rfl, s', al'⟩ := Bo.tup' bu
    refine .inr (.inl ⟨p, p2, xs, ys, rfl, rfl, (sqT_same mns_same s).sq, (sqT_same mns_same s').sq, by rw [al.len, al'.len]; exact sizeOk hl, fun hx => ?_, fun hx hy => ?_, fun _ _ => newTk (c := c) fun q' H3 hp sm tp => ?_⟩)
    · subst hx
      cases al
      exact q _ _ H2 ⟨[], es, rfl, px, py⟩ (r1.tr r2) bu
    · subst hy
      cases al'
      exact q _ _ H2 ⟨ds, [], rfl, px, py⟩ (r1.tr r2) (by show Bo c (mns H2 O) _ _; rw [List.append_nil]; exact bv)
    · have r3 : Rr c H2 H3 := Rr.same sm
      have e2 := (e.on r1).on r2
      exact q _ _ H3 ⟨ds, es, rfl, px, py⟩ ((r1.tr r2).tr r3) (.tup (tpN_mns e2 r3 tp) ((al.app al').mono e2.j (r3.mns e2.j e2.okO)))
end
/-! ### the mathematics -/
inductive RwX : PyData → Prop
  | row {ns : List Int} : ns.length ≤ 60 → RwX (tupD ns)
  | bad {ns : List Int} : ns.length ≤ 60 → RwX (.tuple (ns.map .int ++ [.bool true]))
  | int (i : Int) : RwX (.int i)
def LsX (x : PyData) : Prop := x = .none ∨ (∃ xs, x = .list xs) ∨ ∃ es, x = .tuple es ∧ es.length ≤ 10 ∧ ∀ e ∈ es, RwX e
theorem RwX.sm {e : PyData} (h : RwX e) : SmF e := by
  cases h with
  | row h => exact smf_tup (by omega)
  | bad h => exact smf_len (by simp; omega)
  | int i => exact smf_i
theorem LsX.sm {x : PyData} (h : LsX x) : SmL x := fun es e => by
  subst e
  rcases h with h | ⟨xs, h⟩ | ⟨es', h, hl, hr⟩
  · cases h
  · cases h
  · cases h
    exact ⟨by omega, fun r hr' => (hr r hr').sm⟩
/-! ### the promises -/
end Lm


/-! a dict of one's own whose values are scalars -/
namespace Lm
open PySem PySem.Spec PyProof.Rows L2
section
variable {c : Ct} {H H' H0 H1 H2 H3 : Hp} {O : List Addr} {σ : L2.St} {Γ Γ' : List (Option Rs)} {te ta tb tx : TE} {k ka kb : Kd} {u : TS} {P : Out → Prop} {n : Nat} {x d : PyData} {i : Int}
/-- a slot is given a new dict -/
theorem Env.setD (e : Env c H0 O H σ Γ) {i : Nat} {p : Addr} {u : HO} (hp : H p = none) (hu : OwnU u) : Env c H0 (p :: O) (upd H p u) (σ.set i (some (.ref p))) (Γ.set i (some (.d u))) := by
  have sm : Same H (upd H p u) := fun b o z => by rw [upd_ne (ne_of_none z hp)]; exact z
  have r : Rr c H (upd H p u) := Rr.same sm
  have e' := e.on r
  have hO : p ∉ O := new_notO e hp
  have hn : mns H O p = none := by rw [mns_out hO]; exact hp
  have em : mns (upd H p u) (p :: O) = mns H O := by
    funext a
    by_cases q : a = p
    · subst q
      rw [mns_in (by simp), hn]
    · by_cases w : a ∈ O
      · rw [mns_in w, mns_in (by simp [w])]
      · rw [mns_out w, mns_out (by simp [w, q]), upd_ne q]
  refine ⟨by rw [em]; exact e.r0, by rw [em]; exact e.j, fun a ha => ?_, fun a ha => ?_, ?_⟩
  · rcases List.mem_cons.mp ha with q | q
    · rw [q]; exact e.back0 hn
    · exact e.fr a q
  · rcases List.mem_cons.mp ha with q | q
    · rw [q]; exact ⟨u, upd_same, hu⟩
    · exact e'.dm a q
  · obtain ⟨fp, hr, nd, sub⟩ := e.rep
    have keep : ∀ y t g, (∀ a ∈ g, a ∈ O) → RepO c O H y t g → RepO c (p :: O) (upd H p u) y t g := fun y t g hg z => by
      cases t with
      | none => exact z
      | some t =>
        cases t with
        | v d => exact ⟨z.1, z.2.elim fun v hv => ⟨v, hv.1, by rw [em]; exact hv.2⟩⟩
        | o d => exact z.elim fun v hv => ⟨v, hv.1, hv.2.up (fun _ _ s => r.tup e.jH s) fun a ha o ho => r.1 a o (e.okO a (hg a ha)) ho⟩
        | r y => exact z
        | d u => exact z.elim fun a ⟨w1, w2, w3, w4⟩ => ⟨a, w1, w2, r.1 a _ (e.okO a (hg a (by rw [w1]; simp))) w3, w4⟩
        | w ds => exact z.elim fun a ⟨xs, w1, w2, w3, w4⟩ => ⟨a, xs, w1, w2, r.1 a _ (e.okO a (hg a (by rw [w1]; simp))) w3, by rw [em]; exact w4⟩
    by_cases hi : i < Γ.length
    · obtain ⟨x, g, pre, post, h1, h2, h3, h4⟩ := hr.nth (s := Γ[i]) (List.getElem?_eq_getElem hi)
      subst h3
      refine ⟨pre ++ ([p] ++ post), h4 _ _ _ _ [p] (fun y t g' q z => keep y t g' (fun a ha => sub a (by have := q a ha; simp at this ⊢; rcases this with w | w <;> simp [w])) z) ⟨p, rfl, rfl, upd_same, hu⟩, ?_, fun a ha => ?_⟩
      · have n0 : (pre ++ post).Nodup := nd.sublist (by simp)
        rw [List.nodup_append] at n0 ⊢
        refine ⟨n0.1, ?_, ?_⟩
        · rw [List.nodup_append]
          refine ⟨by simp, n0.2.1, fun a ha b' hb q => ?_⟩
          subst q
          rw [List.mem_singleton.mp ha] at hb
          exact hO (sub p (by simp [hb]))
        · intro a ha b' hb q
          subst q
          rcases List.mem_append.mp hb with w | w
          · rw [List.mem_singleton.mp w] at ha
            exact hO (sub p (by simp [ha]))
          · exact n0.2.2 a ha a w rfl
      · simp only [List.mem_append, List.mem_cons, List.not_mem_nil, or_false] at ha ⊢
        rcases ha with q | q | q
        · exact .inr (sub a (by simp [q]))
        · exact .inl q
        · exact .inr (sub a (by simp [q]))
    · have hs : ¬ i < σ.length := by rw [hr.len]; exact hi
      rw [List.set_eq_of_length_le (by omega), List.set_eq_of_length_le (by omega)]
      exact ⟨fp, hr.map fun x s g q z => keep x s g (fun a ha => sub a (q a ha)) z, nd, fun a ha => by simp [sub a ha]⟩
/-- a dict of one's own is written -/
theorem Env.writeD (e : Env c H0 O H σ Γ) {i : Nat} {u w : HO} (h : Γ[i]? = some (some (.d u))) (hw : OwnU w) : ∃ p, σ[i]? = some (some (.ref p)) ∧ H p = some u ∧ p ∈ O ∧ Env c H0 O (upd H p w) σ (Γ.set i (some (.d w))) := by
  obtain ⟨fp, hr, nd, sub⟩ := e.rep
  obtain ⟨x, f0, pre, post, h1, h2, h3, h4⟩ := hr.nth h
  obtain ⟨p, rfl, rfl, hp, hu⟩ := h2
  subst h3
  have hpO : p ∈ O := sub p (by simp)
  have n2 := (List.nodup_append.mp nd).2.1
  refine ⟨p, h1, hp, hpO, ?_⟩
  have em : mns (upd H p w) O = mns H O := by
    funext a
    by_cases ha : a ∈ O
    · rw [mns_in ha, mns_in ha]
    · rw [mns_out ha, mns_out ha, upd_ne (fun z => ha (by rw [z]; exact hpO))]
  refine ⟨by rw [em]; exact e.r0, by rw [em]; exact e.j, e.fr, fun a ha => ?_, ?_⟩
  · by_cases q : a = p
    · rw [q]; exact ⟨_, upd_same, hw⟩
    · rw [upd_ne q]; exact e.dm a ha
  · have hσ : σ.set i (some (.ref p)) = σ := by
      obtain ⟨hlt, e1⟩ := List.getElem?_eq_some_iff.mp h1
      rw [← e1]
      exact List.set_getElem_self hlt
    have np : ∀ a, a ∈ pre ++ post → a ≠ p := fun a hm z => by
      subst z
      rcases List.mem_append.mp hm with v | v
      · exact (List.nodup_append.mp nd).2.2 a v a (by simp) rfl
      · exact (List.nodup_append.mp n2).2.2 a (by simp) a v rfl
    have := h4 O (upd H p w) (some (.ref p)) (some (.d w)) [p] (fun y t g q z => ?_) ⟨p, rfl, rfl, upd_same, hw⟩
    · rw [hσ] at this
      exact ⟨_, this, nd, sub⟩
    · cases t with
      | none => exact z
      | some t =>
        cases t with
        | v d => exact ⟨z.1, z.2.elim fun v hv => ⟨v, hv.1, by rw [em]; exact hv.2⟩⟩
        | o d =>
          refine z.elim fun v hv => ⟨v, hv.1, hv.2.up (fun _ _ s => sqT_updO hp hu s) fun a ha o ho => ?_⟩
          rw [upd_ne (np a (q a ha))]
          exact ho
        | r y => exact z
        | d u2 =>
          refine z.elim fun a ⟨w1, w2, w3, w4⟩ => ⟨a, w1, w2, ?_, w4⟩
          rw [upd_ne (np a (q a (by rw [w1]; simp)))]
          exact w3
        | w ds =>
          refine z.elim fun a ⟨xs, w1, w2, w3, w4⟩ => ⟨a, xs, w1, w2, ?_, by rw [em]; exact w4⟩
          rw [upd_ne (np a (q a (by rw [w1]; simp)))]
          exact w3
/-! ### rules -/
end
end Lm
namespace Lm
open PySem PySem.Spec PyProof.Rows L2
end Lm


/-! the first list that serves (k55, k20) -/
namespace Lm
open PySem PySem.Spec PyProof.Rows L2
/-! ### sets that grow, each ascending -/
def addF (acc row : List Int) : List Int := acc ++ row.filter fun x => !decide (x ∈ acc)
structure Grow (acc : List Int) (R : List (List Int)) : Prop where
  nd : acc.Nodup
  asc : ∀ S ∈ R, S.Pairwise (· < ·)
  sub : ∀ S ∈ R, ∀ x ∈ acc, x ∈ S
  pw : R.Pairwise fun S T => ∀ x ∈ S, x ∈ T
theorem asc_nd {S : List Int} (h : S.Pairwise (· < ·)) : S.Nodup := h.imp fun w e => by omega
theorem add_perm {acc S : List Int} (nd : acc.Nodup) (ns : S.Nodup) (sub : ∀ x ∈ acc, x ∈ S) : (addF acc S).Perm S := by
  unfold addF
  refine (List.perm_ext_iff_of_nodup ?_ ns).mpr fun x => ?_
  · rw [List.nodup_append]
    exact ⟨nd, ns.filter _, fun a ha b hb e => by
      have := (List.mem_filter.mp hb).2
      rw [e] at ha
      simp [ha] at this⟩
  · rw [List.mem_append, List.mem_filter]
    constructor
    · rintro (h | h)
      · exact sub x h
      · exact h.1
    · intro h
      by_cases q : x ∈ acc
      · exact .inl q
      · exact .inr ⟨h, by simp [q]⟩
theorem Grow.step {acc S : List Int} {R : List (List Int)} (h : Grow acc (S :: R)) : (addF acc S).Perm S ∧ Grow (addF acc S) R := by
  have p1 := List.pairwise_cons.mp h.pw
  have p := add_perm h.nd (asc_nd (h.asc S (by simp))) (h.sub S (by simp))
  exact ⟨p, ⟨p.nodup_iff.mpr (asc_nd (h.asc S (by simp))), fun T hT => h.asc T (by simp [hT]), fun T hT x hx => p1.1 T hT x (p.mem_iff.mp hx), p1.2⟩⟩
theorem Grow.fold : ∀ {R : List (List Int)} {acc : List Int}, Grow acc R → acc <+: R.foldl addF acc ∧ (R.foldl addF acc).Nodup ∧ (∀ S ∈ R, ((R.foldl addF acc).take S.length).Perm S) ∧ ∀ S, R.getLast? = some S → (R.foldl addF acc).Perm S
  | [], acc, h => ⟨List.prefix_refl _, h.nd, (fun S hS => nomatch hS), fun S hS => nomatch hS⟩
  | S :: R, acc, h => by
    obtain ⟨p, g⟩ := h.step
    obtain ⟨i1, i2, i3, i4⟩ := g.fold
    rw [List.foldl_cons]
    refine ⟨(List.prefix_append _ _).trans i1, i2, fun T hT => ?_, fun T hT => ?_⟩
    · rcases List.mem_cons.mp hT with w | w
      · obtain ⟨t, ht⟩ := i1
        rw [w, ← ht, List.take_append_of_le_length (by rw [p.length_eq]; exact Nat.le_refl _), List.take_of_length_le (by rw [p.length_eq]; exact Nat.le_refl _)]
        exact p
      · exact i3 T w
    · cases R with
      | nil =>
        have : T = S := by simpa using hT.symm
        rw [this]; exact p
      | cons U R => exact i4 T (by simpa using hT)
end Lm
namespace Lm
open PySem PySem.Spec PyProof.Rows L2
/-- sets of which any two are one in the other, by size -/
structure Chn (M : List (List Int)) : Prop where
  asc : ∀ S ∈ M, S.Pairwise (· < ·)
  sub : ∀ S ∈ M, ∀ T ∈ M, S.length ≤ T.length → ∀ x ∈ S, x ∈ T
theorem sort_mem {M : List (List Int)} {S : List Int} : S ∈ M.mergeSort lenI ↔ S ∈ M := (List.mergeSort_perm _ _).mem_iff
theorem sort_len (M : List (List Int)) : (M.mergeSort lenI).Pairwise fun S T => S.length ≤ T.length := by
  have := List.pairwise_mergeSort (le := lenI) (fun a b c h1 h2 => by unfold lenI at *; simp at *; omega) (fun a b => by unfold lenI; simp; omega) M
  exact this.imp fun h => by unfold lenI at h; simp at h; omega
theorem Chn.grow {M : List (List Int)} (h : Chn M) : Grow [] (M.mergeSort lenI) := ⟨List.nodup_nil, fun S hS => h.asc S (sort_mem.mp hS), (fun S _ x hx => nomatch hx), by
  have := sort_len M
  exact this.imp_of_mem fun {S T} hS hT l => h.sub S (sort_mem.mp hS) T (sort_mem.mp hT) l⟩
def slM (M : List (List Int)) : List Int := (M.mergeSort lenI).foldl addF []
theorem Chn.nd {M : List (List Int)} (h : Chn M) : (slM M).Nodup := h.grow.fold.2.1
theorem Chn.take {M : List (List Int)} (h : Chn M) {S : List Int} (hS : S ∈ M) : ((slM M).take S.length).Perm S := h.grow.fold.2.2.1 S (sort_mem.mpr hS)
/-! ### the first list of a rule (k55) -/
end Lm


/-! tables and the lists that give them (k19 to k25) -/
namespace Lm
open PySem PySem.Spec PyProof.Rows L2
structure TbT (T : List (List Int)) (v : Int) (b : Nat) : Prop where
  l1 : 1 ≤ T.length
  l6 : T.length ≤ 6
  v1 : 1 ≤ v
  v5 : v ≤ 5
  b20 : b ≤ 20
  ok : ∀ f ∈ T, Asg f v ∧ f.length = b
def gT (T : List (List Int)) (i : Nat) : List Int := T.getD i []
/-! ### lists with a first part taken -/
/-! ### a dict from ints to ints -/
/-! ### the promises -/
end Lm
namespace Lm
open PySem PySem.Spec PyProof.Rows L2
section
variable {c : Ct} {H H' H0 H1 H2 H3 : Hp} {O : List Addr} {Γ Γ' Γ1 : List (Option Rs)}
variable {te ta tb tx : TE} {tl th : TO} {k ka kb : Kd} {d x y z : PyData} {i j : Int} {a b : Bool} {ds es : List PyData}
end
end Lm


/-! first lists of a table (k20, k21) -/
namespace Lm
open PySem PySem.Spec PyProof.Rows L2
/-! ### the full lists -/
def rngI (b : Nat) : List Int := (List.range b).map fun (i : Nat) => (i : Int)
theorem mem_rngI {b : Nat} {x : Int} : x ∈ rngI b ↔ 0 ≤ x ∧ x < b := by
  unfold rngI
  rw [List.mem_map]
  constructor
  · rintro ⟨i, hi, rfl⟩
    have := List.mem_range.mp hi
    omega
  · intro h
    exact ⟨x.toNat, List.mem_range.mpr (by omega), by omega⟩
/-! ### the promises -/
end Lm


/-! lists that give a table, what they give an allocation (k21, k22, k25) -/
namespace Lm
open PySem PySem.Spec PyProof.Rows L2
section
variable {c : Ct} {H H' H0 H1 H2 H3 : Hp} {O : List Addr} {Γ Γ' Γ1 : List (Option Rs)}
variable {te ta tb tx : TE} {tl th : TO} {k ka kb : Kd} {d x y z : PyData} {i j : Int} {a b : Bool} {ds es : List PyData}
end
theorem cut_mid {α : Type} {ds : List α} {s t : Nat} (h : s ≤ t) (ht : t ≤ ds.length) : Lm.cutD ds (some (s : Int)) (some (t : Int)) = (ds.take t).drop s := by
  unfold Lm.cutD
  rw [HT.sIx_nat, HT.sIx_nat, Nat.min_eq_left (show s ≤ ds.length by omega), Nat.min_eq_left ht, List.drop_take]
/-! ### a dict whose entries may be given anew -/
/-! ### what lists give an allocation -/
/-! ### full lists -/
/-! ### the promises -/
end Lm


/-! what first lists give, what extends a table (k25) -/
namespace Lm
open PySem PySem.Spec PyProof.Rows L2
/-! ### extensions -/
theorem TbT.sub {T S : List (List Int)} {v : Int} {b : Nat} (h : TbT T v b) (l1 : 1 ≤ S.length) (l6 : S.length ≤ 6) (hs : ∀ f ∈ S, f ∈ T) : TbT S v b := ⟨l1, l6, h.v1, h.v5, h.b20, fun f hf => h.ok f (hs f hf)⟩
end Lm


/-! defs that answer or raise: promises, and what raises within a body -/
namespace Lm
open PySem PySem.Spec PyProof.Rows L2
def spRef (K : PySem.W.Frag) (C : Addr) (R : List PyData → Str → Prop) : Sp := fun vs H Q E => ∃ ds nm, BoAll (pc K) H vs ds ∧ R ds nm ∧ ∀ dx H1, Same H H1 → H1 dx = some (.xd [("name", .str nm)]) → E (.ref C) (some dx) H1
abbrev spDR (K : PySem.W.Frag) (C : Addr) (sp : Sp) (R : List PyData → Str → Prop) : Sp := fun vs H Q E => sp vs H Q E ∨ spRef K C R vs H Q E
section
variable {K : PySem.W.Frag} {C : Addr} {H0 : Hp} {Γ : List (Option Rs)} {σ : L2.St} {te tf : TE} {ta : TA} {tt : TT} {t u : TS} {k kb : Kd} {d x : PyData} {n : Nat} {nm : Str} {ds : List PyData} {R : List PyData → Str → Prop} {sp : Sp} {E : XK} {W : L2.St → XK} {a : Bool}
/-- te raises -/
def EvRz (c : Ct) (H0 : Hp) (te : TE) (Γ : List (Option Rs)) : Prop := ∀ O H σ Q, Env c H0 O H σ Γ → te σ H Q
theorem same_of {H H1 : Hp} (e : Env (pc K) H0 O H σ Γ) (r : Rr (pc K) H H1) {H2 : Hp} (sm : Same H1 H2) : Same H0 H2 := fun a o w => sm a o ((e.rH.tr r).1 a o (fun _ _ w => nomatch w) w)
theorem x_ref (ha : EvA (pc K) ta Γ false ds) (hr : R ds nm) (hE : ∀ dx H1, Same H0 H1 → H1 dx = some (.xd [("name", .str nm)]) → E (.ref C) (some dx) H1) : EvRz (pc K) H0 (tCall (spDR K C sp R) [] E ta) Γ := fun O H σ Q e =>
  ha H0 O H σ e _ fun vs H1 r s => .inr ⟨ds, nm, by rw [List.append_nil]; exact s, hr, fun dx H2 sm z => hE dx H2 (same_of e r sm) z⟩
theorem x_good {pre : Pre} (h : EvA (pc K) ta Γ false ds) (hp : pre ds k d) : Ev (pc K) (tCall (spDR K C (spD K pre) R) [] E ta) Γ k d := fun H0 O H σ e Q q =>
  h H0 O H σ e _ fun vs H1 r s => by
    refine .inl ⟨ds, k, d, by rw [List.append_nil]; exact s.pure, hp, fun v H2 sm rt => q v H2 (r.tr (Rr.same sm)) ?_⟩
    have r2 : Rr (pc K) H H2 := r.tr (Rr.same sm)
    cases k with
    | v => exact (Bo.flat (c := pc K) (c' := pc K) rfl rt.1 rt.2).flatM e r2 rt.1
    | o =>
      obtain ⟨fp, f, nd, new⟩ := rt
      exact ⟨fp, f, nd, fun a ha => r.back e.jH (new a ha)⟩
    | b => obtain ⟨⟨_, e⟩, _⟩ := rt; exact nomatch e
theorem xl_req (hz : nm.length ≤ 1000) (hE : ∀ dx H1, Same H0 H1 → H1 dx = some (.xd [("name", .str nm)]) → E (.ref C) (some dx) H1) (h : Ev (pc K) te Γ k (.bool false)) : SdX (pc K) H0 (tDrop (tCall (spReq C) [] E (tCons te (tCons (tC (.str nm)) tNil)))) Γ := fun O H σ D e =>
  h H0 O H σ e _ fun v H1 r s => ⟨false, nm, by rw [(Res.bo e s).bl']; rfl, hz, (fun w => nomatch w), fun _ dx hdx => hE dx _ (fun a o z => by
    have z1 : H1 a = some o := (e.rH.tr r).1 a o (fun _ _ w => nomatch w) z
    rw [upd_ne (ne_of_none z1 hdx)]
    exact z1) upd_same⟩
theorem x_okreq (hz : nm.length ≤ 1000) (h : Ev (pc K) te Γ k (.bool true)) (p : SdX (pc K) H0 u Γ) : SdX (pc K) H0 (tSeq (tDrop (tCall (spReq C) [] E (tCons te (tCons (tC (.str nm)) tNil)))) u) Γ := fun O H σ D e =>
  h H0 O H σ e _ fun v H1 r s => ⟨true, nm, by rw [(Res.bo e s).bl']; rfl, hz, (fun _ => p O H1 σ D (e.on r)), fun w => nomatch w⟩
theorem x_seq {c : Ct} (h : SdX c H0 t Γ) : SdX c H0 (tSeq t u) Γ := fun O H σ D e => h O H σ _ e
theorem x_dropE {c : Ct} (h : EvRz c H0 te Γ) : SdX c H0 (tDrop te) Γ := fun O H σ D e => h O H σ _ e
theorem x_retE {c : Ct} (h : EvRz c H0 te Γ) : SdX c H0 (tRet te) Γ := fun O H σ D e => h O H σ _ e
theorem x_arg {c : Ct} {dvs : List V} (h : EvRz c H0 te Γ) : EvRz c H0 (tCall sp dvs E (tCons te ta)) Γ := fun O H σ Q e => h O H σ _ e
theorem run_ref {N : List Str} {t : TS} {vs : List V} {H : Hp} {Q : VK}
    (hs : ∀ ds nm, R ds nm → (∀ dx H1, Same H H1 → H1 dx = some (.xd [("name", .str nm)]) → E (.ref C) (some dx) H1) → SdX (pc K) H t (argsG ds N.length)) (h : spRef K C R vs H Q E) : t { nx := fun _ H' => Q .non H', rt := Q } (start N vs) H := by
  obtain ⟨ds, nm, hb, hd, hE⟩ := h
  exact hs ds nm hd hE [] H (start N vs) _ (env_args Ji.pc hb)
/-! under try, where nothing is assigned -/
def SdY (c : Ct) (H0 : Hp) (σ : L2.St) (t : TS) (Γ : List (Option Rs)) : Prop := ∀ O H D, Env c H0 O H σ Γ → t D σ H
theorem y_drop (ha : EvA (pc K) ta Γ false ds) (hr : R ds nm) (hE : ∀ dx H1, Same H0 H1 → H1 dx = some (.xd [("name", .str nm)]) → W σ (.ref C) (some dx) H1) : SdY (pc K) H0 σ (tDrop (tCallS (spDR K C sp R) W ta)) Γ := fun O H D e =>
  ha H0 O H σ e _ fun vs H1 r s => .inr ⟨ds, nm, s, hr, fun dx H2 sm z => hE dx H2 (same_of e r sm) z⟩
theorem d_callS {pre : Pre} (h : EvA (pc K) ta Γ false ds) (hp : pre ds k d) : Ev (pc K) (tCallS (spDR K C (spD K pre) R) W ta) Γ k d := fun H0 O H σ e Q q =>
  h H0 O H σ e _ fun vs H1 r s => by
    refine .inl ⟨ds, k, d, s.pure, hp, fun v H2 sm rt => q v H2 (r.tr (Rr.same sm)) ?_⟩
    have r2 : Rr (pc K) H H2 := r.tr (Rr.same sm)
    cases k with
    | v => exact (Bo.flat (c := pc K) (c' := pc K) rfl rt.1 rt.2).flatM e r2 rt.1
    | o =>
      obtain ⟨fp, f, nd, new⟩ := rt
      exact ⟨fp, f, nd, fun a ha => r.back e.jH (new a ha)⟩
    | b => obtain ⟨⟨_, e⟩, _⟩ := rt; exact nomatch e
end
/-! ### who raises what -/
def RcV (ds : List PyData) (nm : Str) : Prop := ∃ x, ds = [x] ∧ isIntD x 1 5 = false ∧ nm = "variants"
theorem RcV_len {ds nm} (h : RcV ds nm) : ds.length = 1 := by obtain ⟨x, rfl, _⟩ := h; rfl
/-! ### k26 -/
end Lm


/-! what lists give, told or refused (k22) -/
namespace Lm
open PySem PySem.Spec PyProof.Rows L2
section
variable {K : PySem.W.Frag} {C : Addr} {σ : L2.St} {nm : Str}
end
/-! ### any value as an allocation -/
/-! ### what is due -/
/-! ### lists of distinct buckets -/
structure Dst (r : List Int) : Prop where
  nd : r.Nodup
  rg : ∀ x ∈ r, 0 ≤ x ∧ x < 20
theorem Dst.len {r : List Int} (h : Dst r) : r.length ≤ 20 := by
  have := List.Nodup.length_le_of_subset (l₁ := r) (l₂ := rngI 20) h.nd fun x hx => by
    have := h.rg x hx
    exact mem_rngI.mpr (by omega)
  unfold rngI at this
  simpa using this
theorem Dst.sub {r s : List Int} (h : Dst r) (w : s.Sublist r) : Dst s := ⟨h.nd.sublist w, fun x hx => h.rg x (w.subset hx)⟩
theorem i_seqLIB {c : Ct} {Γ : List (Option Rs)} {tl : TE} {k : Kd} {ns : List Int} (h : Ev c tl Γ k (.list (ns.map .int))) : EvI c (iSeq c.K tl) Γ false (ns.map imI) := by
  have := i_seqB h (flatAll_ints ns)
  rwa [List.map_map] at this
end Lm


/-! a comprehension of two clauses -/
namespace Lm
open PySem PySem.Spec PyProof.Rows L2
section
variable {c : Ct} {H H' H0 H1 H2 H3 H4 : Hp} {O : List Addr} {σ σ1 : L2.St} {Γ Γ1 Γ' : List (Option Rs)} {te : TE} {fz : Bool} {k : Kd} {u : TS} {P : Out → Prop} {n : Nat}
theorem Reps.bareM {fp : List Addr} {D : Addr} (j : Ji c (mns H O)) (rm : Rr c (mns H O) (mns H' O)) (h : Reps c O H σ Γ fp) : bareB Γ = true → Reps c O H' σ Γ [] := by
  induction h with
  | nil => intro _; exact .nil
  | @cons x s f fs σ Γ a b ih =>
    intro hb
    cases s with
    | none => exact .cons (f := []) (fs := []) rfl (ih hb)
    | some s =>
      cases s with
      | o d => cases hb
      | d u => cases hb
      | w ds => cases hb
      | v d =>
        obtain ⟨_, v, hv, bo⟩ := a
        exact .cons (f := []) (fs := []) ⟨rfl, v, hv, bo.mono j rm⟩ (ih hb)
      | r y => exact .cons (f := []) (fs := []) ⟨rfl, a.2⟩ (ih hb)
/-- the list D of one's own has grown -/
theorem Env.re {D : Addr} {acc : List V} (e1 : Env c H0 O H1 σ1 Γ1) (e3 : Env c H0 (D :: O) H3 σ Γ) (hb : bareB Γ = true) (r : Rr c H1 H) (h : H D = some (.lst acc)) (rm : Rr c (mns H3 (D :: O)) (mns H (D :: O))) : Env c H0 (D :: O) H σ Γ := by
  refine ⟨e3.r0.tr rm, rm.2 e3.j, e3.fr, fun a ha => ?_, ?_⟩
  · rcases List.mem_cons.mp ha with w | w
    · subst w; exact ⟨_, h, trivial⟩
    · obtain ⟨u, q, hq⟩ := e1.dm a w
      exact ⟨u, r.1 a _ (e1.okO a w) q, hq⟩
  · obtain ⟨fp, hr, nd, sub⟩ := e3.rep
    exact ⟨[], hr.bareM (D := D) e3.j rm hb, List.nodup_nil, fun a h => nomatch h⟩
theorem flat_pre {α β : Type} {f : α → List β} {l : List α} {n : Nat} : ((l.take n).flatMap f).length ≤ (l.flatMap f).length := by
  conv => rhs; rw [← List.take_append_drop n l, List.flatMap_append, List.length_append]
  omega
/-- [e for x in l for y in l2(x)] whose items stay -/
theorem d_lc2V {α β : Type} {wi wi1 : TI} {g g1 : TG} {vs vs1 : List Nat} {l : List α} {en : α → Im} {l2 : α → List β} {en2 : β → Im} (m : α → β → PyData) (hi : EvI c wi Γ fz (l.map en)) (hl : (l.flatMap fun a => (l2 a).map (m a)).length ≤ 1000000)
    (hb : ∀ a ∈ l, ∃ Γ' js, EvG c g (en a) (wipeG Γ vs) Γ' js ∧ (∀ j ∈ js, j ∈ vs) ∧ bareB Γ' = true ∧ EvI c wi1 Γ' true ((l2 a).map en2) ∧
      ∀ b ∈ l2 a, ∃ Γ'' js1, EvG c g1 (en2 b) (wipeG Γ' vs1) Γ'' js1 ∧ (∀ j ∈ js1, j ∈ vs1) ∧ Ev c te Γ'' .v (m a b)) :
    Ev c (tLc2 wi g tYes wi1 g1 tYes te vs vs1) Γ .v (.list (l.flatMap fun a => (l2 a).map (m a))) := fun H0 O H σ e Q q =>
  hi H0 O H σ e _ fun J H1 r1 w D hD => by
    obtain ⟨jF, wk⟩ := w
    have e1 := e.on r1
    have okD : okA c D := okA.fresh e1.jH hD
    have okO : ∀ a ∈ D :: O, okA c a := fun a ha => by
      rcases List.mem_cons.mp ha with w | w
      · rw [w]; exact okD
      · exact e1.okO a w
    have ln : (l.map en).length = l.length := by simp
    rw [ln] at wk
    refine ⟨fun i m' H' => m' = l.length - i ∧ i ≤ l.length ∧ Rr c H1 H' ∧ Rr c (mns H1 O) (mns H' (D :: O)) ∧ ∃ acc, H' D = some (.lst acc) ∧ BoAll c (mns H' (D :: O)) acc ((l.take i).flatMap fun a => (l2 a).map (m a)), ⟨l.length, by simp, Nat.zero_le _, Rr.same fun b o z => by rw [upd_ne (ne_of_none z hD)]; exact z, by rw [mns_own hD]; exact Rr.rf, [], upd_same, .nil⟩, ?_⟩
    rintro i _ H' ⟨rfl, hin, p1, pm, acc, p2, p3⟩
    have G := (ifFz (fz := fz) (F := H) e r1 p1).1
    by_cases hlt : i < l.length
    · refine .inr ⟨wk.goes i H' hlt G, fun H' => Rr c H1 H' ∧ Rr c (mns H1 O) (mns H' (D :: O)) ∧ ∃ acc, H' D = some (.lst acc) ∧ BoAll c (mns H' (D :: O)) acc ((l.take (i + 1)).flatMap fun a => (l2 a).map (m a)), fun H' p' => ⟨l.length - (i + 1), by omega, rfl, hlt, p'⟩, fun x H'' y => ?_⟩
      obtain ⟨sm, im, him, lo⟩ := wk.yields i H' x H'' hlt G y
      rw [List.getElem?_map, List.getElem?_eq_getElem hlt] at him
      obtain ⟨a, ea⟩ : ∃ a, a = l[i] := ⟨_, rfl⟩
      rw [← ea] at him
      have e0 : en a = im := Option.some.inj him
      subst e0
      have am : a ∈ l := ea ▸ List.getElem_mem hlt
      have tk : l.take (i + 1) = l.take i ++ [a] := by rw [List.take_add_one, List.getElem?_eq_getElem hlt, ea]; rfl
      obtain ⟨B, eB⟩ : ∃ B, B = (l.take i).flatMap fun a => (l2 a).map (m a) := ⟨_, rfl⟩
      have tkf : ((l.take (i + 1)).flatMap fun a => (l2 a).map (m a)) = B ++ (l2 a).map (m a) := by rw [tk, List.flatMap_append, List.flatMap_singleton, eB]
      have tot : B.length + (l2 a).length ≤ 1000000 := by
        have := flat_pre (f := fun a => (l2 a).map (m a)) (l := l) (n := i + 1)
        rw [tkf, List.length_append, List.length_map] at this
        omega
      rw [← eB] at p3
      rw [tkf]
      have j1 : Ji c (mns H' (D :: O)) := pm.2 e1.j
      have m2 : Rr c (mns H' (D :: O)) (mns H'' (D :: O)) := (Rr.same sm : Rr c H' H'').mns j1 okO
      have pm2 := pm.tr m2
      have p1' : Rr c H1 H'' := p1.tr (Rr.same sm)
      have e2 : Env c H0 (D :: O) H'' σ Γ := e1.own hD p1' (sm _ _ p2) pm2
      obtain ⟨Γ', js, hg, hjs, hbr, hi1, hin1⟩ := hb a am
      refine hg H0 (D :: O) H'' _ _ fz x (e2.wipe vs) jF (ifFz (F := H) e r1 p1').1 (fun hf => ?_) lo _ fun σ2 e3 hw => ⟨(hw vs hjs).trans (wipe_wipe fun _ h => h), t_yes H0 (D :: O) H'' σ2 e3 _ fun H3 r3 => iteT ?_⟩
      · subst hf; exact pm2
      refine hi1 H0 (D :: O) H3 σ2 (e3.on r3) _ fun J1 H4 r4 w1 => ?_
      obtain ⟨jF1, wk1⟩ := w1
      have ln1 : ((l2 a).map en2).length = (l2 a).length := by simp
      rw [ln1] at wk1
      have e4 := (e3.on r3).on r4
      have j2 : Ji c (mns H'' (D :: O)) := pm2.2 e1.j
      have m4 : Rr c (mns H'' (D :: O)) (mns H4 (D :: O)) := (r3.tr r4).mns j2 okO
      have D4 : H4 D = some (.lst acc) := (r3.tr r4).1 D _ okD (sm _ _ p2)
      refine ⟨fun j k H5 => k = (l2 a).length - j ∧ j ≤ (l2 a).length ∧ Rr c H1 H5 ∧ Rr c (mns H4 (D :: O)) (mns H5 (D :: O)) ∧ ∃ acc, H5 D = some (.lst acc) ∧ BoAll c (mns H5 (D :: O)) acc (B ++ ((l2 a).take j).map (m a)), ⟨(l2 a).length, by simp, Nat.zero_le _, p1'.tr (r3.tr r4), Rr.rf, acc, D4, by rw [List.take_zero, List.map_nil, List.append_nil]; exact p3.mono j1 (m2.tr m4)⟩, ?_⟩
      rintro j _ H5 ⟨rfl, hjn, s1, sm1, acc1, a1, b1⟩
      have G1 : Rr c (mns H4 (D :: O)) H5 := sm1.tr (Rr.same mns_same)
      by_cases hj : j < (l2 a).length
      · refine .inr ⟨wk1.goes j H5 hj G1, fun H5 => Rr c H1 H5 ∧ Rr c (mns H4 (D :: O)) (mns H5 (D :: O)) ∧ ∃ acc, H5 D = some (.lst acc) ∧ BoAll c (mns H5 (D :: O)) acc (B ++ ((l2 a).take (j + 1)).map (m a)), fun H' p' => ⟨(l2 a).length - (j + 1), by omega, rfl, hj, p'⟩, fun x1 H6 y1 => ?_⟩
        obtain ⟨sm5, im1, him1, lo1⟩ := wk1.yields j H5 x1 H6 hj G1 y1
        rw [List.getElem?_map, List.getElem?_eq_getElem hj] at him1
        obtain ⟨b, eb⟩ : ∃ b, b = (l2 a)[j] := ⟨_, rfl⟩
        rw [← eb] at him1
        have e0 : en2 b = im1 := Option.some.inj him1
        subst e0
        have bm : b ∈ l2 a := eb ▸ List.getElem_mem hj
        have tk1 : (l2 a).take (j + 1) = (l2 a).take j ++ [b] := by rw [List.take_add_one, List.getElem?_eq_getElem hj, eb]; rfl
        have j5 : Ji c (mns H5 (D :: O)) := sm1.2 e4.j
        have m56 : Rr c (mns H5 (D :: O)) (mns H6 (D :: O)) := (Rr.same sm5 : Rr c H5 H6).mns j5 okO
        have s6 : Rr c H1 H6 := s1.tr (Rr.same sm5)
        have e6 : Env c H0 (D :: O) H6 σ2 Γ' := e1.re e4 hbr s6 (sm5 _ _ a1) (sm1.tr m56)
        obtain ⟨Γ'', js1, hg1, hjs1, hy⟩ := hin1 b bm
        refine hg1 H0 (D :: O) H6 _ _ true x1 (e6.wipe vs1) jF1 ((sm1.tr m56).tr (Rr.same mns_same)) (fun _ => sm1.tr m56) lo1 _ fun σ3 e7 hw1 => ⟨(hw1 vs1 hjs1).trans (wipe_wipe fun _ h => h), t_yes H0 (D :: O) H6 σ3 e7 _ fun H7 r7 => iteT ?_⟩
        refine hy H0 (D :: O) H7 σ3 (e7.on r7) _ fun v H8 r8 s8 => ?_
        have s8' : Bo c (mns H8 (D :: O)) v (m a b) := s8
        have D8 : H8 D = some (.lst acc1) := (r7.tr r8).1 D _ okD (sm5 _ _ a1)
        have j6 : Ji c (mns H6 (D :: O)) := (sm1.tr m56).2 e4.j
        have m68 : Rr c (mns H6 (D :: O)) (mns H8 (D :: O)) := (r7.tr r8).mns j6 okO
        have lacc : acc1.length = B.length + j := by rw [b1.len, List.length_append, List.length_map, List.length_take]; omega
        refine ⟨acc1, D8, by rw [lacc, sizeLine_eq]; omega, rr_upd (s6.tr (r7.tr r8)) hD, ?_, acc1 ++ [v], upd_same, ?_⟩
        · rw [mns_upd]; exact (sm1.tr m56).tr m68
        · rw [mns_upd, tk1, List.map_append, ← List.append_assoc]
          exact (b1.mono j5 (m56.tr m68)).app (.cons s8' .nil)
      · have ej : j = (l2 a).length := by omega
        subst ej
        rw [List.take_length] at b1
        exact .inl ⟨wk1.stops H5 G1, s1, (pm2.tr m4).tr sm1, acc1, a1, b1⟩
    · have ei : i = l.length := by omega
      subst ei
      rw [List.take_length] at p3
      have nO : D ∉ O := fun z => by
        obtain ⟨xs, w, _⟩ := e1.dm D z
        rw [hD] at w; cases w
      refine .inl ⟨wk.stops H' G, q (.ref D) H' (r1.tr p1) (.lst okD (.inl (.inl ?_)) (p3.same (mns_sub fun a ha => List.mem_cons_of_mem _ ha)))⟩
      rw [mns_out nO]; exact p2
/-- [e for x in l for y in l2(x)] of flat items: a new list -/
theorem d_lc2 {α β : Type} {wi wi1 : TI} {g g1 : TG} {vs vs1 : List Nat} {l : List α} {en : α → Im} {l2 : α → List β} {en2 : β → Im} (m : α → β → PyData) (hi : EvI c wi Γ fz (l.map en)) (hl : (l.flatMap fun a => (l2 a).map (m a)).length ≤ 1000000)
    (hfl : flatAll (l.flatMap fun a => (l2 a).map (m a)) = true)
    (hb : ∀ a ∈ l, ∃ Γ' js, EvG c g (en a) (wipeG Γ vs) Γ' js ∧ (∀ j ∈ js, j ∈ vs) ∧ bareB Γ' = true ∧ EvI c wi1 Γ' true ((l2 a).map en2) ∧
      ∀ b ∈ l2 a, ∃ Γ'' js1, EvG c g1 (en2 b) (wipeG Γ' vs1) Γ'' js1 ∧ (∀ j ∈ js1, j ∈ vs1) ∧ Ev c te Γ'' .v (m a b)) :
    Ev c (tLc2 wi g tYes wi1 g1 tYes te vs vs1) Γ .o (.list (l.flatMap fun a => (l2 a).map (m a))) := fun H0 O H σ e Q q =>
  hi H0 O H σ e _ fun J H1 r1 w D hD => by
    obtain ⟨jF, wk⟩ := w
    have e1 := e.on r1
    have okD : okA c D := okA.fresh e1.jH hD
    have okO : ∀ a ∈ D :: O, okA c a := fun a ha => by
      rcases List.mem_cons.mp ha with w | w
      · rw [w]; exact okD
      · exact e1.okO a w
    have ln : (l.map en).length = l.length := by simp
    rw [ln] at wk
    refine ⟨fun i m' H' => m' = l.length - i ∧ i ≤ l.length ∧ Rr c H1 H' ∧ Rr c (mns H1 O) (mns H' (D :: O)) ∧ ∃ acc, H' D = some (.lst acc) ∧ BoAll c (mns H' (D :: O)) acc ((l.take i).flatMap fun a => (l2 a).map (m a)), ⟨l.length, by simp, Nat.zero_le _, Rr.same fun b o z => by rw [upd_ne (ne_of_none z hD)]; exact z, by rw [mns_own hD]; exact Rr.rf, [], upd_same, .nil⟩, ?_⟩
    rintro i _ H' ⟨rfl, hin, p1, pm, acc, p2, p3⟩
    have G := (ifFz (fz := fz) (F := H) e r1 p1).1
    by_cases hlt : i < l.length
    · refine .inr ⟨wk.goes i H' hlt G, fun H' => Rr c H1 H' ∧ Rr c (mns H1 O) (mns H' (D :: O)) ∧ ∃ acc, H' D = some (.lst acc) ∧ BoAll c (mns H' (D :: O)) acc ((l.take (i + 1)).flatMap fun a => (l2 a).map (m a)), fun H' p' => ⟨l.length - (i + 1), by omega, rfl, hlt, p'⟩, fun x H'' y => ?_⟩
      obtain ⟨sm, im, him, lo⟩ := wk.yields i H' x H'' hlt G y
      rw [List.getElem?_map, List.getElem?_eq_getElem hlt] at him
      obtain ⟨a, ea⟩ : ∃ a, a = l[i] := ⟨_, rfl⟩
      rw [← ea] at him
      have e0 : en a = im := Option.some.inj him
      subst e0
      have am : a ∈ l := ea ▸ List.getElem_mem hlt
      have tk : l.take (i + 1) = l.take i ++ [a] := by rw [List.take_add_one, List.getElem?_eq_getElem hlt, ea]; rfl
      obtain ⟨B, eB⟩ : ∃ B, B = (l.take i).flatMap fun a => (l2 a).map (m a) := ⟨_, rfl⟩
      have tkf : ((l.take (i + 1)).flatMap fun a => (l2 a).map (m a)) = B ++ (l2 a).map (m a) := by rw [tk, List.flatMap_append, List.flatMap_singleton, eB]
      have tot : B.length + (l2 a).length ≤ 1000000 := by
        have := flat_pre (f := fun a => (l2 a).map (m a)) (l := l) (n := i + 1)
        rw [tkf, List.length_append, List.length_map] at this
        omega
      rw [← eB] at p3
      rw [tkf]
      have j1 : Ji c (mns H' (D :: O)) := pm.2 e1.j
      have m2 : Rr c (mns H' (D :: O)) (mns H'' (D :: O)) := (Rr.same sm : Rr c H' H'').mns j1 okO
      have pm2 := pm.tr m2
      have p1' : Rr c H1 H'' := p1.tr (Rr.same sm)
      have e2 : Env c H0 (D :: O) H'' σ Γ := e1.own hD p1' (sm _ _ p2) pm2
      obtain ⟨Γ', js, hg, hjs, hbr, hi1, hin1⟩ := hb a am
      refine hg H0 (D :: O) H'' _ _ fz x (e2.wipe vs) jF (ifFz (F := H) e r1 p1').1 (fun hf => ?_) lo _ fun σ2 e3 hw => ⟨(hw vs hjs).trans (wipe_wipe fun _ h => h), t_yes H0 (D :: O) H'' σ2 e3 _ fun H3 r3 => iteT ?_⟩
      · subst hf; exact pm2
      refine hi1 H0 (D :: O) H3 σ2 (e3.on r3) _ fun J1 H4 r4 w1 => ?_
      obtain ⟨jF1, wk1⟩ := w1
      have ln1 : ((l2 a).map en2).length = (l2 a).length := by simp
      rw [ln1] at wk1
      have e4 := (e3.on r3).on r4
      have j2 : Ji c (mns H'' (D :: O)) := pm2.2 e1.j
      have m4 : Rr c (mns H'' (D :: O)) (mns H4 (D :: O)) := (r3.tr r4).mns j2 okO
      have D4 : H4 D = some (.lst acc) := (r3.tr r4).1 D _ okD (sm _ _ p2)
      refine ⟨fun j k H5 => k = (l2 a).length - j ∧ j ≤ (l2 a).length ∧ Rr c H1 H5 ∧ Rr c (mns H4 (D :: O)) (mns H5 (D :: O)) ∧ ∃ acc, H5 D = some (.lst acc) ∧ BoAll c (mns H5 (D :: O)) acc (B ++ ((l2 a).take j).map (m a)), ⟨(l2 a).length, by simp, Nat.zero_le _, p1'.tr (r3.tr r4), Rr.rf, acc, D4, by rw [List.take_zero, List.map_nil, List.append_nil]; exact p3.mono j1 (m2.tr m4)⟩, ?_⟩
      rintro j _ H5 ⟨rfl, hjn, s1, sm1, acc1, a1, b1⟩
      have G1 : Rr c (mns H4 (D :: O)) H5 := sm1.tr (Rr.same mns_same)
      by_cases hj : j < (l2 a).length
      · refine .inr ⟨wk1.goes j H5 hj G1, fun H5 => Rr c H1 H5 ∧ Rr c (mns H4 (D :: O)) (mns H5 (D :: O)) ∧ ∃ acc, H5 D = some (.lst acc) ∧ BoAll c (mns H5 (D :: O)) acc (B ++ ((l2 a).take (j + 1)).map (m a)), fun H' p' => ⟨(l2 a).length - (j + 1), by omega, rfl, hj, p'⟩, fun x1 H6 y1 => ?_⟩
        obtain ⟨sm5, im1, him1, lo1⟩ := wk1.yields j H5 x1 H6 hj G1 y1
        rw [List.getElem?_map, List.getElem?_eq_getElem hj] at him1
        obtain ⟨b, eb⟩ : ∃ b, b = (l2 a)[j] := ⟨_, rfl⟩
        rw [← eb] at him1
        have e0 : en2 b = im1 := Option.some.inj him1
        subst e0
        have bm : b ∈ l2 a := eb ▸ List.getElem_mem hj
        have tk1 : (l2 a).take (j + 1) = (l2 a).take j ++ [b] := by rw [List.take_add_one, List.getElem?_eq_getElem hj, eb]; rfl
        have j5 : Ji c (mns H5 (D :: O)) := sm1.2 e4.j
        have m56 : Rr c (mns H5 (D :: O)) (mns H6 (D :: O)) := (Rr.same sm5 : Rr c H5 H6).mns j5 okO
        have s6 : Rr c H1 H6 := s1.tr (Rr.same sm5)
        have e6 : Env c H0 (D :: O) H6 σ2 Γ' := e1.re e4 hbr s6 (sm5 _ _ a1) (sm1.tr m56)
        obtain ⟨Γ'', js1, hg1, hjs1, hy⟩ := hin1 b bm
        refine hg1 H0 (D :: O) H6 _ _ true x1 (e6.wipe vs1) jF1 ((sm1.tr m56).tr (Rr.same mns_same)) (fun _ => sm1.tr m56) lo1 _ fun σ3 e7 hw1 => ⟨(hw1 vs1 hjs1).trans (wipe_wipe fun _ h => h), t_yes H0 (D :: O) H6 σ3 e7 _ fun H7 r7 => iteT ?_⟩
        refine hy H0 (D :: O) H7 σ3 (e7.on r7) _ fun v H8 r8 s8 => ?_
        have s8' : Bo c (mns H8 (D :: O)) v (m a b) := s8
        have D8 : H8 D = some (.lst acc1) := (r7.tr r8).1 D _ okD (sm5 _ _ a1)
        have j6 : Ji c (mns H6 (D :: O)) := (sm1.tr m56).2 e4.j
        have m68 : Rr c (mns H6 (D :: O)) (mns H8 (D :: O)) := (r7.tr r8).mns j6 okO
        have lacc : acc1.length = B.length + j := by rw [b1.len, List.length_append, List.length_map, List.length_take]; omega
        refine ⟨acc1, D8, by rw [lacc, sizeLine_eq]; omega, rr_upd (s6.tr (r7.tr r8)) hD, ?_, acc1 ++ [v], upd_same, ?_⟩
        · rw [mns_upd]; exact (sm1.tr m56).tr m68
        · rw [mns_upd, tk1, List.map_append, ← List.append_assoc]
          exact (b1.mono j5 (m56.tr m68)).app (.cons s8' .nil)
      · have ej : j = (l2 a).length := by omega
        subst ej
        rw [List.take_length] at b1
        exact .inl ⟨wk1.stops H5 G1, s1, (pm2.tr m4).tr sm1, acc1, a1, b1⟩
    · have ei : i = l.length := by omega
      subst ei
      rw [List.take_length] at p3
      exact .inl ⟨wk.stops H' G, q (.ref D) H' (r1.tr p1) ⟨[D], .lst p2 (FoAll.leaves hfl (p3.same mns_same)), by simp, fun a ha => by
        cases List.mem_singleton.mp ha
        exact r1.back e.jH hD⟩⟩
end
end Lm
namespace Lm
open PySem PySem.Spec PyProof.Rows L2
/-! ### all tables of a plan (k39 to k43, k52) -/
/-! ### buckets may be told in another order -/
/-! ### how many there are -/
/-! ### the promises -/
/-! ### plans that go round -/
end Lm


/-! a list of one's own whose items stay, lists in them too -/
namespace Lm
open PySem PySem.Spec PyProof.Rows L2
section
variable {c : Ct} {H H' H0 H1 H2 H3 : Hp} {O : List Addr} {σ : L2.St} {Γ Γ' : List (Option Rs)} {te ta tb tx : TE} {tr : TA} {k ka kb : Kd} {u t : TS} {P : Out → Prop} {n m : Nat} {x d : PyData} {ds es : List PyData} {i : Int} {fz : Bool} {tt : TT}
/-- a list of one's own that is kept in a slot is a list whose items stay, and back -/
theorem Env.dw (e : Env c H0 O H σ Γ) {i : Nat} {xs : List V} {ds : List PyData} (h : Γ[i]? = some (some (.d (.lst xs)))) (b : BoAll c (mns H O) xs ds) : Env c H0 O H σ (Γ.set i (some (.w ds))) := by
  obtain ⟨fp, hr, nd, sub⟩ := e.rep
  obtain ⟨x, f, pre, post, h1, h2, h3, h4⟩ := hr.nth h
  obtain ⟨a, rfl, rfl, ha, _⟩ := h2
  subst h3
  have hσ : σ.set i (some (.ref a)) = σ := by
    obtain ⟨hlt, e1⟩ := List.getElem?_eq_some_iff.mp h1
    rw [← e1]
    exact List.set_getElem_self hlt
  have := h4 O H (some (.ref a)) (some (.w ds)) [a] (fun y t g q z => z) ⟨a, xs, rfl, rfl, ha, b⟩
  rw [hσ] at this
  exact ⟨e.r0, e.j, e.fr, e.dm, _, this, nd, sub⟩
theorem Env.wd (e : Env c H0 O H σ Γ) {i : Nat} {ds : List PyData} (h : Γ[i]? = some (some (.w ds))) : ∃ a xs, σ[i]? = some (some (.ref a)) ∧ H a = some (.lst xs) ∧ a ∈ O ∧ BoAll c (mns H O) xs ds ∧ Env c H0 O H σ (Γ.set i (some (.d (.lst xs)))) := by
  obtain ⟨fp, hr, nd, sub⟩ := e.rep
  obtain ⟨x, f, pre, post, h1, h2, h3, h4⟩ := hr.nth h
  obtain ⟨a, xs, rfl, rfl, ha, b⟩ := h2
  subst h3
  have hσ : σ.set i (some (.ref a)) = σ := by
    obtain ⟨hlt, e1⟩ := List.getElem?_eq_some_iff.mp h1
    rw [← e1]
    exact List.set_getElem_self hlt
  have := h4 O H (some (.ref a)) (some (.d (.lst xs))) [a] (fun y t g q z => z) ⟨a, rfl, rfl, ha, trivial⟩
  rw [hσ] at this
  exact ⟨a, xs, h1, ha, sub a (by simp), b, e.r0, e.j, e.fr, e.dm, _, this, nd, sub⟩
theorem BoAll.setW : ∀ {xs : List V} {ds : List PyData}, BoAll c H xs ds → ∀ {m : Nat} {v : V} {d : PyData}, Bo c H v d → BoAll c H (xs.set m v) (ds.set m d)
  | _, _, .nil, _, _, _, _ => .nil
  | _, _, .cons _ b, 0, _, _, bo => .cons bo b
  | _, _, .cons a b, _ + 1, _, _, bo => .cons a (b.setW bo)
/-- a slot is given a new list D whose items stay -/
theorem Env.newW (e : Env c H0 O H σ Γ) {i : Nat} {D : Addr} {xs : List V} (hD : H D = none) (r : Rr c H H') (h : H' D = some (.lst xs)) (rm : Rr c (mns H O) (mns H' (D :: O))) (b : BoAll c (mns H' (D :: O)) xs ds) : Env c H0 (D :: O) H' (σ.set i (some (.ref D))) (Γ.set i (some (.w ds))) := by
  have hO : D ∉ O := new_notO e hD
  refine ⟨e.r0.tr rm, rm.2 e.j, fun a ha => ?_, fun a ha => ?_, ?_⟩
  · rcases List.mem_cons.mp ha with q | q
    · rw [q]; exact e.back0 (by rw [mns_out hO]; exact hD)
    · exact e.fr a q
  · rcases List.mem_cons.mp ha with q | q
    · rw [q]; exact ⟨_, h, trivial⟩
    · obtain ⟨u, w, hw⟩ := e.dm a q
      exact ⟨u, r.1 a _ (e.okO a q) w, hw⟩
  · obtain ⟨fp, hr, nd, sub⟩ := e.rep
    have keep : ∀ y t g, (∀ a ∈ g, a ∈ O) → RepO c O H y t g → RepO c (D :: O) H' y t g := fun y t g hg z => by
      cases t with
      | none => exact z
      | some t =>
        cases t with
        | v d => exact ⟨z.1, z.2.elim fun v hv => ⟨v, hv.1, hv.2.mono e.j rm⟩⟩
        | o d => exact z.elim fun v hv => ⟨v, hv.1, hv.2.up (fun _ _ s => r.tup e.jH s) fun a ha o ho => r.1 a o (e.okO a (hg a ha)) ho⟩
        | r y => exact z
        | d u => exact z.elim fun a ⟨w1, w2, w3, w4⟩ => ⟨a, w1, w2, r.1 a _ (e.okO a (hg a (by rw [w1]; simp))) w3, w4⟩
        | w ds => exact z.elim fun a ⟨xs, w1, w2, w3, w4⟩ => ⟨a, xs, w1, w2, r.1 a _ (e.okO a (hg a (by rw [w1]; simp))) w3, w4.mono e.j rm⟩
    by_cases hi : i < Γ.length
    · obtain ⟨x, g, pre, post, h1, h2, h3, h4⟩ := hr.nth (s := Γ[i]) (List.getElem?_eq_getElem hi)
      subst h3
      refine ⟨pre ++ ([D] ++ post), h4 _ _ _ _ [D] (fun y t g' q z => keep y t g' (fun a ha => sub a (by have := q a ha; simp at this ⊢; rcases this with w | w <;> simp [w])) z) ⟨D, xs, rfl, rfl, h, b⟩, ?_, fun a ha => ?_⟩
      · have n0 : (pre ++ post).Nodup := nd.sublist (by simp)
        rw [List.nodup_append] at n0 ⊢
        refine ⟨n0.1, ?_, ?_⟩
        · rw [List.nodup_append]
          refine ⟨by simp, n0.2.1, fun a ha b' hb q => ?_⟩
          subst q
          rw [List.mem_singleton.mp ha] at hb
          exact hO (sub D (by simp [hb]))
        · intro a ha b' hb q
          subst q
          rcases List.mem_append.mp hb with w | w
          · rw [List.mem_singleton.mp w] at ha
            exact hO (sub D (by simp [ha]))
          · exact n0.2.2 a ha a w rfl
      · simp only [List.mem_append, List.mem_cons, List.not_mem_nil, or_false] at ha ⊢
        rcases ha with q | q | q
        · exact .inr (sub a (by simp [q]))
        · exact .inl q
        · exact .inr (sub a (by simp [q]))
    · have hs : ¬ i < σ.length := by rw [hr.len]; exact hi
      rw [List.set_eq_of_length_le (by omega), List.set_eq_of_length_le (by omega)]
      exact ⟨fp, hr.map fun x s g q z => keep x s g (fun a ha => sub a (q a ha)) z, nd, fun a ha => by simp [sub a ha]⟩
/-- te makes a new list whose items stay -/
def EvW (c : Ct) (te : TE) (Γ : List (Option Rs)) (ds : List PyData) : Prop :=
  ∀ H0 O H σ, Env c H0 O H σ Γ → ∀ Q : VK, (∀ p xs H2, H p = none → Rr c H H2 → H2 p = some (.lst xs) → Rr c (mns H O) (mns H2 (p :: O)) → BoAll c (mns H2 (p :: O)) xs ds → Q (.ref p) H2) → te σ H Q
theorem q_asgW (h : EvW c te Γ ds) (p : Sd c u (Γ.set n (some (.w ds))) P) : Sd c (tSeq (tAsg te (gName n)) u) Γ P := fun H0 O H σ D e s =>
  h H0 O H σ e _ fun a xs H2 ha r h2 rm b => p H0 (a :: O) H2 _ D (e.newW ha r h2 rm b) s
theorem newW1 {H1 : Hp} {xs : List V} {p : Addr} (e : Env c H0 O H σ Γ) (r : Rr c H H1) (hp : H1 p = none) (b : BoAll c (mns H1 O) xs ds) {Q : VK} (q : ∀ p xs H2, H p = none → Rr c H H2 → H2 p = some (.lst xs) → Rr c (mns H O) (mns H2 (p :: O)) → BoAll c (mns H2 (p :: O)) xs ds → Q (.ref p) H2) : Q (.ref p) (upd H1 p (.lst xs)) :=
  q p xs _ (r.back e.jH hp) (r.tr (Rr.same fun b u z => by rw [upd_ne (ne_of_none z hp)]; exact z)) upd_same (by rw [mns_own hp]; exact r.mns e.j e.okO) (by rw [mns_own hp]; exact b)
theorem w_lst (h : EvA c tr Γ true ds) (hl : ds.length ≤ 1000000) : EvW c (tLst tr) Γ ds := fun H0 O H σ e Q q =>
  h H0 O H σ e _ fun vs H1 r s => by
    have s' := BoAll.vm s
    exact ⟨by rw [s'.len]; exact sizeOk hl, fun p hp => newW1 e r hp s' q⟩
theorem w_list (h : Ev c te Γ .v (.list ds)) : EvW c (tCB (rListA c.K) (tCons te tNil)) Γ ds := fun H0 O H σ e Q q =>
  h H0 O H σ e _ fun v H1 r s => by
    have bv : Bo c (mns H1 O) v (.list ds) := s
    obtain ⟨p, xs, rfl, _, sl, al⟩ := bv.lst'
    exact ⟨p, xs, rfl, .inl (mns_same.seq sl), fun l hl => newW1 e r hl al q⟩
/-- x[i] = v -/
theorem s_setW (hx : Γ[n]? = some (some (.w ds))) (h : Ev c te Γ .v d) (hi : Ev c ta Γ ka (.int i)) (hj : ixN ds.length i = some m) (p : P (.nx (Γ.set n (some (.w (ds.set m d)))))) : Sd c (tAsg te (gSub (tVar n) ta rSetL)) Γ P := fun H0 O H σ D e s =>
  h H0 O H σ e _ fun v H2 r rs => by
    have e2 := e.on r
    obtain ⟨a, xs, ha, hH, hO, b, _⟩ := e2.wd hx
    refine ⟨.ref a, ha, hi H0 O H2 σ e2 _ fun w H3 r3 ws => ?_⟩
    have e3 := e2.on r3
    obtain ⟨a', xs', ha', hH', hO', b', ed⟩ := e3.wd hx
    have : a' = a := by rw [ha] at ha'; cases ha'; rfl
    subst this
    have bv : Bo c (mns H3 O) v d := Res.on (k := .v) e r r3 rs
    have hn : n < Γ.length := (List.getElem?_eq_some_iff.mp hx).1
    obtain ⟨p2, hp2, hq2, hq3, ew⟩ := ed.writeD (w := .lst (xs'.set m v)) (List.getElem?_set_self hn) trivial
    have : p2 = a' := by rw [ha] at hp2; cases hp2; rfl
    subst this
    have em : mns (upd H3 p2 (.lst (xs'.set m v))) O = mns H3 O := by
      funext z
      by_cases hz : z ∈ O
      · rw [mns_in hz, mns_in hz]
      · rw [mns_out hz, mns_out hz, upd_ne (fun w => hz (by rw [w]; exact hq3))]
    refine ⟨p2, xs', i, m, rfl, (Res.bo e2 ws).int', hH', by rw [b'.len]; exact hj, s _ p O _ σ ?_⟩
    rw [List.set_set] at ew
    have := ew.dw (ds := ds.set m d) (List.getElem?_set_self hn) (by rw [em]; exact b'.setW bv)
    rwa [List.set_set] at this
/-- from now on it is not written -/
theorem Env.freezeW (e : Env c H0 O H σ Γ) {i : Nat} (h : Γ[i]? = some (some (.w ds))) : ∃ O', Env c H0 O' H σ (Γ.set i (some (.v (.list ds)))) := by
  obtain ⟨fp, hr, nd, sub⟩ := e.rep
  obtain ⟨x, f, pre, post, h1, h2, h3, h4⟩ := hr.nth h
  obtain ⟨a, xs, rfl, rfl, ha, b⟩ := h2
  subst h3
  have hm : ∀ z, z ∈ O.filter (fun z => !decide (z = a)) ↔ z ∈ O ∧ z ≠ a := fun z => by simp
  have sm : Same (mns H O) (mns H (O.filter fun z => !decide (z = a))) := mns_sub fun z hz => ((hm z).mp hz).1
  have dis : ∀ z ∈ pre ++ post, z ≠ a := fun z hz w => by
    subst w
    have n2 := (List.nodup_append.mp nd).2.1
    rcases List.mem_append.mp hz with u | u
    · exact (List.nodup_append.mp nd).2.2 z u z (by simp) rfl
    · exact (List.nodup_append.mp n2).2.2 z (by simp) z u rfl
  refine ⟨O.filter fun z => !decide (z = a), ⟨e.r0.tr (Rr.same sm), e.j.same sm, fun z hz => e.fr z ((hm z).mp hz).1, fun z hz => e.dm z ((hm z).mp hz).1, ?_⟩⟩
  have hσ : σ.set i (some (.ref a)) = σ := by
    obtain ⟨hlt, e1⟩ := List.getElem?_eq_some_iff.mp h1
    rw [← e1]
    exact List.set_getElem_self hlt
  have hb : Bo c (mns H (O.filter fun z => !decide (z = a))) (.ref a) (.list ds) := by
    refine .lst (e.okO a (sub a (by simp))) (.inl (.inl ?_)) (b.same sm)
    rw [mns_out fun z => ((hm a).mp z).2 rfl]
    exact ha
  have := h4 (O.filter fun z => !decide (z = a)) H (some (.ref a)) (some (.v (.list ds))) [] (fun y t g q z => ?_) ⟨rfl, .ref a, rfl, hb⟩
  · rw [hσ] at this
    exact ⟨_, this, nd.sublist (by simp), fun z hz => (hm z).mpr ⟨sub z (by simp at hz ⊢; rcases hz with w | w <;> simp [w]), dis z (by simpa using hz)⟩⟩
  · cases t with
    | none => exact z
    | some t =>
      cases t with
      | v d => exact ⟨z.1, z.2.elim fun v hv => ⟨v, hv.1, hv.2.same sm⟩⟩
      | o d => exact z
      | r y => exact z
      | d u => exact z
      | w ds => exact z.elim fun a ⟨xs, w1, w2, w3, w4⟩ => ⟨a, xs, w1, w2, w3, w4.same sm⟩
theorem s_freezeW (h : Γ[n]? = some (some (.w ds))) (hs : Sd c t (Γ.set n (some (.v (.list ds)))) P) : Sd c t Γ P := fun H0 O H σ D e s => by
  obtain ⟨O', e'⟩ := e.freezeW h
  exact hs H0 O' H σ D e' s
end
end Lm


/-! assignments that are laid out by cores -/
namespace Lm
open PySem PySem.Spec PyProof.Rows L2
variable {v b : Int} {as bs cs ms : List Int} {z : List (Int × Int)} {p q : List (Option Int)}
/-- cores for an allocation -/
structure Crs (as cs : List Int) (v b : Int) : Prop where
  a : Alc as v b
  len : cs.length = as.length
  nn : ∀ n ∈ cs, 0 ≤ n
  le : cs.sum ≤ b
/-! ### cores that give up what the medians are too many -/
def crsI : Int → List Int → List Int → List Int
  | o, m :: ms, s :: bs => (m - min o (max (m - s) 0)) :: crsI (o - min o (max (m - s) 0)) ms bs
  | _, _, _ => []
theorem crs_len : ∀ {ms bs : List Int} {o : Int}, ms.length = bs.length → (crsI o ms bs).length = ms.length
  | [], [], _, _ => rfl
  | m :: ms, s :: bs, o, h => by unfold crsI; rw [List.length_cons, List.length_cons, crs_len (by simpa using h)]
  | [], _ :: _, _, h => by simp at h
  | _ :: _, [], _, h => by simp at h
theorem crs_at : ∀ {ms bs : List Int} {o : Int} {j : Nat}, 0 ≤ o → ms.length = bs.length → j < ms.length → min (ms.getD j 0) (bs.getD j 0) ≤ (crsI o ms bs).getD j 0 ∧ (crsI o ms bs).getD j 0 ≤ ms.getD j 0
  | [], _, _, _, _, _, h => by simp at h
  | _ :: _, [], _, _, _, h, _ => by simp at h
  | m :: ms, s :: bs, o, 0, h0, _, _ => by
    unfold crsI
    simp only [List.getD_cons_zero]
    omega
  | m :: ms, s :: bs, o, j + 1, h0, hl, hj => by
    have := crs_at (ms := ms) (bs := bs) (o := o - min o (max (m - s) 0)) (j := j) (by omega) (by simpa using hl) (by simpa using hj)
    unfold crsI
    simp only [List.getD_cons_succ]
    exact this
theorem crs_sum : ∀ {ms bs : List Int} {o : Int}, 0 ≤ o → ms.length = bs.length → (crsI o ms bs).sum = ms.sum - min o (zs (fun m s => max (m - s) 0) ms bs)
  | [], [], o, h0, _ => by
    show (0 : Int) = 0 - min o 0
    omega
  | m :: ms, s :: bs, o, h0, h => by
    have ih := crs_sum (ms := ms) (bs := bs) (o := o - min o (max (m - s) 0)) (by omega) (by simpa using h)
    have nn : 0 ≤ zs (fun m s => max (m - s) 0) ms bs := sum_nn fun n hn => by
      obtain ⟨j, _, rfl⟩ := List.mem_map.mp hn
      dsimp only
      omega
    rw [zs_cons]
    unfold crsI
    rw [List.sum_cons, ih, List.sum_cons]
    omega
  | [], _ :: _, _, _, h => by simp at h
  | _ :: _, [], _, _, h => by simp at h
theorem med_nn (h1 : ∀ n ∈ as, 0 ≤ n) (h2 : ∀ n ∈ bs, 0 ≤ n) (h3 : ∀ n ∈ cs, 0 ≤ n) (l1 : as.length = bs.length) (l2 : as.length = cs.length) : ∀ n ∈ medI as bs cs, 0 ≤ n := fun n hn => by
  obtain ⟨j, hj, rfl⟩ := List.mem_map.mp hn
  have := List.mem_range.mp hj
  have := h1 _ (gd_mem (l := as) (j := j) (by omega))
  have := h2 _ (gd_mem (l := bs) (j := j) (by omega))
  have := h3 _ (gd_mem (l := cs) (j := j) (by omega))
  unfold mid3
  (repeat' split) <;> omega
theorem med_len : (medI as bs cs).length = as.length := by simp [medI]
/-- the cores of a return -/
def retC (as bs cs : List Int) : List Int := crsI (exI as bs cs) (medI as bs cs) bs
theorem ex_nn : 0 ≤ exI as bs cs := by unfold exI; split <;> omega
theorem retC_nn (h1 : Alc as v b) (h2 : Alc bs v b) (h3 : Alc cs v b) : ∀ n ∈ retC as bs cs, 0 ≤ n := fun n hn => by
  have l1 := h1.lens h2
  have l2 := h1.lens h3
  have ml : (medI as bs cs).length = bs.length := by rw [med_len]; exact l1
  obtain ⟨j, hj, rfl⟩ := List.mem_iff_getElem.mp hn
  have hl : (retC as bs cs).length = (medI as bs cs).length := crs_len ml
  have hj' : j < (medI as bs cs).length := by omega
  have c := crs_at (o := exI as bs cs) ex_nn ml hj'
  have e : (retC as bs cs)[j] = (crsI (exI as bs cs) (medI as bs cs) bs).getD j 0 := (gd_lt hj).symm
  rw [e]
  have m0 := med_nn h1.nn h2.nn h3.nn l1 l2 _ (gd_mem hj')
  have b0 := h2.nn _ (gd_mem (l := bs) (j := j) (by omega))
  omega
theorem retC_crs (h1 : Alc as v b) (h2 : Alc bs v b) (h3 : Alc cs v b) : (retC as bs cs).length = as.length ∧ (retC as bs cs).sum ≤ b ∧ (retC as bs cs).sum = (medI as bs cs).sum - exI as bs cs := by
  have l1 := h1.lens h2
  have l2 := h1.lens h3
  have ml : (medI as bs cs).length = bs.length := by rw [med_len]; exact l1
  have s := crs_sum (o := exI as bs cs) ex_nn ml
  have : (medI as bs cs).sum - bs.sum ≤ zs (fun m s => max (m - s) 0) (medI as bs cs) bs := by
    have : ∀ {as bs : List Int}, as.length = bs.length → as.sum - bs.sum ≤ zs (fun m s => max (m - s) 0) as bs := by
      intro as
      induction as with
      | nil => intro bs hl; have : bs = [] := List.length_eq_zero_iff.mp (by simpa using hl.symm); subst this; exact Int.le_refl _
      | cons a as ih =>
        intro bs hl
        cases bs with
        | nil => simp at hl
        | cons b bs =>
          have := ih (bs := bs) (by simpa using hl)
          rw [zs_cons, List.sum_cons, List.sum_cons]
          omega
    exact this ml
  have e1 := h1.sum
  have e2 := h2.sum
  have e3 : (retC as bs cs).sum = (medI as bs cs).sum - exI as bs cs := by
    unfold retC
    rw [s]
    have n := sum_nn (ns := (List.range (medI as bs cs).length).map fun j => max ((medI as bs cs).getD j 0 - bs.getD j 0) 0) fun n hn => by
      obtain ⟨j, _, rfl⟩ := List.mem_map.mp hn
      omega
    have n' : 0 ≤ zs (fun m s => max (m - s) 0) (medI as bs cs) bs := n
    unfold exI suI
    split <;> omega
  refine ⟨by unfold retC; rw [crs_len ml, med_len], ?_, e3⟩
  rw [e3]
  unfold exI suI
  split <;> omega
theorem Crs.ret (h1 : Alc as v b) (h2 : Alc bs v b) (h3 : Alc cs v b) : Crs as (retC as bs cs) v b ∧ Crs bs (retC as bs cs) v b ∧ Crs cs (retC as bs cs) v b := by
  obtain ⟨l, s, _⟩ := retC_crs h1 h2 h3
  have n := retC_nn h1 h2 h3
  have l1 := h1.lens h2
  have l2 := h1.lens h3
  exact ⟨⟨h1, l, n, s⟩, ⟨h2, by omega, n, s⟩, ⟨h3, by omega, n, s⟩⟩
end Lm


/-! xs[i] = ys.pop(k); [rows[x].pop(0) for x in ..] -/
namespace Lm
open PySem PySem.Spec PyProof.Rows L2
section
variable {c : Ct} {H H' H0 H1 H2 H3 : Hp} {O : List Addr} {σ : L2.St} {Γ Γ' Γ1 : List (Option Rs)}
variable {te ta tb tx : TE} {tr : TA} {u : TS} {k ka kb : Kd} {d x y z : PyData} {i j : Int} {ds es : List PyData} {P : Out → Prop}
theorem Env.bareR (e : Env c H0 O H σ Γ) (hb : bareB Γ = true) : Reps c O H σ Γ [] := let ⟨_, hr, _⟩ := e.rep; hr.bareM (D := 0) e.j Rr.rf hb
theorem Env.take (e : Env c H0 O H σ Γ) (hb : bareB Γ = true) {n : Nat} {a : Addr} {ns : List Int} (ha : a ∈ O) (h : H a = some (.lst (ns.map V.int))) : Env c H0 O H (σ.set n (some (.ref a))) (Γ.set n (some (.o (.list (ns.map .int))))) := by
  have hr := e.bareR hb
  refine ⟨e.r0, e.j, e.fr, e.dm, ?_⟩
  by_cases hi : n < Γ.length
  · obtain ⟨x, f, pre, post, h1, h2, h3, h4⟩ := hr.nth (s := Γ[n]) (List.getElem?_eq_getElem hi)
    have h3' := h3.symm
    rw [List.append_eq_nil_iff, List.append_eq_nil_iff] at h3'
    obtain ⟨rfl, rfl, rfl⟩ := h3'
    exact ⟨[a], h4 O H _ _ [a] (fun _ _ _ _ z => z) ⟨.ref a, rfl, .lst h (FoAll.leaves (flatAll_ints _) (BoAll.ofInts _))⟩, by simp, fun b hb => by cases List.mem_singleton.mp hb; exact ha⟩
  · have hs : ¬ n < σ.length := by rw [hr.len]; exact hi
    rw [List.set_eq_of_length_le (by omega), List.set_eq_of_length_le (by omega)]
    exact ⟨[], hr, List.nodup_nil, fun a h => nomatch h⟩
/-! ### rows from which the first ones are taken -/
end
end Lm


/-! the least so far (k30) -/
namespace Lm
open PySem PySem.Spec PyProof.Rows L2
variable {v b : Int} {as bs cs one f g : List Int}
def LeastP (l : List Int) (ls : PyData) : Prop := (ls = .none ∧ l = []) ∨ ∃ m : Int, ls = .int m ∧ m ∈ l ∧ ∀ x ∈ l, m ≤ x
theorem LeastP.new {l : List Int} {x : Int} {ls : PyData} (h : LeastP l ls) (q : ∀ m, ls = .int m → x < m) : LeastP (l ++ [x]) (.int x) := by
  refine .inr ⟨x, rfl, by simp, fun y hy => ?_⟩
  rcases h with ⟨_, rfl⟩ | ⟨m, e, _, h2⟩
  · simp at hy; omega
  · have := q m e
    rcases List.mem_append.mp hy with w | w
    · have := h2 y w; omega
    · rw [List.mem_singleton.mp w]; exact Int.le_refl _
end Lm


/-! who raises what among the triples (k34) -/
namespace Lm
open PySem PySem.Spec PyProof.Rows L2
section
variable {K : PySem.W.Frag} {C : Addr} {H0 : Hp} {Γ : List (Option Rs)} {σ : L2.St} {te : TE} {tt : TT} {t u : TS} {nm : Str}
theorem x_asgE {c : Ct} {g : TG} (h : EvRz c H0 te Γ) : SdX c H0 (tAsg te g) Γ := fun O H σ D e => h O H σ _ e
theorem x_asgO {c : Ct} {d : PyData} {n : Nat} (h : Ev c te Γ .o d) (p : SdX c H0 u (Γ.set n (some (.o d)))) : SdX c H0 (tSeq (tAsg te (gName n)) u) Γ := fun O H σ D e => h H0 O H σ e _ fun v H2 r ⟨fp, f, nd, new⟩ => p _ H2 _ D (e.setO r f nd new)
end
/-! what is no allocation, no assignment of it -/
end Lm


/-! isinstance of a caught error that keeps a text; a handler for its base class -/
namespace Lm
open PySem PySem.Spec PyProof.Rows L2
/-- isinstance(e, c): a the caught error, cls its class, d its dict -/
def rIsX (K : PySem.W.Frag) (D a : Addr) (cls : Value) (d : Option Addr) : List V → Hp → VK → Prop := fun xs H Q => ∃ (c : V) (cv : Value) (b : Bool) (dd : Addr) (fs : List (Str × V)), xs = [.ref a, c] ∧ cls = .ref D ∧ d = some dd ∧ H dd = some (.xd fs) ∧ (∀ u, RelV c u → u = cv) ∧ PySem.W.kitOne K (.ref D) cv = some b ∧ Q (.bl b) H
theorem call_isX {X : Cx} {a D : Addr} {oe : Obj} {cls : Value} {d : Option Addr} {pn : List (Addr × Obj)} (C : ExcC X.K D) (hz : Zc cls d oe) (hf : ∃ vs, oe.data = .fields vs) : CallR (X.suite a ((a, oe) :: pn)) (.builtin "isinstance") (rIsX X.K D a cls d) := by
  intro pins s σ H xs us Q I r h
  obtain ⟨c, cv, b, dd, fs, rfl, rfl, rfl, ea, hcv, e, q⟩ := h
  cases r with
  | cons rx rr =>
    cases rr with
    | cons rt rr =>
      cases rr
      cases rx
      have ec := hcv _ rt
      subst ec
      obtain ⟨hget, _⟩ := I.pin (a, oe) (List.mem_append.mpr (.inl List.mem_cons_self))
      obtain ⟨vs, hv⟩ := hf
      have hx : ObjOk X.prog X.w H s.heap dd (.xd fs) := I.hok dd _ ea
      obtain ⟨mA, hns, hr⟩ := hx
      obtain ⟨od, ho, hl⟩ := lookIn_ns hns
      have J : PySem.W.InstAt s.heap a oe D (some od) := ⟨hget, hz.1, by unfold PySem.W.notCls; rw [hv] <;> rfl, by rw [hz.2]; exact ho⟩
      have cl : (PySem.W.clsIn X.K D).isSome = true := by obtain ⟨cd, hc, _⟩ := PySem.W.any_some C.hd; rw [hc]; rfl
      exact PySem.W.kia_one (PySem.W.kitx_exc (od := some od) cl C.hg C.hk C.hs C.ha C.hn C.ht C.hm) I.kIn J e (fun z => nomatch z) fun tk => ⟨.bl b, H, I.kept (t' := tk) fun _ _ z => z, rfl, q⟩
/-- what a handler for the base class asks of the error's class C and of the base class L -/
structure ExcH (K : PySem.W.Frag) (mg : Str → Option Value) (C L : Addr) : Prop where
  isC : ExcC K C
  hL : mg "LeastError" = some (.ref L)
  exL : PySem.W.exmOne K (.ref C) (.ref L) = some true
  kV : PySem.W.kitOne K (.ref C) (.type "ValueError") = some true
theorem kit_val {K : PySem.W.Frag} {C : Addr} (h : PySem.W.subIn K (.ref C) (.type "ValueError") = some true) : PySem.W.kitOne K (.ref C) (.type "ValueError") = some true := by
  unfold PySem.W.kitOne
  rw [if_neg (by simp)]
  unfold PySem.W.kitCls
  show (if PySem.W.kitMeta "ValueError" = true then _ else _) = _
  rw [if_pos (by decide +kernel)]
  exact h
theorem kit_self {K : PySem.W.Frag} {C : Addr} : PySem.W.kitOne K (.ref C) (.ref C) = some true := by
  unfold PySem.W.kitOne
  rw [if_pos (by simp)]
/-! a call of what answers or raises, in a body -/
section
variable {K : PySem.W.Frag} {C : Addr} {R : List PyData → Str → Prop} {pre : Pre} {E : XK} {W : WX} {te : TE} {ta : TA} {Γ : List (Option Rs)} {ds es : List PyData} {d : PyData} {P : Out → Prop} {c : Ct}
theorem s_retC (h : EvA (pc K) ta Γ false ds) (hp : pre ds .v d) (p : P (.rt .v d)) : Sd (pc K) (tRet (tCall (spD K pre) [] E ta)) Γ P := fun H0 O H σ D e s =>
  h H0 O H σ e _ fun vs H1 r b => ⟨ds, .v, d, by rw [List.append_nil]; exact b.pure, hp, fun v H2 sm rt => s _ p v H2 (e.rH.tr (r.tr (Rr.same sm))) rt⟩
theorem x_skip {tt : TT} {t u : TS} {H0 : Hp} (h : EvT c tt Γ false) (p : SdX c H0 u Γ) : SdX c H0 (tSeq (tIfS tt t tNext) u) Γ := fun O H σ D e => h H0 O H σ e _ fun H1 r => by
  show if false = true then _ else _
  rw [if_neg (by decide)]
  exact p O H1 σ D (e.on r)
theorem x_take {tt : TT} {t u : TS} {H0 : Hp} (h : EvT c tt Γ true) (p : SdX c H0 t Γ) : SdX c H0 (tSeq (tIfS tt t tNext) u) Γ := fun O H σ D e => h H0 O H σ e _ fun H1 r => by
  show if true = true then _ else _
  rw [if_pos rfl]
  exact p O H1 σ _ (e.on r)
theorem was_least {P : Program} {w : World} {mg : Str → Option Value} {base : Heap} {i : Nat} {Wout : WX} {D : Ends} {dx L : Addr} {H1 : Hp} {s s2 nm : Str} {σ : L2.St} (X : Exc1 P w K mg base "BadValue" "name" C) (XH : ExcH K mg C L) (hi : i < σ.length) (hdx : H1 dx = some (.xd [("name", .str nm)]))
    (q : ∀ p H2, Same H1 H2 → TpN K H2 p [.str s, .str nm] → D.rt (.ref p) H2) :
    wAs K (.ref L) i (fun a cls d => tSeq (tIfS (tAnd (tB (tCB (rIsX K C a cls d) (tCons (tVar i) (tCons (tC (.ref C)) tNil)))) (tB (tCB (rIsX K C a cls d) (tCons (tVar i) (tCons (tC (.ty "ValueError")) tNil)))))
      (tRet (tTupN (tCons (tC (.str s)) (tCons (tXf a cls d C "name" (tVar i)) tNil)))) tNext) (tRet (tTupN (tCons (tC (.str s2)) tNil)))) Wout D (.ref C) (some dx) σ H1 := by
  refine ⟨true, XH.exL, fun _ a ha => ?_, fun w => nomatch w⟩
  have v0 : (σ.set i (some (.ref a)))[i]? = some (some (.ref a)) := List.getElem?_set_self hi
  refine ⟨.ref a, v0, .ref C, .ref C, true, dx, _, rfl, rfl, rfl, hdx, fun u h => h, kit_self, true, rfl, ?_⟩
  show if true = true then _ else _
  rw [if_pos rfl]
  refine ⟨.ref a, v0, .ty "ValueError", .type "ValueError", true, dx, _, rfl, rfl, rfl, hdx, fun u h => h, XH.kV, true, rfl, ?_⟩
  show if true = true then _ else _
  rw [if_pos rfl]
  exact ⟨.ref a, v0, rfl, rfl, dx, _, .str nm, rfl, hdx, rfl, by show 2 ≤ sizeLine; decide, newTk (c := pc K) fun p H2 hp sm tp => q p H2 sm tp⟩
end
/-! who raises what among the rules (k61) -/
end Lm


/-! lists of one's own with drawn items; the rule of k61 and what is none -/
namespace Lm
open PySem PySem.Spec PyProof.Rows L2
section
variable {c : Ct} {Γ : List (Option Rs)} {te : TE} {tr : TA} {u : TS} {n : Nat} {ds : List PyData} {P : Out → Prop} {Pd : List PyData → Prop} {Pe : PyData → Prop}
/-- te makes a new list whose items stay: one of several -/
def EvWN (c : Ct) (te : TE) (Γ : List (Option Rs)) (Pd : List PyData → Prop) : Prop :=
  ∀ H0 O H σ, Env c H0 O H σ Γ → ∀ Q : VK, (∀ p xs ds H2, Pd ds → H p = none → Rr c H H2 → H2 p = some (.lst xs) → Rr c (mns H O) (mns H2 (p :: O)) → BoAll c (mns H2 (p :: O)) xs ds → Q (.ref p) H2) → te σ H Q
theorem w_lstN (h : EvAN c tr Γ Pd) (hl : ∀ ds, Pd ds → ds.length ≤ 1000000) : EvWN c (tLst tr) Γ Pd := fun H0 O H σ e Q q =>
  h H0 O H σ e _ fun vs ds H1 pd r s => ⟨by rw [s.len]; exact sizeOk (hl ds pd), fun p hp => newW1 e r hp s fun p xs H2 => q p xs ds H2 pd⟩
theorem q_asgWN (h : EvWN c te Γ Pd) (p : ∀ ds, Pd ds → Sd c u (Γ.set n (some (.w ds))) P) : Sd c (tSeq (tAsg te (gName n)) u) Γ P := fun H0 O H σ D e s =>
  h H0 O H σ e _ fun a xs ds H2 pd ha r h2 rm b => p ds pd H0 (a :: O) H2 _ D (e.newW ha r h2 rm b) s
theorem s_appWN (hx : Γ[n]? = some (some (.w ds))) (h : EvN c te Γ .v Pe) (hl : ds.length < 1000000) (p : ∀ d, Pe d → P (.nx (Γ.set n (some (.w (ds ++ [d])))))) : Sd c (tDrop (tBM c.K "list" rAppend (tVar n) (tCons te tNil))) Γ P := fun H0 O H σ D e s => by
  obtain ⟨a, xs, ha, hH, hO, b, _⟩ := e.wd hx
  refine ⟨.ref a, ha, .inl ⟨rfl, xs, .inl (.inl hH)⟩, h H0 O H σ e _ fun v d H2 pd r rs => ?_⟩
  have e2 := e.on r
  obtain ⟨a', xs', ha', hH', hO', b', ed⟩ := e2.wd hx
  have : a' = a := by rw [ha] at ha'; cases ha'; rfl
  subst this
  have bv : Bo c (mns H2 O) v d := rs
  have hn : n < Γ.length := (List.getElem?_eq_some_iff.mp hx).1
  obtain ⟨p2, hp2, hq2, hq3, ew⟩ := ed.writeD (w := .lst (xs' ++ [v])) (List.getElem?_set_self hn) trivial
  have : p2 = a' := by rw [ha] at hp2; cases hp2; rfl
  subst this
  have em : mns (upd H2 p2 (.lst (xs' ++ [v]))) O = mns H2 O := by
    funext z
    by_cases hz : z ∈ O
    · rw [mns_in hz, mns_in hz]
    · rw [mns_out hz, mns_out hz, upd_ne (fun w => hz (by rw [w]; exact hq3))]
  refine ⟨p2, xs', v, rfl, rfl, hH', by rw [b'.len, sizeLine_eq]; omega, s _ (p d pd) O _ σ ?_⟩
  rw [List.set_set] at ew
  have := ew.dw (ds := ds ++ [d]) (List.getElem?_set_self hn) (by rw [em]; exact b'.app (.cons bv .nil))
  rwa [List.set_set] at this
end
/-! the rule of two pairs -/
def zr (n : Nat) : List Int := List.replicate n 0
/-! rows of arguments -/
theorem get3 {α : Type} {l : List α} (h : l.length = 3) : ∃ x y z, l = [x, y, z] := match l, h with | [x, y, z], _ => ⟨x, y, z, rfl⟩
theorem get4 {α : Type} {l : List α} (h : l.length = 4) : ∃ x y z u, l = [x, y, z, u] := match l, h with | [x, y, z, u], _ => ⟨x, y, z, u, rfl⟩
theorem sh_bad {s : String} : SeqAt.shaped (.tuple [.str (Str.ofString "bad"), .str (Str.ofString s)]) = true := shapedS2
end Lm


/-! max and min of a list by a key: the walk, whatever the key answers -/
namespace Lm
open PySem PySem.Spec PyProof.Rows L2
/-- which place is best, from turn j on, k turns left -/
def bestI (lt : Nat → Nat → Bool) : Nat → Nat → Nat → Nat
  | 0, _, i => i
  | k + 1, j, i => bestI lt k (j + 1) (if lt j i = true then j else i)
theorem maxLoopName : (toString "max" ++ toString ".loop" : String) = "max.loop" := by decide
section
variable {prog : Program} {w : World} {A : Around} {R : Result → Shared → Prop}
theorem maxK_loop {it l S : Addr} {xs : Array Value} {kid : String} (hh : A.handled = none) (hli : l ≠ it) (hSi : S ≠ it) (G : Heap → Prop) (KV : Nat → Value → Heap → Prop) (lt : Nat → Nat → Bool)
    (gk : ∀ h h' : Heap, G h → (∀ b o, b ≠ S → b ≠ it → h.get? b = some o → h'.get? b = some o) → G h')
    (kk : ∀ i v (h h' : Heap), KV i v h → (∀ b o, b ≠ S → b ≠ it → h.get? b = some o → h'.get? b = some o) → KV i v h')
    (hl : ∀ h, G h → h.IsList l xs)
    (turn : ∀ (j : Nat) (v : Value) (s : Shared) (Q E : Value → Shared → Prop), xs[j]? = some v → G s.heap → (∀ k h' t', (∀ b o, s.heap.get? b = some o → h'.get? b = some o) → KV j k h' → Q k { s with heap := h', toks := t' }) → wpAny (model prog w) A.in1 (call (.builtin kid) [v]) Q E s)
    (less : ∀ (i j : Nat) (ki kj : Value) (s : Shared) (Q E : Value → Shared → Prop), KV i ki s.heap → KV j kj s.heap → G s.heap → Q (.bool (lt j i)) s → wpAny (model prog w) A.in1 (richCompare .Gt kj ki) Q E s) :
    ∀ (k j i : Nat) (v0 k0 : Value) (s : Shared) (c : Nat), xs.size - j = k → j ≤ xs.size → xs[i]? = some v0 → s.heap.IsListIter it l j → G s.heap → KV i k0 s.heap → s.heap.get? S = some { cls := .type "list", dict := none, data := .seq #[v0, k0] c, slots := #[] } →
      (∀ v h' t', xs[bestI lt k j i]? = some v → (∀ b o, b ≠ S → b ≠ it → s.heap.get? b = some o → h'.get? b = some o) → R (.ok (.ret v)) { s with heap := h', toks := t' }) → codeAny (model prog w) A (.builtin "max.loop" ⟨[.ref it, .builtin kid, .ref S], []⟩) R s := by
  intro k
  induction k with
  | zero =>
    intro j i v0 k0 s c hk hj hi hit g hK hS done
    refine codeAny_builtin PySem.F.entry_max_loop ?_
    rw [Around.under_plainId PySem.F.plain_max_loop]
    show wpAny _ A.in1 (seqItems? (.ref S) >>= _) _ _ s
    refine wpAny_bind (wpAny_seqItems hS rfl ?_)
    show wpAny _ A.in1 (tryCatch (pyNext (.ref it)) _ >>= _) _ _ s
    have past : xs[j]? = none := Array.getElem?_eq_none (by omega)
    refine wpAny_bind (wpAny_tryCatch (wpAny_pyNext_list_end hh hit (hl _ g) past fun h1 e1 => ?_))
    have hS1 := e1 _ _ hSi hS
    show wpAny _ A.in1 (updateSeq S _ >>= _) _ _ _
    refine wpAny_bind (wpAny_updateSeq hS1 rfl (wpAny_bind (wpAny_letGo (wpAny_pure ?_))))
    exact done v0 _ s.toks hi fun b o bS bi e => (Heap.get?_update_other _ _ (Ne.symm bS)).trans (e1 b o bi e)
  | succ k ih =>
    intro j i v0 k0 s c hk hj hi hit g hK hS done
    have ltj : j < xs.size := by omega
    refine codeAny_builtin PySem.F.entry_max_loop ?_
    rw [Around.under_plainId PySem.F.plain_max_loop]
    show wpAny _ A.in1 (seqItems? (.ref S) >>= _) _ _ s
    refine wpAny_bind (wpAny_seqItems hS rfl ?_)
    show wpAny _ A.in1 (tryCatch (pyNext (.ref it)) _ >>= _) _ _ s
    have here : xs[j]? = some xs[j] := Array.getElem?_eq_getElem ltj
    refine wpAny_bind (wpAny_tryCatch (wpAny_pyNext_list_item hit (hl _ g) here fun h1 st1 sb => ?_))
    have up : ∀ b o, b ≠ S → b ≠ it → s.heap.get? b = some o → h1.get? b = some o := fun b o _ bi e => sb.extBut b o bi e
    have hS1 := sb.extBut _ _ hSi hS
    have g1 := gk _ _ g up
    have hK1 := kk _ _ _ _ hK up
    show wpAny _ A.in1 (tryCatch (holding [xs[j]] (call (.builtin kid) [xs[j]])) _ >>= _) _ _ _
    refine wpAny_bind (wpAny_tryCatch (wpAny_holding (turn j _ _ _ _ here g1 fun kj h2 t2 up2 hKj => ?_)))
    have up2' : ∀ b o, b ≠ S → b ≠ it → h1.get? b = some o → h2.get? b = some o := fun b o _ _ e => up2 b o e
    have hS2 := up2 _ _ hS1
    have g2 := gk _ _ g1 up2'
    have hK2 := kk _ _ _ _ hK1 up2'
    have st2 : h2.IsListIter it l (j + 1) := st1.at fun o e => up2 _ o e
    show wpAny _ A.in1 (tryCatch (holding [xs[j], kj] (richCompare .Gt kj k0 >>= _)) _ >>= _) _ _ _
    refine wpAny_bind (wpAny_tryCatch (wpAny_holding (wpAny_bind (less i j _ _ _ _ _ hK2 hKj g2 ?_))))
    refine wpAny_bind (wpAny_holding (wpAny_truthy_bool (wpAny_bind (wpAny_letGo (wpAny_pure ?_)))))
    cases hb : lt j i with
    | true =>
      simp only [if_true]
      refine wpAny_bind (wpAny_updateSeq hS2 rfl (wpAny_bind (wpAny_letGo ?_)))
      rw [maxLoopName]
      have up3 : ∀ b o, b ≠ S → b ≠ it → h2.get? b = some o → (h2.update S (Obj.mapSeq fun _ => #[xs[j], kj])).get? b = some o := fun b o bS _ e => (Heap.get?_update_other _ _ (Ne.symm bS)).trans e
      refine wpAny_pure ⟨plainId_quiet PySem.F.plain_max_loop _, ih (j + 1) j xs[j] kj _ _ (by omega) (by omega) here (st2.at fun o e => (Heap.get?_update_other _ _ hSi).trans e) (gk _ _ g2 up3) (kk _ _ _ _ hKj up3) (Heap.get?_update_self _ hS2 rfl) fun v h3 t3 hv e3 => done v h3 t3 (by
        show xs[bestI lt k (j + 1) (if lt j i = true then j else i)]? = _
        rw [hb]; exact hv) fun b o bS bi e => e3 b o bS bi (up3 b o bS bi (up2' b o bS bi (up b o bS bi e)))⟩
    | false =>
      simp only [Bool.false_eq_true, if_false]
      refine wpAny_bind (wpAny_letGo ?_)
      rw [maxLoopName]
      exact wpAny_pure ⟨plainId_quiet PySem.F.plain_max_loop _, ih (j + 1) i v0 k0 _ c (by omega) (by omega) hi st2 g2 hK2 hS2 fun v h3 t3 hv e3 => done v h3 t3 (by
        show xs[bestI lt k (j + 1) (if lt j i = true then j else i)]? = _
        rw [hb]; exact hv) fun b o bS bi e => e3 b o bS bi (up2' b o bS bi (up b o bS bi e))⟩
/-- max(l, key=kid) -/
theorem maxK_call {E : Value → Shared → Prop} {s : Shared} {l : Addr} {xs : Array Value} {kid : String} {Q : Value → Shared → Prop} (hh : A.handled = none) (hl : s.heap.IsList l xs) (hn : 0 < xs.size) (KV : Nat → Value → Heap → Prop) (lt : Nat → Nat → Bool)
    (kk : ∀ i v (h h' : Heap), KV i v h → (∀ b o, s.heap.get? b = some o → h'.get? b = some o) → KV i v h')
    (turn : ∀ (j : Nat) (v : Value) (s1 : Shared) (Q E : Value → Shared → Prop), xs[j]? = some v → (∀ b o, s.heap.get? b = some o → s1.heap.get? b = some o) → (∀ k h' t', (∀ b o, s1.heap.get? b = some o → h'.get? b = some o) → KV j k h' → Q k { s1 with heap := h', toks := t' }) → wpAny (model prog w) A.in1 (call (.builtin kid) [v]) Q E s1)
    (less : ∀ (i j : Nat) (ki kj : Value) (s1 : Shared) (Q E : Value → Shared → Prop), KV i ki s1.heap → KV j kj s1.heap → (∀ b o, s.heap.get? b = some o → s1.heap.get? b = some o) → Q (.bool (lt j i)) s1 → wpAny (model prog w) A.in1 (richCompare .Gt kj ki) Q E s1)
    (q : ∀ v h' t', xs[bestI lt (xs.size - 1) 1 0]? = some v → (∀ b o, s.heap.get? b = some o → h'.get? b = some o) → Q v { s with heap := h', toks := t' }) : wpAny (model prog w) A (call (.builtin "max") [.ref l] [(Str.ofString "key", .builtin kid)]) Q E s := by
  have h0 : xs[0]? = some xs[0] := Array.getElem?_eq_getElem hn
  refine kmb_tree PySem.F.kind_max PySem.F.plain_max PySem.F.entry_max (kmb_max_key _ _) ?_
  show wpAny _ A.in1 (Builtin.Builtins.bindParams "max" ["key", "default"] 0 ⟨[], [(Str.ofString "key", .builtin kid)]⟩ >>= _) _ _ s
  refine wpAny_bind (wpAny_of_eq (show Builtin.Builtins.bindParams "max" ["key", "default"] 0 ⟨[], [(Str.ofString "key", .builtin kid)]⟩ = pure [some (.builtin kid), none] from rfl) (wpAny_bind (wpAny_pure (wpAny_bind ?_))))
  refine wpAny_pyIter_list hl ?_
  have hlt : l < s.heap.objs.size := by obtain ⟨o, e, _⟩ := id hl; exact Heap.lt_size e
  generalize hhp : s.heap.push { cls := .type "list_iterator", data := .fields #[.ref l, .int 0 0] } = hp1
  have up0 : ∀ b o, s.heap.get? b = some o → b ≠ s.heap.objs.size := fun b o e => Nat.ne_of_lt (Heap.lt_size e)
  have e1 : ∀ b o, s.heap.get? b = some o → hp1.get? b = some o := fun b o e => by rw [← hhp]; exact Heap.get?_push_of_some _ e
  have it1 : hp1.IsListIter s.heap.objs.size l 0 := by rw [← hhp]; exact ⟨_, Heap.get?_push_size _ rfl, rfl, rfl⟩
  have sz1 : hp1.objs.size = s.heap.objs.size + 1 := by rw [← hhp, Heap.size_push]
  have up1 : ∀ b o, s.heap.get? b = some o → hp1.objs.size ≠ b := fun b o e => by
    rw [sz1]
    exact Nat.ne_of_gt (Nat.lt_succ_of_lt (Heap.lt_size e))
  refine wpAny_bind (wpAny_newObj_type ?_)
  rw [maxLoopName]
  refine wpAny_pure ⟨plainId_quiet PySem.F.plain_max_loop _, codeAny_builtin PySem.F.entry_max_loop ?_⟩
  rw [Around.under_plainId PySem.F.plain_max_loop]
  have hS : (hp1.push { cls := .type "list", data := .seq ([] : List Value).toArray }).get? hp1.objs.size = some { cls := .type "list", data := .seq #[] 0 } := Heap.get?_push_size _ rfl
  have e2 : ∀ b o, s.heap.get? b = some o → (hp1.push { cls := .type "list", data := .seq ([] : List Value).toArray }).get? b = some o := fun b o e => Heap.get?_push_of_some _ (e1 b o e)
  have it2 : (hp1.push { cls := .type "list", data := .seq ([] : List Value).toArray }).IsListIter s.heap.objs.size l 0 := it1.at fun o e => Heap.get?_push_of_some _ e
  generalize hp1.push { cls := .type "list", data := .seq ([] : List Value).toArray } = hp2 at hS e2 it2
  show wpAny _ A.in1 (seqItems? (.ref hp1.objs.size) >>= _) _ _ _
  refine wpAny_bind (wpAny_seqItems hS rfl ?_)
  show wpAny _ A.in1 (tryCatch (pyNext (.ref s.heap.objs.size)) _ >>= _) _ _ _
  refine wpAny_bind (wpAny_tryCatch (wpAny_pyNext_list_item it2 (hl.at fun o e => e2 _ o e) h0 fun h3 it3 sb => ?_))
  have neS : hp1.objs.size ≠ s.heap.objs.size := by rw [sz1]; omega
  have hS3 := sb.extBut _ _ neS hS
  have e3 : ∀ b o, s.heap.get? b = some o → h3.get? b = some o := fun b o e => sb.extBut _ _ (up0 _ _ e) (e2 _ _ e)
  show wpAny _ A.in1 (tryCatch (holding [xs[0]] (call (.builtin kid) [xs[0]])) _ >>= _) _ _ _
  refine wpAny_bind (wpAny_tryCatch (wpAny_holding (turn 0 _ _ _ _ h0 e3 fun k0 h4 t4 e34 hK => ?_)))
  have hS4 := e34 _ _ hS3
  show wpAny _ A.in1 (updateSeq hp1.objs.size (fun _ => #[xs[0], k0]) >>= _) _ _ _
  refine wpAny_bind (wpAny_updateSeq hS4 rfl ?_)
  rw [maxLoopName]
  have e5 : ∀ b o, s.heap.get? b = some o → (h4.update hp1.objs.size (Obj.mapSeq fun _ => #[xs[0], k0])).get? b = some o := fun b o e => (Heap.get?_update_other _ _ (up1 _ _ e)).trans (e34 _ _ (e3 b o e))
  refine wpAny_pure ⟨plainId_quiet PySem.F.plain_max_loop _, maxK_loop (xs := xs) hh (Nat.ne_of_lt hlt) neS (fun h => ∀ b o, s.heap.get? b = some o → h.get? b = some o) (fun i v h => KV i v h ∧ ∀ b o, s.heap.get? b = some o → h.get? b = some o) lt (fun h h' g k b o e => k b o (up1 _ _ e).symm (up0 _ _ e) (g b o e))
    (fun i v h h' kv k => ⟨kk i v h h' kv.1 fun b o e => k b o (up1 _ _ e).symm (up0 _ _ e) (kv.2 b o e), fun b o e => k b o (up1 _ _ e).symm (up0 _ _ e) (kv.2 b o e)⟩)
    (fun h g => hl.at fun o e => g _ o e) (fun j v s1 Q E hv g q' => turn j v s1 Q E hv g fun k h' t' ex kv => q' k h' t' ex ⟨kv, fun b o e => ex b o (g b o e)⟩) (fun i j ki kj s1 Q E hi hj g q' => less i j ki kj s1 Q E hi.1 hj.1 g q') _ 1 0 xs[0] k0 _ _ rfl hn h0 ((it3.at fun o e => e34 _ o e).at fun o e => (Heap.get?_update_other _ _ neS).trans e) e5 ⟨kk 0 k0 _ _ hK e5, e5⟩ (Heap.get?_update_self _ hS4 rfl) fun v h6 t6 hv e6 => ?_⟩
  exact q v h6 t6 hv fun b o e => e6 b o (up1 _ _ e).symm (up0 _ _ e) (e5 b o e)
end
/-! max(xs, key=sum), xs a list of tuples of ints -/
def sumLt (R : List (List Int)) (j i : Nat) : Bool := decide ((R.getD i []).sum < (R.getD j []).sum)
def rMaxSum (K : PySem.W.Frag) : List V → Hp → VK → Prop := fun vs H Q => ∃ (a : Addr) (R : List (Addr × List Int)), vs = [V.ref a] ∧ SqL K H a (R.map fun q => V.ref q.1) ∧ (∀ q ∈ R, SqT K H q.1 (q.2.map V.int)) ∧ 0 < R.length ∧
  ∀ q, R[bestI (sumLt (R.map (·.2))) (R.length - 1) 1 0]? = some q → Q (.ref q.1) H
theorem refsI : ∀ {R : List (Addr × List Int)} {its : List Value}, Vals (R.map fun q => V.ref q.1) its → its = R.map fun q => Value.ref q.1
  | [], _, .nil => rfl
  | q :: R, _, .cons r t => by
    have e : _ = Value.ref q.1 := r
    rw [e, refsI t]; rfl
theorem call_maxSum {X : Cx} (hc : X.calm = true) {pins : List (Addr × Obj)} {s : Shared} {σ : L2.St} {H : Hp} {vs : List V} {us : List Value} {Q : VK} (I : Inv X pins σ H s) (r : Vals vs us) (h : rMaxSum X.K vs H Q) :
    wpAny (model X.prog X.w) X.A (call (.builtin "max") us [(Str.ofString "key", .builtin "sum")]) (EP X pins σ Q) X.xe s := by
  obtain ⟨a, R, rfl, hs, hR, hl, q⟩ := h
  obtain ⟨its, rv, hp, hz⟩ := I.list hs
  have hits := refsI rv
  rw [Vals.ref1 r]
  subst hits
  have at_ : ∀ {j : Nat} {v : Value}, (R.map fun q => Value.ref q.1).toArray[j]? = some v → ∃ q, R[j]? = some q ∧ v = .ref q.1 := fun {j v} h => by
    have h' : (R.map fun q => Value.ref q.1)[j]? = some v := by simpa using h
    rw [List.getElem?_map] at h'
    cases hq : R[j]? with
    | none => rw [hq] at h'; cases h'
    | some q => rw [hq] at h'; exact ⟨q, rfl, (Option.some.inj h').symm⟩
  have gd : ∀ {j : Nat} {q : Addr × List Int}, R[j]? = some q → (R.map (·.2)).getD j [] = q.2 := fun {j q} h => by rw [List.getD_eq_getElem?_getD, List.getElem?_map, h]; rfl
  refine maxK_call (I.ok.hd hc) hp.isList (by simpa using hl) (fun i v _ => ∃ t, v = .int ((R.map (·.2)).getD i []).sum t) (sumLt (R.map (·.2))) (fun i v h h' kv _ => kv) (fun j v s1 Q' E' hv g q' => ?_) (fun i j ki kj s1 Q' E' hi hj g q' => ?_) fun v h' t' hv k => ?_
  · obtain ⟨qj, hq, rfl⟩ := at_ hv
    obtain ⟨its1, w1, t1, _⟩ := I.tuple (hR qj (List.mem_of_getElem? hq))
    exact callSumT (A := X.A.in1) (its := its1.toArray) (ns := qj.2) (I.ok.hd hc) (let ⟨o, e, c⟩ := t1; ⟨o, g _ _ e, c⟩) (intsAre_of w1) fun h' tk t' hk => q' _ h' tk hk ⟨t', by rw [gd hq]⟩
  · exact CmpOf.ints_gt (P := fun i v => ∃ t, v = .int (((R.map fun q : Addr × List Int => q.2).getD i []).sum) t) (fun i => ((R.map fun q : Addr × List Int => q.2).getD i []).sum) (fun i v h => h) j i _ _ _ _ _ hj hi q'
  · have hv' : (R.map fun q => Value.ref q.1).toArray[bestI (sumLt (R.map (·.2))) (R.length - 1) 1 0]? = some v := by simpa using hv
    obtain ⟨qv, hq, rfl⟩ := at_ hv'
    exact ⟨.ref qv.1, H, I.kept k, rfl, q qv hq⟩
theorem k_maxSum {X : Cx} {K : PySem.W.Frag} {p pos p2 kpos : Pos} {e : Expr} {t : TA} (hK : X.K = K) (hc : X.calm = true) (hg : Gl X "max") (hm : X.mg "max" = none) (hgl : Gl X "sum") (hml : X.mg "sum" = none) (ha : PA X [e] t)
    (he : backTo pos (starEach [e] X.env) = (false, eval e X.env) :: backTo pos (starEach [] X.env) := by rfl) (hpl : (backTo pos (starEach [e] X.env)).any (·.1) = false := by rfl) :
    PE X (.Call (.Name "max" p) [e] [⟨some (Str.ofString "key"), .Name "sum" p2, kpos⟩] pos) (tCB (rMaxSum K) t) := by
  subst hK
  refine ⟨fun pins s σ H Q I h => ?_⟩
  refine wpAny_Call_Name_kw (ld_blt I hg hm (by rfl) ?_ (by decide) (by decide))
  refine PyProof.Rows.callWith_kw (thn (ha.run pos pins s σ H _ I h) fun us s1 ⟨vs, H1, I1, r1, q1⟩ => ?_) he hpl (by rfl) (by rfl)
  show wpAny _ _ (evalAll ((do let v ← eval (.Name "sum" p2) X.env; standAt pos; pure v) :: [])) _ _ s1
  refine wpAny_evalAll_cons (wpAny_bind (ld_blt I1 hgl hml (by rfl) (wpAny_bind (wpAny_standAt (wpAny_pure ?_))) (by decide) (by decide)))
  exact wpAny_evalAll_nil (call_maxSum hc I1 r1 q1)
section
variable {c : Ct} {Γ : List (Option Rs)} {te : TE} {k : Kd}
theorem bo_tups {c : Ct} {H : Hp} : ∀ {R : List (List Int)} {xs : List V}, BoAll c H xs (R.map tupD) → ∃ P : List (Addr × List Int), xs = P.map (fun q => V.ref q.1) ∧ R = P.map (·.2) ∧ ∀ q ∈ P, SqT c.K H q.1 (q.2.map V.int) ∧ Bo c H (.ref q.1) (tupD q.2)
  | [], _, .nil => ⟨[], rfl, rfl, fun q h => by cases h⟩
  | r :: R, _, .cons b t => by
    obtain ⟨P, e1, e2, h⟩ := bo_tups t
    have b0 := b
    obtain ⟨p, ys, rfl, sq, al⟩ := b.tup'
    have := al.ints
    subst this
    refine ⟨(p, r) :: P, by rw [e1]; rfl, by rw [e2]; rfl, fun q hq => ?_⟩
    rcases List.mem_cons.mp hq with w | w
    · rw [w]; exact ⟨sq.sq, b0⟩
    · exact h q w
/-- max(xs, key=sum): the first one of the greatest sum -/
theorem e_maxSum {R : List (List Int)} (h : Ev c te Γ k (.list (R.map tupD))) (hl : 0 < R.length) {r : List Int} (hb : R[bestI (sumLt R) (R.length - 1) 1 0]? = some r) : Ev c (tCB (rMaxSum c.K) (tCons te tNil)) Γ .v (tupD r) := fun H0 O H σ e Q q =>
  h H0 O H σ e _ fun v H1 r1 s1 => by
    obtain ⟨p, xs, rfl, _, s, al⟩ := (Res.bo e s1).lst'
    obtain ⟨P, rfl, rfl, hP⟩ := bo_tups al
    refine ⟨p, P, rfl, s, fun q hq => (hP q hq).1, by simpa using hl, fun z hz => ?_⟩
    rw [List.length_map, List.getElem?_map, hz] at hb
    have er := Option.some.inj hb
    subst er
    exact q _ H1 r1 (Bo.flatM e r1 (flatT _) (hP z (List.mem_of_getElem? hz)).2)
end
/-- the best place is the first one with the greatest value -/
theorem bestI_first {f : Nat → Int} {lt : Nat → Nat → Bool} (hlt : ∀ j i, lt j i = decide (f i < f j)) : ∀ (k j i : Nat), i < j → (∀ m, m < j → f m ≤ f i ∧ (m < i → f m < f i)) →
    bestI lt k j i < j + k ∧ ∀ m, m < j + k → f m ≤ f (bestI lt k j i) ∧ (m < bestI lt k j i → f m < f (bestI lt k j i))
  | 0, j, i, hi, h => ⟨by simpa [bestI] using hi, fun m hm => h m (by omega)⟩
  | k + 1, j, i, hi, h => by
    have step : ∀ i', i' < j + 1 → (∀ m, m < j + 1 → f m ≤ f i' ∧ (m < i' → f m < f i')) → bestI lt k (j + 1) i' < j + (k + 1) ∧ ∀ m, m < j + (k + 1) → f m ≤ f (bestI lt k (j + 1) i') ∧ (m < bestI lt k (j + 1) i' → f m < f (bestI lt k (j + 1) i')) := fun i' a b => by
      have := bestI_first hlt k (j + 1) i' a b
      rw [show j + 1 + k = j + (k + 1) by omega] at this
      exact this
    show bestI lt k (j + 1) (if lt j i = true then j else i) < _ ∧ _
    by_cases q : lt j i = true
    · rw [if_pos q]
      show _ ∧ ∀ m, m < j + (k + 1) → f m ≤ f (bestI lt k (j + 1) (if lt j i = true then j else i)) ∧ (m < bestI lt k (j + 1) (if lt j i = true then j else i) → f m < f (bestI lt k (j + 1) (if lt j i = true then j else i)))
      rw [if_pos q]
      rw [hlt] at q
      have q := of_decide_eq_true q
      refine step j (by omega) fun m hm => ?_
      by_cases e : m = j
      · subst e; exact ⟨Int.le_refl _, fun w => absurd w (Nat.lt_irrefl _)⟩
      · have := (h m (by omega)).1
        exact ⟨by omega, fun _ => by omega⟩
    · rw [if_neg q]
      show _ ∧ ∀ m, m < j + (k + 1) → f m ≤ f (bestI lt k (j + 1) (if lt j i = true then j else i)) ∧ (m < bestI lt k (j + 1) (if lt j i = true then j else i) → f m < f (bestI lt k (j + 1) (if lt j i = true then j else i)))
      rw [if_neg q]
      rw [hlt, decide_eq_true_eq] at q
      refine step i (by omega) fun m hm => ?_
      by_cases e : m = j
      · subst e; exact ⟨by omega, fun w => by omega⟩
      · exact h m (by omega)
end Lm


/-! itertools.combinations(list, k) -/
namespace CmbK
open PySem PySem.Spec PyProof.Rows L2
theorem meets_newL (r : Addr) (vs : List Value) (k : Nat) (tk0 : Tok) (hn : vs.length ≤ 1000) (hk : k ≤ 1000) :
    Meets (Builtin.«itertools.combinations.__new__» ⟨[.type "itertools.combinations", .ref r, .int k tk0], []⟩)
      (fun A R s => A.handled = none ∧ s.heap.IsList r vs.toArray ∧ ∀ (h' : Heap) (tk : Nat), (∀ b o, s.heap.get? b = some o → h'.get? b = some o) →
        R (.ok (.ret (.ref (h'.objs.size + 1)))) { s with heap := (h'.push { cls := .type "tuple", data := .seq vs.toArray }).push { cls := .type "itertools.combinations", data := .fields (cells h'.objs.size (if vs.length < k then 2 else 0) .none (List.range k)) }, toks := tk }) :=
  .of_wp fun prog w A R s h => by
    obtain ⟨hp, g, dd, tk, os⟩ := s
    obtain ⟨hh, hr, h⟩ := h
    have hsub := sub_c
    have hd := noDict_c
    have col : ∀ {A' : Around} {E : Value → Shared → Prop} {Q : List Value → Shared → Prop}, A'.handled = none → (∀ (h' : Heap) (tk : Nat), (∀ b o, hp.get? b = some o → h'.get? b = some o) → Q vs ⟨h', g, dd, tk, os⟩) → wpAny (model prog w) A' (collect (.ref r)) Q E ⟨hp, g, dd, tk, os⟩ :=
      fun hh' q => collect_list hr (q _ tk fun b o z => (Heap.get?_update_other _ _ (Nat.ne_of_gt (Heap.lt_size z))).trans (Heap.get?_push_of_some _ z)) (by rw [sizeLine_eq]; omega)
    have name : ("itertools." ++ "combinations" : String) = "itertools.combinations" := by decide
    wp_walk using @col
    rw [name]
    refine wpAny_of_eq hsub ?_
    simp only [Bool.not_true, Bool.false_eq_true, if_false]
    wp_walk using @col
    rw [if_neg (by simp only [Bool.or_eq_true, decide_eq_true_eq]; omega)]
    refine wpAny_pure ?_
    refine wpAny_bind (col hh fun h' tk' hk => ?_)
    have big : Builtin.Itertools.itTooMany (k : Int) = false := decide_eq_false (by omega)
    rw [if_neg (by omega), big]
    simp only [Bool.false_eq_true, if_false]
    refine wpAny_bind (wpAny_newTuple (wpAny_pure ?_))
    refine wpAny_bind ?_
    unfold Builtin.Itertools.itNewRecord
    simp only [hd]
    simp only [Bool.not_false, if_true]
    refine wpAny_newObj_type ?_ (show Array.size _ ≤ sizeLine + 2 by rw [List.size_toArray, List.length_append, List.length_map, List.length_range, Int.toNat_natCast, sizeLine_eq]; simp only [List.length_cons, List.length_nil]; omega)
    refine wpAny_pure ⟨_, rfl, ?_⟩
    have w := h h' tk' hk
    have e1 : (h'.push { cls := .type "tuple", data := .seq vs.toArray }).objs.size = h'.objs.size + 1 := Heap.size_push ..
    rw [e1, Int.toNat_natCast]
    exact w
end CmbK


/-! for t in itertools.combinations(xs, k), xs a list -/
namespace Lm
open PySem PySem.Spec PyProof.Rows L2 CmbK
def pickV (vs : List V) (ks : List Nat) : List V := ks.map fun i => vs.getD i .non
def ItcL (vs : List V) (seq : List (List Nat)) : It where
  go := fun i _ => i < seq.length
  yld := fun i H v H' => ∃ (T : Addr) (o : Obj) (ks : List Nat), seq[i]? = some ks ∧ v = .ref T ∧ o.dict = none ∧ H T = none ∧ H' = upd H T (.frz o (.tup (pickV vs ks)))
  stop := fun i _ => i = seq.length
theorem vals_picksL {vs : List V} {xs : Array Value} (hx : Vals vs xs.toList) : ∀ {ks : List Nat}, (∀ i ∈ ks, i < vs.length) → Vals (pickV vs ks) (picks xs ks)
  | [], _ => .nil
  | k :: ks, h => by
    refine .cons ?_ (vals_picksL hx fun i hi => h i (List.mem_cons_of_mem _ hi))
    have hk : k < vs.length := h k (by simp)
    obtain ⟨u, hu, r⟩ := hx.get (List.getElem?_eq_getElem hk)
    have hu' : xs[k]? = some u := by simpa using hu
    show RelV (vs.getD k .non) (xs.getD k .none)
    rw [Array.getD_eq_getD_getElem?, hu', Option.getD_some, List.getD_eq_getElem?_getD, List.getElem?_eq_getElem hk, Option.getD_some]
    exact r
theorem turnCmbL {P : Program} {w : World} {K : PySem.W.Frag} {tg : Expr} {it T : Addr} {n k : Nat} {seq : List (List Nat)} {vs : List V} {xs : Array Value} (hvn : vs.length = n) (ok : PlacesOk n k seq) (hk : k ≤ 1000) (hx : Vals vs xs.toList) :
    Turn P w K tg (ItcL vs seq) [it, T] it fun i h => ∃ bf st ks, IsCmb h it T st bf ks ∧ h.IsTuple T xs ∧ ((i = 0 ∧ st = 0 ∧ seq[0]? = some ks) ∨ (∃ j, i = j + 1 ∧ st = 1 ∧ seq[j]? = some ks) ∨ (seq = [] ∧ st = 2)) where
  mem := List.mem_cons_self
  obj := by
    rintro i h ⟨bf, st, ks, hz, ⟨o, ho, hc, m, hd⟩, _⟩ c hc'
    have e' : c = it ∨ c = T := by simpa using hc'
    rcases e' with q | q
    · rw [q]; exact ⟨_, hz, fun v q => nomatch q⟩
    · rw [q]; exact ⟨o, ho, fun v q => by rw [hd] at q; cases q⟩
  keep := by
    rintro i h h' ⟨bf, st, ks, hz, ⟨o, ho, r⟩, cs⟩ kk
    exact ⟨bf, st, ks, kk it (by simp) _ hz, ⟨o, kk T (by simp) _ ho, r⟩, cs⟩
  item := by
    intro X hP hw hK hc i pins s σ H E I hf ⟨bf, st, ks, hz, hT, cs⟩ hgo
    subst hP hw hK
    have hgo' : i < seq.length := hgo
    obtain ⟨ls, hls⟩ : ∃ ls, seq[i]? = some ls := ⟨_, List.getElem?_eq_getElem hgo'⟩
    obtain ⟨ll, lr⟩ := ok.len ls (List.mem_of_getElem? hls)
    have lx : xs.size = n := by rw [← Array.length_toList, ← hx.length, hvn]
    have lt : it < s.heap.objs.size := Heap.lt_size hz
    have ltT : T < s.heap.objs.size := by obtain ⟨o, ho, _⟩ := id hT; exact Heap.lt_size ho
    have neT := notT hz hT
    have step : ∀ {E' : Value → Shared → Prop} {Q : Value → Shared → Prop}, (∀ h', IsCmb h' it T 1 (.ref s.heap.objs.size) ls → h'.get? s.heap.objs.size = some { cls := .type "tuple", data := .seq (picks xs ls).toArray } → h'.objs.size = s.heap.objs.size + 1 →
        (∀ c o, c ≠ it → s.heap.get? c = some o → h'.get? c = some o) → Q (.ref s.heap.objs.size) { s with heap := h' }) →
        wpAny (model X.prog X.w) X.A.in1 (Builtin.«itertools.combinations.__next__» ⟨[.ref it], []⟩) (fun fin s' => ∃ v, fin = .done (.ret v) ∧ Q v s') E' s := fun {E' Q} hQ => by
      rcases cs with ⟨rfl, rfl, h0⟩ | ⟨j, rfl, rfl, hj⟩ | ⟨rfl, _⟩
      · rw [h0] at hls
        cases Option.some.inj hls
        exact turn_first (by omega) hz hT hQ
      · exact turn_next (by omega) hz hT (by rw [lx, ok.next j ks hj]; exact hls) hQ
      · simp at hgo'
    refine py_next hz fun E' => step fun h' z t nn kk => ⟨_, rfl, go_of (s := { s with heap := h' }) z rfl rfl (by decide) ?_⟩
    have I1 : Inv X pins σ (upd H s.heap.objs.size (.frz { cls := .type "tuple", data := .seq (picks xs ls).toArray } (.tup (pickV vs ls)))) { s with heap := h' } :=
      I.turnedNew (t' := s.toks) (ch := [it]) (fun c o hb q => kk c o (fun q' => hb (by simp [q'])) q) (fun c hc => hf c (by simp at hc; simp [hc])) (Nat.le_refl _)
        ⟨t, by unfold pickV; rw [List.length_map, sizeLine_eq]; omega, picks xs ls, vals_picksL hx (by rw [hvn]; exact lr), ⟨_, t, rfl, _, rfl⟩⟩
    refine ⟨.ref s.heap.objs.size, _, I1, rfl, ⟨_, _, ls, hls, rfl, rfl, I.hok.fresh (Nat.le_refl _), rfl⟩, ⟨_, 1, ls, z, let ⟨o, ho, r⟩ := hT; ⟨o, kk _ _ neT ho, r⟩, .inr (.inl ⟨i, rfl, rfl, hls⟩)⟩, fun c hc => ?_⟩
    have lc : c < s.heap.objs.size := by
      have e' : c = it ∨ c = T := by simpa using hc
      rcases e' with q | q
      · rw [q]; exact lt
      · rw [q]; exact ltT
    rw [upd_ne (Nat.ne_of_lt lc)]
    exact (hf c hc).1
  done := by
    intro X hP hw hK hc i pins s σ H E I hf ⟨bf, st, ks, hz, hT, cs⟩ hst
    subst hP hw hK
    have hst' : i = seq.length := hst
    have lx : xs.size = n := by rw [← Array.length_toList, ← hx.length, hvn]
    refine py_end (I.ok.hd hc) hz hT ?_ fun h' kk => ⟨rfl, I.turnedL (t' := s.toks) (ch := [it, T]) (fun c o hb q => kk c o (fun q' => hb (by simp [q'])) q) hf⟩
    rcases cs with ⟨rfl, rfl, h0⟩ | ⟨j, rfl, rfl, hj⟩ | ⟨_, rfl⟩
    · rw [List.getElem?_eq_none (by omega)] at h0; cases h0
    · exact .inl ⟨rfl, by rw [lx, ok.next j ks hj, List.getElem?_eq_none (by omega)]⟩
    · exact .inr rfl
  self := fun A i s Q E ⟨bf, st, ks, hz, _⟩ h => py_iter hz h
/-- a list and a number: all places of so many of its items -/
def iCombL (K : PySem.W.Frag) (ta : TA) : TI := fun σ H R => ta σ H fun us H1 => ∃ (p : Addr) (vs : List V) (k : Nat) (seq : List (List Nat)), us = [.ref p, .int k] ∧ SqL K H1 p vs ∧ vs.length ≤ 1000 ∧ k ≤ 1000 ∧ PlacesOk vs.length k seq ∧ R (ItcL vs seq) H1
theorem pi_combL {X : Cx} {tg e e2 : Expr} {x : Str} {ta : TA} {p pos : Pos} (hc : X.calm = true) (hg : Gl X x) (hm : X.mg x = some (.type "itertools.combinations")) (ha : PA X [e, e2] ta) (hdb : (x == ("__debug__" : Str)) = false := by decide)
    (hs : starEach [e, e2] X.env = (false, eval e X.env) :: starEach [e2] X.env := by rfl) (hpl : (backTo pos (starEach [e2] X.env)).any (·.1) = false := by rfl) :
    PI X tg (.Call (.Name x p) [e, e2] [] pos) (iCombL X.K ta) := by
  refine ⟨fun pins s σ H R I h => ?_⟩
  refine wpAny_Call_Name_kw (ld_glob I hg hm (PyProof.Rows.callWith_type1 (thn (ha.run pos pins s σ H _ I h) fun us s1 ⟨vs, H1, I1, r1, q1⟩ => ?_) hs hpl) hdb)
  obtain ⟨a, zs, k, seq, ev, hp, hn, hk, ok, q⟩ := q1
  subst ev
  cases r1 with
  | cons ra rr =>
    cases rr with
    | cons rb rr =>
      cases rr
      cases ra
      obtain ⟨tk0, rfl⟩ := rb
      obtain ⟨its, rv, hl, _⟩ := I1.list hp
      have li : its.length = zs.length := rv.length.symm
      refine callType_new called_c (by decide +kernel) (tcall_c _ _) (ncall_c _ _) (fun obj => PySem.F.args_object_init_3 obj _ _) entryN_c (meets_newL a its k tk0 (by omega) hk) ⟨I1.ok.hd hc, hl.isList, fun h' tk kk => ?_⟩
      have e1 : (h'.push { cls := .type "tuple", data := .seq its.toArray }).objs.size = h'.objs.size + 1 := Heap.size_push ..
      have gT : (h'.push { cls := .type "tuple", data := .seq its.toArray }).get? h'.objs.size = some { cls := .type "tuple", data := .seq its.toArray } := Heap.get?_push_size _ rfl
      have gI : ((h'.push { cls := .type "tuple", data := .seq its.toArray }).push { cls := .type "itertools.combinations", data := .fields (cells h'.objs.size (if its.length < k then 2 else 0) .none (List.range k)) }).get? (h'.objs.size + 1) = some { cls := .type "itertools.combinations", data := .fields (cells h'.objs.size (if its.length < k then 2 else 0) .none (List.range k)) } := by
        rw [← e1]
        exact Heap.get?_push_size _ rfl
      have gT2 : ((h'.push { cls := .type "tuple", data := .seq its.toArray }).push { cls := .type "itertools.combinations", data := .fields (cells h'.objs.size (if its.length < k then 2 else 0) .none (List.range k)) }).get? h'.objs.size = some { cls := .type "tuple", data := .seq its.toArray } := Heap.get?_push_of_some _ gT
      have up : ∀ b o, s1.heap.get? b = some o → ((h'.push { cls := .type "tuple", data := .seq its.toArray }).push { cls := .type "itertools.combinations", data := .fields (cells h'.objs.size (if its.length < k then 2 else 0) .none (List.range k)) }).get? b = some o := fun b o z => Heap.get?_push_of_some _ (Heap.get?_push_of_some _ (kk b o z))
      have I' : Inv X pins σ H1 { s1 with heap := h', toks := tk } := I1.kept kk
      generalize (h'.push { cls := .type "tuple", data := .seq its.toArray }).push { cls := .type "itertools.combinations", data := .fields (cells h'.objs.size (if its.length < k then 2 else 0) .none (List.range k)) } = hp2 at gI gT2 up
      have I2 : Inv X pins σ H1 { s1 with heap := hp2, toks := tk } := I1.kept up
      refine ⟨⟨_, gI, rfl⟩, py_iter gI ⟨h'.objs.size + 1, [h'.objs.size + 1, h'.objs.size], _, ItcL zs seq, H1, rfl, I2, turnCmbL (xs := its.toArray) rfl ok hk (by simpa using rv), ⟨.none, _, List.range k, gI, ⟨_, gT2, rfl, _, rfl⟩, ?_⟩, fun b hb => ?_, q⟩⟩
      · rcases ok.first with ⟨z, w⟩ | ⟨z, w⟩
        · exact .inr (.inr ⟨w, if_pos (by omega)⟩)
        · exact .inl ⟨rfl, if_neg (by omega), w⟩
      · have le : h'.objs.size ≤ b := by
          have e' : b = h'.objs.size + 1 ∨ b = h'.objs.size := by simpa using hb
          rcases e' with z | z
          · rw [z]; exact Nat.le_succ _
          · rw [z]; exact Nat.le_refl _
        exact I'.fpOk le (I'.hok.fresh le)
theorem walk_combL {vs : List V} {seq : List (List Nat)} : Walk (ItcL vs seq) seq.length (fun _ => True) fun i H v H' => ∃ (T : Addr) (o : Obj) (ks : List Nat), seq[i]? = some ks ∧ v = .ref T ∧ o.dict = none ∧ H T = none ∧ H' = upd H T (.frz o (.tup (pickV vs ks))) where
  goes := fun _ _ hi _ => hi
  stops := fun _ _ => rfl
  yields := fun _ _ _ _ _ _ h => h
section
variable {c : Ct} {Γ : List (Option Rs)} {te : TE} {kd : Kd}
def pickD (ds : List PyData) (ks : List Nat) : PyData := .tuple (ks.map fun i => ds.getD i .none)
theorem bo_pick {c : Ct} {H : Hp} {vs : List V} {ds : List PyData} (b : BoAll c H vs ds) : ∀ {ks : List Nat}, (∀ i ∈ ks, i < ds.length) → BoAll c H (pickV vs ks) (ks.map fun i => ds.getD i .none)
  | [], _ => .nil
  | k :: ks, h => by
    refine .cons ?_ (bo_pick b fun i hi => h i (List.mem_cons_of_mem _ hi))
    have hk : k < ds.length := h k (by simp)
    have hv : k < vs.length := by rw [b.len]; exact hk
    obtain ⟨d, hd, bd⟩ := b.get (List.getElem?_eq_getElem hv)
    show Bo c H (vs.getD k .non) (ds.getD k .none)
    rw [List.getD_eq_getElem?_getD, List.getElem?_eq_getElem hv, Option.getD_some, List.getD_eq_getElem?_getD, hd, Option.getD_some]
    exact bd
theorem flatD_of : ∀ {ds : List PyData}, flatAll ds = true → ∀ {d : PyData}, d ∈ ds → flatD d = true
  | [], _, _, h => by cases h
  | x :: ds, hf, d, h => by
    rw [flatAll, Bool.and_eq_true] at hf
    rcases List.mem_cons.mp h with rfl | h
    · exact hf.1
    · exact flatD_of hf.2 h
theorem boAll_flatM {c : Ct} {H0 H H2 : Hp} {O : List Addr} {σ : L2.St} {Γ : List (Option Rs)} (e : Env c H0 O H σ Γ) (r : Rr c H H2) : ∀ {vs : List V} {ds : List PyData}, flatAll ds = true → BoAll c H2 vs ds → BoAll c (mns H2 O) vs ds
  | _, _, _, .nil => .nil
  | _, _, hf, .cons b bs => by
    rw [flatAll, Bool.and_eq_true] at hf
    exact .cons (Bo.flatM e r hf.1 b) (boAll_flatM e r hf.2 bs)
theorem flat_pick {ds : List PyData} (hf : flatAll ds = true) {ks : List Nat} (h : ∀ i ∈ ks, i < ds.length) : flatAll (ks.map fun i => ds.getD i .none) = true := flatAll_mem fun d hd => by
  obtain ⟨i, hi, rfl⟩ := List.mem_map.mp hd
  rw [List.getD_eq_getElem?_getD, List.getElem?_eq_getElem (h i hi), Option.getD_some]
  exact flatD_of hf (List.getElem_mem (h i hi))
theorem pk_comb {X : Cx} {K : PySem.W.Frag} (hK : X.K = K) {tg e e2 : Expr} {x : Str} {ta : TA} {p pos : Pos} (hc : X.calm = true) (hg : Gl X x) (hm : X.mg x = some (.type "itertools.combinations")) (ha : PA X [e, e2] ta) (hdb : (x == ("__debug__" : Str)) = false := by decide)
    (hs : starEach [e, e2] X.env = (false, eval e X.env) :: starEach [e2] X.env := by rfl) (hpl : (backTo pos (starEach [e2] X.env)).any (·.1) = false := by rfl) :
    PI X tg (.Call (.Name x p) [e, e2] [] pos) (iCombL K ta) := hK ▸ pi_combL hc hg hm ha hdb hs hpl
/-- for t in combinations(xs, k), xs a list of flat things -/
theorem i_combL {k : Nat} {ds : List PyData} {seq : List (List Nat)} (h : Ev c te Γ kd (.list ds)) (hf : flatAll ds = true) (hn : ds.length ≤ 1000) (hk : k ≤ 1000) (ok : PlacesOk ds.length k seq) : EvI c (iCombL c.K (tCons te (tCons (tC (.int (k : Int))) tNil))) Γ true (seq.map fun ks => .d (pickD ds ks)) := fun H0 O H σ e R q =>
  h H0 O H σ e _ fun v H1 r s => by
    obtain ⟨p, xs, rfl, _, sl, al⟩ := (Res.bo e s).lst'
    have lx : xs.length = ds.length := al.len
    refine ⟨p, xs, k, seq, rfl, sl, by omega, hk, by rw [lx]; exact ok, ?_⟩
    have al2 : BoAll c (mns H1 O) xs ds := boAll_flatM e r hf al
    refine q _ _ r ⟨(e.on r).j, ?_⟩
    rw [List.length_map]
    refine walk_combL.mono (fun _ _ => trivial) fun i H' v H'' hi g w => ?_
    obtain ⟨T, o, ks, hks, rfl, ho, hT, rfl⟩ := w
    have kl := (ok.len ks (List.mem_of_getElem? hks)).2
    have sm : Same H' (upd H' T (.frz o (.tup (pickV xs ks)))) := fun b o z => by rw [upd_ne (ne_of_none z hT)]; exact z
    refine ⟨sm, .d (pickD ds ks), by rw [List.getElem?_map, hks]; rfl, .leaf (.inl ⟨by unfold pickD; rw [flatD]; exact flat_pick hf kl, .tup (.inl ⟨o, ho, upd_same⟩) ?_⟩)⟩
    exact ((bo_pick al2 kl).mono (e.on r).j g).same sm
end
end Lm


/-! cliques of entries, by their heights (k63) -/
namespace Lm
open PySem PySem.Spec PyProof.Rows L2 CmbK
def topI (h : List Int) (i : Nat) : List Int := [((i + 1 : Nat) : Int), h.getD i 0 - 1]
def topsL (h : List Int) : List (List Int) := ((List.range h.length).filter fun i => decide (0 < h.getD i 0)).map (topI h)
def prsB (F : List (List Int)) (es : List (List Int)) : Bool := (pairL es.length).all fun ks => togB F (es.getD (ks.getD 0 0) []) (es.getD (ks.getD 1 0) [])
def cliqB (F : List (List Int)) (h : List Int) : Bool := prsB F (topsL h)
def sp_is_clique (K : PySem.W.Frag) : Sp := spD K fun ds k d => ∃ (F : List (List Int)) (v : Nat) (h : List Int), ds = [.tuple (F.map tupD), tupD h] ∧ Fam F (v : Int) ∧ h.length = v - 1 ∧ (∀ x ∈ h, 0 ≤ x ∧ x ≤ 10) ∧ k = .v ∧ d = .bool (cliqB F h)
theorem mem_tops {h : List Int} {e : List Int} (he : e ∈ topsL h) (hn : ∀ x ∈ h, 0 ≤ x ∧ x ≤ 10) : ∃ (x y : Nat), e = [((x + 1 : Nat) : Int), (y : Int)] ∧ x < h.length ∧ h.getD x 0 = (y : Int) + 1 := by
  obtain ⟨i, hi, rfl⟩ := List.mem_map.mp he
  rw [List.mem_filter, List.mem_range, decide_eq_true_eq] at hi
  obtain ⟨y, hy⟩ := Int.eq_ofNat_of_zero_le (show 0 ≤ h.getD i 0 - 1 by omega)
  exact ⟨i, y, by unfold topI; rw [hy], hi.1, by omega⟩
theorem pair_ty {n : Nat} {ks : List Nat} (h : ks ∈ pairL n) : ∃ i j, ks = [i, j] ∧ i < n ∧ j < n := by
  obtain ⟨i, j, e, h1, h2⟩ := mem_pairL.mp h
  exact ⟨i, j, e, by omega, h2⟩
theorem enumS_at {h : List Int} : enumS 1 (h.map .int) = (List.range h.length).map fun i => Im.t [.d (.int ((i + 1 : Nat) : Int)), .d (.int (h.getD i 0))] := by
  unfold enumS
  refine List.ext_getElem (by simp) fun i h1 h2 => ?_
  have : i < h.length := by simpa using h2
  simp [List.getD_eq_getElem?_getD, List.getElem?_eq_getElem this]
/-- sets of entries that go together, each entry in turn -/
def wthB (F : List (List Int)) (e : List Int) (ch : List (List Int)) : Bool := ch.all (togB F e)
def grwS (F : List (List Int)) (found : List (List (List Int))) (e : List Int) : List (List (List Int)) := found ++ (found.filter (wthB F e)).map (· ++ [e])
def grwL (F R : List (List Int)) : List (List (List Int)) := R.foldl (grwS F) [[]]
def bigL (F R : List (List Int)) : Int := mxL ((grwL F R).map fun ch => (ch.length : Int))
theorem grw_ne (F : List (List Int)) : ∀ (R : List (List Int)) (S : List (List (List Int))), 0 < S.length → 0 < (R.foldl (grwS F) S).length
  | [], S, h => h
  | e :: R, S, h => by
    rw [List.foldl_cons]
    refine grw_ne F R _ ?_
    unfold grwS
    rw [List.length_append]
    omega
/-- one of each, one after another -/
def prodL (cs : List (List Int)) : List (List Int) := cs.foldl (fun rows c => rows.flatMap fun r => c.map fun x => r ++ [x]) [[]]
theorem prodL_snoc {cs : List (List Int)} {c : List Int} : prodL (cs ++ [c]) = (prodL cs).flatMap fun r => c.map fun x => r ++ [x] := by
  unfold prodL
  rw [List.foldl_append]
  rfl
theorem snoc_ind {P : List (List Int) → Prop} (h0 : P []) (h1 : ∀ cs c, P cs → P (cs ++ [c])) : ∀ n (cs : List (List Int)), cs.length = n → P cs
  | 0, cs, h => by
    match cs, h with
    | [], _ => exact h0
  | n + 1, cs, h => by
    have e : cs = cs.dropLast ++ [cs.getLast (by intro w; rw [w] at h; cases h)] := (List.dropLast_concat_getLast _).symm
    rw [e]
    exact h1 _ _ (snoc_ind h0 h1 n _ (by rw [List.length_dropLast]; omega))
theorem prodL_len {k : Nat} (cs : List (List Int)) : (∀ c ∈ cs, c.length ≤ k) → (prodL cs).length ≤ k ^ cs.length :=
  snoc_ind (P := fun cs => (∀ c ∈ cs, c.length ≤ k) → (prodL cs).length ≤ k ^ cs.length) (fun _ => by simp [prodL]) (fun cs c ih h => by
    have h1 := ih fun d hd => h d (by simp [hd])
    have hc := h c (by simp)
    rw [prodL_snoc, List.length_append, List.length_singleton, Nat.pow_succ]
    have : ∀ rows : List (List Int), (rows.flatMap fun r => c.map fun x => r ++ [x]).length = rows.length * c.length := fun rows => by
      induction rows with
      | nil => simp
      | cons r rows ih => rw [List.flatMap_cons, List.length_append, ih, List.length_map, List.length_cons, Nat.add_mul, Nat.one_mul, Nat.add_comm]
    rw [this]
    exact Nat.mul_le_mul h1 hc) _ cs rfl
theorem prodL_mem (cs : List (List Int)) : ∀ r ∈ prodL cs, r.length = cs.length ∧ ∀ i, i < cs.length → r.getD i 0 ∈ cs.getD i [] :=
  snoc_ind (P := fun cs => ∀ r ∈ prodL cs, r.length = cs.length ∧ ∀ i, i < cs.length → r.getD i 0 ∈ cs.getD i []) (fun r h => by
    have : r = [] := by simpa [prodL] using h
    subst this
    exact ⟨rfl, fun i hi => by cases hi⟩) (fun cs c ih r h => by
    rw [prodL_snoc] at h
    obtain ⟨q, hq, h⟩ := List.mem_flatMap.mp h
    obtain ⟨x, hx, rfl⟩ := List.mem_map.mp h
    obtain ⟨l, m⟩ := ih q hq
    refine ⟨by simp [l], fun i hi => ?_⟩
    by_cases e : i < cs.length
    · have a1 : (q ++ [x]).getD i 0 = q.getD i 0 := by rw [List.getD_eq_getElem?_getD, List.getElem?_append_left (by omega), ← List.getD_eq_getElem?_getD]
      have a2 : (cs ++ [c]).getD i [] = cs.getD i [] := by rw [List.getD_eq_getElem?_getD, List.getElem?_append_left e, ← List.getD_eq_getElem?_getD]
      rw [a1, a2]
      exact m i e
    · have ei : i = cs.length := by simp at hi; omega
      subst ei
      have a1 : (q ++ [x]).getD cs.length 0 = x := by rw [List.getD_eq_getElem?_getD, List.getElem?_append_right (by omega), l]; simp
      have a2 : (cs ++ [c]).getD cs.length [] = c := by rw [List.getD_eq_getElem?_getD, List.getElem?_append_right (Nat.le_refl _)]; simp
      rw [a1, a2]
      exact hx) _ cs rfl
def boxL (M : List Int) : List (List Int) := prodL (M.map fun m => upI 0 (m + 1).toNat)
theorem box_len {M : List Int} (hM : ∀ m ∈ M, 0 ≤ m ∧ m ≤ 10) (hl : M.length ≤ 4) : (boxL M).length ≤ 14641 := by
  have h1 := prodL_len (k := 11) (M.map fun m => upI 0 (m + 1).toNat) (fun c hc => by
    obtain ⟨m, hm, rfl⟩ := List.mem_map.mp hc
    have := hM m hm
    simp [upI]
    omega)
  rw [List.length_map] at h1
  have h2 : 11 ^ M.length ≤ 11 ^ 4 := Nat.pow_le_pow_right (by decide) hl
  unfold boxL
  omega
/-- good heights: as many entries as asked, all together -/
def okH (F : List (List Int)) (s : Int) (h : List Int) : Bool := decide (((entL h).length : Int) = s) && prsB F (entL h)
def hgtD : Option (List Int) → PyData
  | none => .none
  | some h => tupD h
end Lm


/-! cliques: the mathematics (k63) -/
namespace Lm
open PySem PySem.Spec PyProof.Rows L2
def enE (x y : Nat) : List Int := [((x + 1 : Nat) : Int), (y : Int)]
theorem us_en {r : List Int} {x y : Nat} : usB r (enE x y) = decide ((y : Int) < r.getD x 0) := by
  unfold usB enE
  simp
theorem en_inj {x y x' y' : Nat} : enE x y = enE x' y' ↔ x = x' ∧ y = y' := by
  unfold enE
  simp
  omega
theorem tog_iff {F : List (List Int)} {x y x' y' : Nat} : togB F (enE x y) (enE x' y') = true ↔ ¬ (x = x' ∧ y = y') ∧ ∃ r ∈ F, (y : Int) < r.getD x 0 ∧ (y' : Int) < r.getD x' 0 := by
  unfold togB
  rw [Bool.and_eq_true, Bool.not_eq_true', decide_eq_false_iff_not, en_inj, List.any_eq_true]
  refine and_congr Iff.rfl ⟨fun ⟨b, hb, w⟩ => ?_, fun ⟨r, hr, h1, h2⟩ => ⟨true, List.mem_map.mpr ⟨r, hr, ?_⟩, rfl⟩⟩
  · obtain ⟨r, hr, e⟩ := List.mem_map.mp hb
    rw [us_en, us_en] at e
    have : b = true := w
    rw [this, Bool.and_eq_true, decide_eq_true_eq, decide_eq_true_eq] at e
    exact ⟨r, hr, e⟩
  · rw [us_en, us_en, decide_eq_true h1, decide_eq_true h2]
    rfl
theorem prs_iff {F es : List (List Int)} : prsB F es = true ↔ es.Pairwise fun a b => togB F a b = true := by
  unfold prsB
  rw [List.all_eq_true, List.pairwise_iff_getElem]
  constructor
  · intro h i j hi hj hij
    have := h [i, j] (mem_pairL.mpr ⟨i, j, rfl, hij, hj⟩)
    simpa [List.getD_eq_getElem?_getD, List.getElem?_eq_getElem hi, List.getElem?_eq_getElem hj] using this
  · intro h ks hk
    obtain ⟨i, j, rfl, hij, hj⟩ := mem_pairL.mp hk
    have hi : i < es.length := by omega
    have := h i j hi hj hij
    simpa [List.getD_eq_getElem?_getD, List.getElem?_eq_getElem hi, List.getElem?_eq_getElem hj] using this
/-- heights that go together: each two of them below one row's shares -/
def CliqP (F : List (List Int)) (h : List Int) : Prop := ∀ x x', x < x' → x' < h.length → 0 < h.getD x 0 → 0 < h.getD x' 0 → ∃ r ∈ F, h.getD x 0 ≤ r.getD x 0 ∧ h.getD x' 0 ≤ r.getD x' 0
theorem top_en {h : List Int} {i : Nat} (hp : 0 < h.getD i 0) : topI h i = enE i (h.getD i 0 - 1).toNat := by
  unfold topI enE
  rw [Int.toNat_of_nonneg (by omega)]
theorem cliq_iff {F : List (List Int)} {h : List Int} : cliqB F h = true ↔ CliqP F h := by
  unfold cliqB topsL
  rw [prs_iff, List.pairwise_map, List.pairwise_filter]
  constructor
  · intro w x x' hx hx' h1 h2
    have := List.pairwise_iff_getElem.mp w x x' (by simp; omega) (by simpa using hx') hx
    simp only [List.getElem_range, decide_eq_true_eq] at this
    have := this h1 h2
    rw [top_en h1, top_en h2, tog_iff] at this
    obtain ⟨_, r, hr, a, b⟩ := this
    exact ⟨r, hr, by omega, by omega⟩
  · intro w
    rw [List.pairwise_iff_getElem]
    intro i j hi hj hij
    simp only [List.getElem_range, decide_eq_true_eq]
    intro h1 h2
    obtain ⟨r, hr, a, b⟩ := w i j hij (by simpa using hj) h1 h2
    rw [top_en h1, top_en h2, tog_iff]
    exact ⟨fun z => by omega, r, hr, by omega, by omega⟩
theorem mem_entI {i : Nat} {m : Int} {e : List Int} : e ∈ entI i m ↔ ∃ y : Nat, e = enE i y ∧ (y : Int) < m := by
  unfold entI enE
  simp only [List.mem_map, List.mem_range]
  constructor
  · rintro ⟨y, hy, rfl⟩
    exact ⟨y, rfl, by omega⟩
  · rintro ⟨y, rfl, hy⟩
    exact ⟨y, by omega, rfl⟩
theorem ent_prs {F : List (List Int)} {h : List Int} (top : ∀ x, x < h.length → 0 < h.getD x 0 → ∃ r ∈ F, h.getD x 0 ≤ r.getD x 0) : prsB F (entL h) = true ↔ CliqP F h := by
  rw [prs_iff]
  unfold entL
  rw [List.pairwise_flatMap]
  constructor
  · rintro ⟨_, w⟩ x x' hx hx' h1 h2
    have := List.pairwise_iff_getElem.mp w x x' (by simp; omega) (by simpa using hx') hx
    simp only [List.getElem_range] at this
    have t := this (enE x (h.getD x 0 - 1).toNat) (mem_entI.mpr ⟨_, rfl, by omega⟩) (enE x' (h.getD x' 0 - 1).toNat) (mem_entI.mpr ⟨_, rfl, by omega⟩)
    rw [tog_iff] at t
    obtain ⟨_, r, hr, a, b⟩ := t
    exact ⟨r, hr, by omega, by omega⟩
  · intro w
    refine ⟨fun x hx => ?_, ?_⟩
    · rw [List.mem_range] at hx
      unfold entI
      rw [List.pairwise_map]
      refine List.Pairwise.imp_of_mem (fun {a b} ha hb hab => ?_) List.pairwise_lt_range
      rw [List.mem_range] at ha hb
      obtain ⟨r, hr, hle⟩ := top x hx (by omega)
      exact tog_iff.mpr ⟨fun z => by omega, r, hr, by omega, by omega⟩
    · rw [List.pairwise_iff_getElem]
      intro i j hi hj hij a ha b hb
      simp only [List.getElem_range] at ha hb
      obtain ⟨y, rfl, hy⟩ := mem_entI.mp ha
      obtain ⟨y', rfl, hy'⟩ := mem_entI.mp hb
      obtain ⟨r, hr, p, q⟩ := w i j hij (by simpa using hj) (by omega) (by omega)
      exact tog_iff.mpr ⟨fun z => by omega, r, hr, by omega, by omega⟩
theorem ent_sum {h : List Int} (hn : ∀ x ∈ h, 0 ≤ x) : ((entL h).length : Int) = h.sum := by
  unfold entL
  have : ∀ n, n ≤ h.length → (((List.range n).flatMap fun i => entI i (h.getD i 0)).length : Int) = (h.take n).sum := fun n => by
    induction n with
    | zero => intro _; simp
    | succ n ih =>
      intro hl
      have lt : n < h.length := by omega
      rw [List.range_succ, List.flatMap_append, List.length_append, List.flatMap_singleton, Int.natCast_add, ih (by omega), List.take_add_one, List.getElem?_eq_getElem lt, Option.toList_some, List.sum_append]
      have : 0 ≤ h[n] := hn _ (List.getElem_mem lt)
      simp [entI, List.getD_eq_getElem?_getD, List.getElem?_eq_getElem lt]
      omega
  have w := this h.length (Nat.le_refl _)
  rwa [List.take_length] at w
theorem grwS_mem {F : List (List Int)} {S : List (List (List Int))} {e : List Int} {s : List (List Int)} : s ∈ grwS F S e ↔ s ∈ S ∨ ∃ t ∈ S, s = t ++ [e] ∧ ∀ o ∈ t, togB F e o = true := by
  unfold grwS wthB
  rw [List.mem_append, List.mem_map]
  refine or_congr Iff.rfl ⟨fun ⟨t, ht, h⟩ => ?_, fun ⟨t, ht, h, w⟩ => ⟨t, List.mem_filter.mpr ⟨ht, List.all_eq_true.mpr w⟩, h.symm⟩⟩
  obtain ⟨h1, h2⟩ := List.mem_filter.mp ht
  exact ⟨t, h1, h.symm, List.all_eq_true.mp h2⟩
/-- what is grown: the sublists whose entries go together -/
theorem grw_char (F : List (List Int)) : ∀ (R : List (List Int)) (S : List (List (List Int))) (ch : List (List Int)), ch ∈ R.foldl (grwS F) S ↔
    ∃ s ∈ S, ∃ t, t.Sublist R ∧ ch = s ++ t ∧ (t.Pairwise fun a b => togB F b a = true) ∧ ∀ a ∈ s, ∀ b ∈ t, togB F b a = true
  | [], S, ch => by
    constructor
    · intro h
      exact ⟨ch, h, [], List.Sublist.refl _, by simp, .nil, fun _ _ b hb => by cases hb⟩
    · rintro ⟨s, hs, t, ht, rfl, _⟩
      rw [List.sublist_nil.mp ht, List.append_nil]
      exact hs
  | e :: R, S, ch => by
    rw [List.foldl_cons, grw_char F R]
    constructor
    · rintro ⟨s, hs, t, ht, rfl, hp, hq⟩
      rcases grwS_mem.mp hs with w | ⟨u, hu, rfl, hw⟩
      · exact ⟨s, w, t, ht.cons e, rfl, hp, hq⟩
      · refine ⟨u, hu, e :: t, ht.cons_cons e, by simp, List.pairwise_cons.mpr ⟨fun b hb => hq e (by simp) b hb, hp⟩, fun a ha b hb => ?_⟩
        rcases List.mem_cons.mp hb with rfl | hb
        · exact hw a ha
        · exact hq a (by simp [ha]) b hb
    · rintro ⟨s, hs, t, ht, rfl, hp, hq⟩
      cases ht with
      | cons _ h => exact ⟨s, grwS_mem.mpr (.inl hs), t, h, rfl, hp, hq⟩
      | cons_cons _ h =>
        rename_i t
        obtain ⟨p1, p2⟩ := List.pairwise_cons.mp hp
        refine ⟨s ++ [e], grwS_mem.mpr (.inr ⟨s, hs, rfl, fun o ho => hq o ho e (by simp)⟩), t, h, by simp, p2, fun a ha b hb => ?_⟩
        rcases List.mem_append.mp ha with w | w
        · exact hq a w b (by simp [hb])
        · rw [List.mem_singleton.mp w]; exact p1 b hb
theorem tog_comm {F : List (List Int)} {a b : List Int} : togB F a b = togB F b a := by
  unfold togB
  congr 1
  · congr 1
    rw [decide_eq_decide]
    exact eq_comm
  · congr 2
    funext r
    exact Bool.and_comm _ _
theorem grw_iff {F R ch : List (List Int)} : ch ∈ grwL F R ↔ ch.Sublist R ∧ prsB F ch = true := by
  unfold grwL
  rw [grw_char, prs_iff]
  constructor
  · rintro ⟨s, hs, t, ht, rfl, hp, _⟩
    rw [List.mem_singleton.mp hs]
    exact ⟨by simpa using ht, by simpa using hp.imp fun h => by rw [tog_comm]; exact h⟩
  · rintro ⟨h1, h2⟩
    exact ⟨[], by simp, ch, h1, by simp, h2.imp fun h => by rw [tog_comm]; exact h, fun a ha => by cases ha⟩
theorem flat_sub {α β : Type} {f g : α → List β} : ∀ {l : List α}, (∀ a ∈ l, (f a).Sublist (g a)) → (l.flatMap f).Sublist (l.flatMap g)
  | [], _ => .refl _
  | a :: l, h => by
    rw [List.flatMap_cons, List.flatMap_cons]
    exact (h a (by simp)).append (flat_sub fun b hb => h b (by simp [hb]))
theorem ent_sub {h M : List Int} (hl : h.length = M.length) (hm : ∀ x, x < M.length → h.getD x 0 ≤ M.getD x 0) : (entL h).Sublist (entL M) := by
  unfold entL
  rw [hl]
  refine flat_sub fun x hx => ?_
  have := hm x (List.mem_range.mp hx)
  unfold entI
  exact (List.range_sublist.mpr (by omega)).map _
/-- no clique's heights sum up to more -/
theorem big_ge {F : List (List Int)} {h M : List Int} (hn : ∀ x ∈ h, 0 ≤ x) (hl : h.length = M.length) (hm : ∀ x, x < M.length → h.getD x 0 ≤ M.getD x 0) (top : ∀ x, x < h.length → 0 < h.getD x 0 → ∃ r ∈ F, h.getD x 0 ≤ r.getD x 0) (hc : CliqP F h) : h.sum ≤ bigL F (entL M) := by
  rw [← ent_sum hn]
  exact mxL_le _ (List.mem_map.mpr ⟨entL h, grw_iff.mpr ⟨ent_sub hl hm, (ent_prs top).mpr hc⟩, rfl⟩)
end Lm


/-! cliques: the greatest one has heights (k63) -/
namespace Lm
open PySem PySem.Spec PyProof.Rows L2
/-- the height of what ch has of place x -/
def hgt (ch : List (List Int)) (x : Nat) : Int := mxL (0 :: (ch.filter fun e => decide (e.getD 0 0 = ((x + 1 : Nat) : Int))).map fun e => e.getD 1 0 + 1)
theorem hgt_gt {ch : List (List Int)} {x y : Nat} (h : enE x y ∈ ch) : (y : Int) < hgt ch x := by
  have : (y : Int) + 1 ∈ (0 :: (ch.filter fun e => decide (e.getD 0 0 = ((x + 1 : Nat) : Int))).map fun e => e.getD 1 0 + 1) :=
    List.mem_cons_of_mem _ (List.mem_map.mpr ⟨enE x y, List.mem_filter.mpr ⟨h, by simp [enE]⟩, by simp [enE]⟩)
  have := mxL_le _ this
  unfold hgt
  omega
theorem hgt_is {ch : List (List Int)} (hc : ∀ e ∈ ch, ∃ x y : Nat, e = enE x y) {x : Nat} : hgt ch x = 0 ∨ ∃ y : Nat, enE x y ∈ ch ∧ hgt ch x = (y : Int) + 1 := by
  have h := mxL_mem (ns := 0 :: (ch.filter fun e => decide (e.getD 0 0 = ((x + 1 : Nat) : Int))).map fun e => e.getD 1 0 + 1) (by simp)
  rcases List.mem_cons.mp h with w | w
  · exact .inl w
  · obtain ⟨e, he, w⟩ := List.mem_map.mp w
    obtain ⟨h1, h2⟩ := List.mem_filter.mp he
    obtain ⟨x', y, rfl⟩ := hc e h1
    have h2 := of_decide_eq_true h2
    have : x' = x := by
      simp [enE] at h2
      omega
    subst this
    exact .inr ⟨y, h1, by unfold hgt; rw [← w]; simp [enE]⟩
theorem pair_tog {F ch : List (List Int)} (hp : ch.Pairwise fun a b => togB F a b = true) {a b : List Int} (ha : a ∈ ch) (hb : b ∈ ch) (ne : a ≠ b) : togB F a b = true := by
  obtain ⟨i, hi, rfl⟩ := List.getElem_of_mem ha
  obtain ⟨j, hj, rfl⟩ := List.getElem_of_mem hb
  rw [List.pairwise_iff_getElem] at hp
  by_cases h : i < j
  · exact hp i j hi hj h
  · by_cases e : i = j
    · subst e; exact absurd rfl ne
    · rw [tog_comm]; exact hp j i hj hi (by omega)
theorem big_le {F : List (List Int)} {M : List Int} (hM : ∀ m ∈ M, 0 ≤ m) : ∃ h : List Int, h.length = M.length ∧ (∀ x ∈ h, 0 ≤ x) ∧ (∀ x, x < M.length → h.getD x 0 ≤ M.getD x 0) ∧ CliqP F h ∧ bigL F (entL M) ≤ h.sum := by
  obtain ⟨ch, hch, hl⟩ := List.mem_map.mp (mxL_mem (ns := (grwL F (entL M)).map fun ch => (ch.length : Int)) (by rw [List.length_map]; exact grw_ne F _ _ (by decide)))
  obtain ⟨sub, prs⟩ := grw_iff.mp hch
  rw [prs_iff] at prs
  have inM : ∀ e ∈ ch, ∃ x y : Nat, e = enE x y ∧ x < M.length ∧ (y : Int) < M.getD x 0 := fun e he => by
    obtain ⟨x, y, e1, h1, h2⟩ := mem_ent.mp (sub.subset he)
    exact ⟨x, y, e1, h1, h2⟩
  have hc : ∀ e ∈ ch, ∃ x y : Nat, e = enE x y := fun e he => by
    obtain ⟨x, y, e1, _⟩ := inM e he
    exact ⟨x, y, e1⟩
  have at_ : ∀ x, x < M.length → ((List.range M.length).map (hgt ch)).getD x 0 = hgt ch x := fun x hx => by
    rw [List.getD_eq_getElem?_getD, List.getElem?_map, List.getElem?_range hx]
    rfl
  have nn : ∀ x ∈ (List.range M.length).map (hgt ch), 0 ≤ x := fun z hz => by
    obtain ⟨x, _, rfl⟩ := List.mem_map.mp hz
    rcases hgt_is hc (x := x) with w | ⟨y, _, w⟩ <;> omega
  refine ⟨(List.range M.length).map (hgt ch), by simp, nn, fun x hx => ?_, fun x x' hx hx' h1 h2 => ?_, ?_⟩
  · rw [at_ x hx]
    rcases hgt_is hc (x := x) with w | ⟨y, hy, w⟩
    · rw [w]; exact hM _ (gd_mem hx)
    · obtain ⟨a, b, e, _, hb⟩ := inM _ hy
      obtain ⟨rfl, rfl⟩ := en_inj.mp e
      omega
  · have hx2 : x' < M.length := by simpa using hx'
    rw [at_ x (by omega)] at h1 ⊢
    rw [at_ x' hx2] at h2 ⊢
    rcases hgt_is hc (x := x) with w | ⟨y, hy, w⟩
    · omega
    · rcases hgt_is hc (x := x') with w' | ⟨y', hy', w'⟩
      · omega
      · obtain ⟨_, r, hr, p, q⟩ := tog_iff.mp (pair_tog prs hy hy' fun z => by have := (en_inj.mp z).1; omega)
        exact ⟨r, hr, by omega, by omega⟩
  · show mxL _ ≤ _
    rw [← hl, ← ent_sum nn]
    have nd : ch.Nodup := prs.imp fun {a b} h e => by
      subst e
      unfold togB at h
      simp at h
    have := len_sub nd (bs := entL ((List.range M.length).map (hgt ch))) fun e he => by
      obtain ⟨x, y, rfl, hx, _⟩ := inM e he
      exact mem_ent.mpr ⟨x, y, rfl, by simpa using hx, by rw [at_ x hx]; exact hgt_gt he⟩
    omega
end Lm


/-! cliques: a greatest one has shares for heights (k63) -/
namespace Lm
open PySem PySem.Spec PyProof.Rows L2
def prdF (n : Nat) (f : Nat → List Int) : List (List Int) := prodL ((List.range n).map f)
theorem prdF_succ {n : Nat} {f : Nat → List Int} : prdF (n + 1) f = (prdF n f).flatMap fun r => (f n).map fun x => r ++ [x] := by
  unfold prdF
  rw [List.range_succ, List.map_append, List.map_singleton, prodL_snoc]
theorem prdF_mem {n : Nat} {f : Nat → List Int} {r : List Int} (h : r ∈ prdF n f) : r.length = n ∧ ∀ i, i < n → r.getD i 0 ∈ f i := by
  obtain ⟨a, b⟩ := prodL_mem _ r h
  rw [List.length_map, List.length_range] at a
  refine ⟨a, fun i hi => ?_⟩
  have := b i (by simpa using hi)
  rw [show ((List.range n).map f).getD i [] = f i by rw [List.getD_eq_getElem?_getD, List.getElem?_map, List.getElem?_range hi]; rfl] at this
  exact this
theorem prdF_filter {f : Nat → List Int} {p : Nat → Int → Bool} : ∀ n, prdF n (fun i => (f i).filter (p i)) = (prdF n f).filter fun h => (List.range n).all fun i => p i (h.getD i 0)
  | 0 => rfl
  | n + 1 => by
    rw [prdF_succ, prdF_succ, prdF_filter n, List.filter_flatMap]
    have : ∀ L : List (List Int), (∀ r ∈ L, r.length = n) → ((L.filter fun h => (List.range n).all fun i => p i (h.getD i 0)).flatMap fun r => ((f n).filter (p n)).map fun x => r ++ [x]) =
        L.flatMap fun r => ((f n).map fun x => r ++ [x]).filter fun h => (List.range (n + 1)).all fun i => p i (h.getD i 0) := fun L => by
      induction L with
      | nil => intro _; rfl
      | cons r L ih =>
        intro hl
        have rl := hl r (by simp)
        have e : ∀ x, ((List.range (n + 1)).all fun i => p i ((r ++ [x]).getD i 0)) = (((List.range n).all fun i => p i (r.getD i 0)) && p n x) := fun x => by
          rw [List.range_succ, List.all_append, List.all_cons, List.all_nil, Bool.and_true]
          congr 1
          · rw [Bool.eq_iff_iff, List.all_eq_true, List.all_eq_true]
            refine forall_congr' fun i => forall_congr' fun hi => ?_
            have := List.mem_range.mp hi
            rw [List.getD_eq_getElem?_getD, List.getElem?_append_left (by omega), ← List.getD_eq_getElem?_getD]
          · rw [List.getD_eq_getElem?_getD, List.getElem?_append_right (by omega), rl]
            simp
        rw [List.flatMap_cons, ← ih fun q hq => hl q (by simp [hq]), List.filter_map]
        have e2 : ((fun h : List Int => (List.range (n + 1)).all fun i => p i (h.getD i 0)) ∘ fun x => r ++ [x]) = fun x => ((List.range n).all fun i => p i (r.getD i 0)) && p n x := funext e
        rw [e2]
        cases q : (List.range n).all fun i => p i (r.getD i 0) with
        | true =>
          rw [List.filter_cons_of_pos (p := fun h : List Int => (List.range n).all fun i => p i (h.getD i 0)) q, List.flatMap_cons]
          simp
        | false =>
          rw [List.filter_cons_of_neg (p := fun h : List Int => (List.range n).all fun i => p i (h.getD i 0)) (by rw [q]; decide)]
          simp
    exact this _ fun r hr => (prdF_mem hr).1
/-- a clique that no one outdoes has shares for heights -/
theorem raise {F : List (List Int)} {h M : List Int} (hMx : ∀ x, x < M.length → ∃ r ∈ F, r.getD x 0 = M.getD x 0) (hMl : ∀ x, x < M.length → ∀ r ∈ F, r.getD x 0 ≤ M.getD x 0)
    (hn : ∀ x ∈ h, 0 ≤ x) (hl : h.length = M.length) (hm : ∀ x, x < M.length → h.getD x 0 ≤ M.getD x 0) (hc : CliqP F h) (hs : bigL F (entL M) ≤ h.sum) {x : Nat} (hx : x < M.length) : h.getD x 0 = 0 ∨ ∃ r ∈ F, r.getD x 0 = h.getD x 0 := by
  by_cases h0 : h.getD x 0 = 0
  · exact .inl h0
  · refine .inr (Classical.byContradiction fun no => ?_)
    have hx2 : x < h.length := by omega
    have hp : 0 ≤ h.getD x 0 := hn _ (gd_mem hx2)
    obtain ⟨r0, hr0, e0⟩ := hMx x hx
    have hle := hm x hx
    have ne : 0 < ((F.filter fun r => decide (h.getD x 0 ≤ r.getD x 0)).map fun r => - r.getD x 0).length := by
      rw [List.length_map]
      exact List.length_pos_of_mem (List.mem_filter.mpr ⟨hr0, decide_eq_true (by omega)⟩)
    obtain ⟨r, hr, er⟩ := List.mem_map.mp (mxL_mem ne)
    obtain ⟨rF, rx⟩ := List.mem_filter.mp hr
    have rx := of_decide_eq_true rx
    have least : ∀ q ∈ F, h.getD x 0 ≤ q.getD x 0 → r.getD x 0 ≤ q.getD x 0 := fun q hq hqx => by
      have := mxL_le _ (List.mem_map.mpr ⟨q, List.mem_filter.mpr ⟨hq, decide_eq_true hqx⟩, rfl⟩ : - q.getD x 0 ∈ (F.filter fun r => decide (h.getD x 0 ≤ r.getD x 0)).map fun r => - r.getD x 0)
      omega
    have gt : h.getD x 0 < r.getD x 0 := by
      by_cases e : r.getD x 0 = h.getD x 0
      · exact absurd ⟨r, rF, e⟩ no
      · omega
    have at_ : ∀ y, (h.set x (r.getD x 0)).getD y 0 = if y = x then r.getD x 0 else h.getD y 0 := fun y => by
      rw [List.getD_eq_getElem?_getD]
      by_cases e : y = x
      · subst e
        rw [if_pos rfl, List.getElem?_set_self hx2]; rfl
      · rw [if_neg e, List.getElem?_set_ne (fun w => e w.symm), ← List.getD_eq_getElem?_getD]
    have upM : ∀ y, y < M.length → (h.set x (r.getD x 0)).getD y 0 ≤ M.getD y 0 := fun y hy => by
      rw [at_]
      by_cases e : y = x
      · subst e; rw [if_pos rfl]; exact hMl y hy r rF
      · rw [if_neg e]; exact hm y hy
    have := big_ge (F := F) (h := h.set x (r.getD x 0)) (M := M) (fun z hz => by
        rcases List.mem_or_eq_of_mem_set hz with w | w
        · exact hn z w
        · rw [w]; omega) (by rw [List.length_set]; exact hl) upM (fun y hy h1 => by
        rw [List.length_set] at hy
        obtain ⟨q, hq, e⟩ := hMx y (by omega)
        exact ⟨q, hq, by have := upM y (by omega); omega⟩) (fun a b hab hb h1 h2 => by
        rw [List.length_set] at hb
        rw [at_] at h1 h2 ⊢
        rw [at_]
        by_cases ea : a = x
        · have eb : b ≠ x := by omega
          rw [if_neg eb] at h2 ⊢
          rw [if_pos ea]
          subst ea
          obtain ⟨q, hq, p1, p2⟩ := hc a b hab hb (by omega) h2
          exact ⟨q, hq, least q hq p1, p2⟩
        · rw [if_neg ea] at h1 ⊢
          by_cases eb : b = x
          · rw [if_pos eb]
            subst eb
            obtain ⟨q, hq, p1, p2⟩ := hc a b hab hb h1 (by omega)
            exact ⟨q, hq, p1, least q hq p2⟩
          · rw [if_neg eb] at h2 ⊢
            exact hc a b hab hb h1 h2)
    have sm : ∀ (l : List Int) (i : Nat) (z : Int), i < l.length → (l.set i z).sum = l.sum - l.getD i 0 + z := fun l => by
      induction l with
      | nil => intro i z hi; cases hi
      | cons a l ih =>
        intro i z hi
        match i, hi with
        | 0, _ => simp; omega
        | i + 1, hi =>
          have := ih i z (by simpa using hi)
          simp [List.set_cons_succ] at this ⊢
          omega
    have := sm h x (r.getD x 0) hx2
    omega
end Lm


/-! cliques: the first of the greatest sum (k63) -/
namespace Lm
open PySem PySem.Spec PyProof.Rows L2
theorem fnd_filter {α : Type} {a b : α → Bool} : ∀ X : List α, X.find? (fun h => a h && b h) = (X.filter a).find? b
  | [] => rfl
  | x :: X => by
    rw [List.find?_cons, fnd_filter X]
    cases h : a x with
    | true => rw [List.filter_cons_of_pos h, List.find?_cons]; rfl
    | false => rw [List.filter_cons_of_neg (by rw [h]; decide)]; rfl
theorem prdF_of {f : Nat → List Int} : ∀ n (h : List Int), h.length = n → (∀ i, i < n → h.getD i 0 ∈ f i) → h ∈ prdF n f
  | 0, h, hl, _ => by
    rw [List.eq_nil_of_length_eq_zero hl]
    simp [prdF, prodL]
  | n + 1, h, hl, hm => by
    have hn : n < h.length := by omega
    have e : h = h.take n ++ [h.getD n 0] := by
      conv => lhs; rw [← List.take_append_drop n h]
      congr 1
      rw [List.drop_eq_getElem_cons hn, List.drop_of_length_le (by omega), List.getD_eq_getElem?_getD, List.getElem?_eq_getElem hn]
      rfl
    rw [e, prdF_succ]
    refine List.mem_flatMap.mpr ⟨h.take n, prdF_of n _ (by rw [List.length_take]; omega) fun i hi => ?_, List.mem_map.mpr ⟨_, hm n (by omega), rfl⟩⟩
    rw [List.getD_eq_getElem?_getD, List.getElem?_take, if_pos hi, ← List.getD_eq_getElem?_getD]
    exact hm i (by omega)
theorem box_prd {M : List Int} : boxL M = prdF M.length fun i => upI 0 (M.getD i 0 + 1).toNat := by
  unfold boxL prdF
  congr 1
  refine List.ext_getElem (by simp) fun i h1 h2 => ?_
  have : i < M.length := by simpa using h1
  simp [List.getD_eq_getElem?_getD, List.getElem?_eq_getElem this]
theorem mem_up {n : Nat} {z : Int} : z ∈ upI 0 n ↔ 0 ≤ z ∧ z < n := by
  unfold upI
  rw [List.mem_map]
  constructor
  · rintro ⟨i, hi, rfl⟩
    have := List.mem_range.mp hi
    omega
  · rintro ⟨a, b⟩
    exact ⟨z.toNat, List.mem_range.mpr (by omega), by omega⟩
theorem mem_box {M h : List Int} (hM : ∀ m ∈ M, 0 ≤ m) : h ∈ boxL M ↔ h.length = M.length ∧ ∀ i, i < M.length → 0 ≤ h.getD i 0 ∧ h.getD i 0 ≤ M.getD i 0 := by
  rw [box_prd]
  constructor
  · intro w
    obtain ⟨a, b⟩ := prdF_mem w
    exact ⟨a, fun i hi => by have := mem_up.mp (b i hi); have := hM _ (gd_mem hi); omega⟩
  · rintro ⟨a, b⟩
    exact prdF_of _ h a fun i hi => mem_up.mpr (by have := b i hi; omega)
/-- shares of the family, and 0 -/
def shrB (F : List (List Int)) (x : Nat) (z : Int) : Bool := decide (z = 0) || F.any fun r => decide (r.getD x 0 = z)
def hgtL (F : List (List Int)) (M : List Int) (x : Nat) : List Int := (upI 0 (M.getD x 0 + 1).toNat).filter (shrB F x)
/-- the cliques among the heights that are shares -/
def clqL (F : List (List Int)) (M : List Int) : List (List Int) := (prdF M.length (hgtL F M)).filter (cliqB F)
theorem greatest_is {F : List (List Int)} {M : List Int} (hM : ∀ m ∈ M, 0 ≤ m) (hMx : ∀ x, x < M.length → ∃ r ∈ F, r.getD x 0 = M.getD x 0) (hMl : ∀ x, x < M.length → ∀ r ∈ F, r.getD x 0 ≤ M.getD x 0) :
    0 < (clqL F M).length ∧ ∀ r, (clqL F M)[bestI (sumLt (clqL F M)) ((clqL F M).length - 1) 1 0]? = some r → r.sum = bigL F (entL M) ∧ (boxL M).find? (okH F (bigL F (entL M))) = some r := by
  obtain ⟨s, es⟩ : ∃ s, s = bigL F (entL M) := ⟨_, rfl⟩
  obtain ⟨q, eq⟩ : ∃ q : List Int → Bool, q = fun h => (List.range M.length).all fun i => shrB F i (h.getD i 0) := ⟨_, rfl⟩
  have eL : clqL F M = (boxL M).filter fun h => q h && cliqB F h := by
    unfold clqL
    rw [show hgtL F M = fun i => (upI 0 (M.getD i 0 + 1).toNat).filter (shrB F i) from rfl, prdF_filter, ← box_prd, List.filter_filter, eq]
    congr 1
    funext h
    exact Bool.and_comm _ _
  have facts : ∀ h ∈ boxL M, (∀ x ∈ h, 0 ≤ x) ∧ h.length = M.length ∧ (∀ x, x < M.length → h.getD x 0 ≤ M.getD x 0) ∧ ∀ x, x < h.length → 0 < h.getD x 0 → ∃ r ∈ F, h.getD x 0 ≤ r.getD x 0 := fun h hh => by
    obtain ⟨a, b⟩ := (mem_box hM).mp hh
    refine ⟨fun z hz => ?_, a, fun x hx => (b x hx).2, fun x hx _ => ?_⟩
    · obtain ⟨i, hi, rfl⟩ := List.getElem_of_mem hz
      have := (b i (by omega)).1
      rwa [List.getD_eq_getElem?_getD, List.getElem?_eq_getElem hi] at this
    · obtain ⟨r, hr, e⟩ := hMx x (by omega)
      exact ⟨r, hr, by have := (b x (by omega)).2; omega⟩
  have le : ∀ h ∈ boxL M, cliqB F h = true → h.sum ≤ s := fun h hh hc => by
    obtain ⟨f1, f2, f3, f4⟩ := facts h hh
    rw [es]
    exact big_ge f1 f2 f3 f4 (cliq_iff.mp hc)
  have qof : ∀ h ∈ boxL M, cliqB F h = true → s ≤ h.sum → q h = true := fun h hh hc hs => by
    obtain ⟨f1, f2, f3, f4⟩ := facts h hh
    rw [eq]
    refine List.all_eq_true.mpr fun x hx => ?_
    have := raise hMx hMl f1 f2 f3 (cliq_iff.mp hc) (by rw [← es]; exact hs) (List.mem_range.mp hx)
    unfold shrB
    rcases this with w | ⟨r, hr, e⟩
    · rw [decide_eq_true w]; rfl
    · rw [List.any_eq_true.mpr ⟨r, hr, decide_eq_true e⟩, Bool.or_true]
  obtain ⟨h1, g1, g2, g3, g4, g5⟩ := big_le (F := F) hM
  have in1 : h1 ∈ boxL M := (mem_box hM).mpr ⟨g1, fun i hi => ⟨g2 _ (gd_mem (by omega)), g3 i hi⟩⟩
  have c1 := cliq_iff.mpr g4
  have inL : h1 ∈ clqL F M := by
    rw [eL]
    exact List.mem_filter.mpr ⟨in1, by rw [c1, qof h1 in1 c1 (by rw [es]; exact g5)]; rfl⟩
  have lp := List.length_pos_of_mem inL
  refine ⟨lp, fun r hr => ?_⟩
  obtain ⟨L, hL⟩ : ∃ L, L = clqL F M := ⟨_, rfl⟩
  rw [← hL] at inL lp hr eL
  obtain ⟨b1, b2⟩ := bestI_first (f := fun j => (L.getD j []).sum) (lt := sumLt L) (fun j i => rfl) (L.length - 1) 1 0 (by decide) (fun m hm => by
    have : m = 0 := by omega
    subst this
    exact ⟨Int.le_refl _, fun w => absurd w (Nat.lt_irrefl _)⟩)
  generalize bestI (sumLt L) (L.length - 1) 1 0 = t at hr b1 b2
  have ht : t < L.length := (List.getElem?_eq_some_iff.mp hr).1
  have rt : L.getD t [] = r := by rw [List.getD_eq_getElem?_getD, hr]; rfl
  have rL : r ∈ L := List.mem_of_getElem? hr
  obtain ⟨rb, rq⟩ := List.mem_filter.mp (eL ▸ rL)
  rw [Bool.and_eq_true] at rq
  have rle := le r rb rq.2
  have rge : s ≤ r.sum := by
    obtain ⟨i, hi, e⟩ := List.getElem_of_mem inL
    have := (b2 i (by omega)).1
    rw [rt, List.getD_eq_getElem?_getD, List.getElem?_eq_getElem hi, Option.getD_some, e] at this
    rw [es]
    omega
  rw [← es]
  refine ⟨by omega, ?_⟩
  have e1 : (boxL M).find? (okH F s) = (boxL M).find? fun h => (q h && cliqB F h) && decide (h.sum = s) := by
    have : ∀ X : List (List Int), (∀ h ∈ X, h ∈ boxL M) → X.find? (okH F s) = X.find? fun h => (q h && cliqB F h) && decide (h.sum = s) := fun X => by
      induction X with
      | nil => intro _; rfl
      | cons h X ih =>
        intro hX
        have hb := hX h (by simp)
        obtain ⟨f1, f2, f3, f4⟩ := facts h hb
        have : okH F s h = ((q h && cliqB F h) && decide (h.sum = s)) := by
          unfold okH
          rw [ent_sum f1, Bool.eq_iff_iff]
          simp only [Bool.and_eq_true, decide_eq_true_eq]
          rw [ent_prs f4, ← cliq_iff]
          exact ⟨fun ⟨a, b⟩ => ⟨⟨qof h hb b (by omega), b⟩, a⟩, fun ⟨⟨_, b⟩, a⟩ => ⟨a, b⟩⟩
        rw [List.find?_cons, List.find?_cons, this, ih fun k hk => hX k (by simp [hk])]
    exact this _ fun h hh => hh
  rw [e1, fnd_filter (a := fun h => q h && cliqB F h) (b := fun h : List Int => decide (h.sum = s)), ← eL]
  refine List.find?_eq_some_iff_getElem.mpr ⟨decide_eq_true (by omega), t, ht, (List.getElem?_eq_some_iff.mp hr).2, fun j hj => ?_⟩
  have := (b2 j (by omega)).2 hj
  rw [rt, List.getD_eq_getElem?_getD, List.getElem?_eq_getElem (by omega), Option.getD_some] at this
  rw [Bool.not_eq_true', decide_eq_false_iff_not]
  omega
theorem fam_box {F : List (List Int)} {v : Nat} (h : Fam F (v : Int)) : (gsL F (v - 1)).length = v - 1 ∧ (∀ m ∈ gsL F (v - 1), 0 ≤ m ∧ m ≤ 10) ∧ (∀ x, x < (gsL F (v - 1)).length → ∃ r ∈ F, r.getD x 0 = (gsL F (v - 1)).getD x 0) ∧ ∀ x, x < (gsL F (v - 1)).length → ∀ r ∈ F, r.getD x 0 ≤ (gsL F (v - 1)).getD x 0 := by
  have l1 := h.l1
  have ex : ∀ x, x < v - 1 → ∃ r ∈ F, r.getD x 0 = (gsL F (v - 1)).getD x 0 := fun x hx => by
    rw [gs_at hx]
    obtain ⟨r, hr, e⟩ := List.mem_map.mp (mxL_mem (ns := F.map fun r => r.getD x 0) (by rw [List.length_map]; omega))
    exact ⟨r, hr, e⟩
  refine ⟨gs_len, fun m hm => ?_, fun x hx => ex x (by rw [gs_len] at hx; exact hx), fun x hx r hr => ?_⟩
  · obtain ⟨i, hi, rfl⟩ := List.getElem_of_mem hm
    rw [gs_len] at hi
    obtain ⟨r, hr, e⟩ := ex i hi
    rw [List.getD_eq_getElem?_getD (l := gsL F (v - 1)), List.getElem?_eq_getElem (by rw [gs_len]; exact hi), Option.getD_some] at e
    rw [← e]
    have m := gd_mem (l := r) (j := i) (by have := (h.shr r hr).len; omega)
    exact ⟨(h.shr r hr).nn _ m, (h.shr r hr).le _ m⟩
  · rw [gs_len] at hx
    rw [gs_at hx]
    exact mxL_le _ (List.mem_map.mpr ⟨r, hr, rfl⟩)
def sp_all_heights (K : PySem.W.Frag) : Sp := spD K fun ds k d => ∃ (F : List (List Int)) (v : Nat), ds = [.tuple (F.map tupD)] ∧ Fam F (v : Int) ∧ k = .o ∧ d = .list ((prdF (gsL F (v - 1)).length (hgtL F (gsL F (v - 1)))).map tupD)
def sp_greatest_clique (K : PySem.W.Frag) : Sp := spD K fun ds k d => ∃ (F : List (List Int)) (v : Nat), ds = [.int (v : Int), .tuple (F.map tupD)] ∧ Fam F (v : Int) ∧ k = .v ∧ d = .tuple [.int (bigL F (entL (gsL F (v - 1)))), hgtD ((boxL (gsL F (v - 1))).find? (okH F (bigL F (entL (gsL F (v - 1))))))]
end Lm


/-! the heights of a place, ascending (k63) -/
namespace Lm
open PySem PySem.Spec PyProof.Rows L2
theorem up_pw (n : Nat) : (upI 0 n).Pairwise (· < ·) := by
  unfold upI
  rw [List.pairwise_map]
  exact List.pairwise_lt_range.imp fun h => by omega
theorem hgtL_sd {F : List (List Int)} {v : Nat} (h : Fam F (v : Int)) {x : Nat} (hx : x < v - 1) : hgtL F (gsL F (v - 1)) x = sdI (0 :: F.map fun r => r.getD x 0) := by
  obtain ⟨lM, hM, hMx, hMl⟩ := fam_box h
  refine asc_unique ((up_pw _).filter _) (sd_pw _) fun z => ?_
  have m0 := hM _ (gd_mem (l := gsL F (v - 1)) (j := x) (by omega))
  unfold hgtL
  rw [mem_sd, List.mem_filter, mem_up, List.mem_cons, List.mem_map]
  unfold shrB
  rw [Bool.or_eq_true, decide_eq_true_eq, List.any_eq_true]
  constructor
  · rintro ⟨_, w | ⟨r, hr, w⟩⟩
    · exact .inl w
    · exact .inr ⟨r, hr, of_decide_eq_true w⟩
  · rintro (w | ⟨r, hr, w⟩)
    · exact ⟨by omega, .inl w⟩
    · have := hMl x (by omega) r hr
      have p := (h.shr r hr).nn (r.getD x 0) (gd_mem (by have := (h.shr r hr).len; omega))
      exact ⟨by omega, .inr ⟨r, hr, decide_eq_true w⟩⟩
/-- set(xs), xs a list of ints; that the call answers so is still to be shown -/
def rSetLI (K : PySem.W.Frag) (w : World) : List V → Hp → VK → Prop := fun vs H Q => ∃ (l : Addr) (ns : List Int), vs = [.ref l] ∧ SqL K H l (ns.map V.int) ∧ ns.length ≤ 4000 ∧ ∀ (p : Addr) (n : Nat), H p = none → n ≤ ns.length → Q (.ref p) (upd H p (SetO w p (fun j => decide (j ∈ ns)) n))
section
variable {c : Ct} {Γ : List (Option Rs)} {te : TE} {k : Kd}
theorem e_sortSetL {w : World} {ns : List Int} (h : Ev c te Γ k (.list (ns.map .int))) (hl : ns.length < 64) : Ev c (tCB (rSortedSet w) (tCons (tCB (rSetLI c.K w) (tCons te tNil)) tNil)) Γ .o (.list ((sdI ns).map .int)) := fun H0 O H σ e Q q =>
  h H0 O H σ e _ fun v H1 r1 s1 => by
    obtain ⟨p, xs, rfl, _, s, al⟩ := (Res.bo e s1).lst'
    have := al.ints
    subst this
    refine ⟨p, ns, rfl, s, by omega, fun a n ha hn => ⟨a, _, n, rfl, upd_same, by omega, fun ms b pm mem hl' hb => ?_⟩⟩
    have e1 : ms = sdI ns := asc_unique pm (sd_pw ns) fun x => by rw [mem x, mem_sd]; simp
    subst e1
    have sm0 : Same H1 (upd H1 a (SetO w a (fun j => decide (j ∈ ns)) n)) := fun x o z => by rw [upd_ne (ne_of_none z ha)]; exact z
    have sm1 : Same (upd H1 a (SetO w a (fun j => decide (j ∈ ns)) n)) (upd (upd H1 a (SetO w a (fun j => decide (j ∈ ns)) n)) b (.lst ((sdI ns).map V.int))) := fun x o z => by rw [upd_ne (ne_of_none z hb)]; exact z
    have r2 := r1.tr (Rr.same sm0)
    refine q _ _ (r2.tr (Rr.same sm1)) ⟨[b], .lst upd_same (.leaves (flatAll_ints _) (BoAll.ofInts _)), by simp, fun x hx => ?_⟩
    rw [List.mem_singleton.mp hx]
    exact r2.back e.jH hb
end
end Lm


/-! set(a list of ints), its order known -/
namespace Lm
open PySem PySem.Spec PyProof.Rows L2
/-- the object that set.__new__ makes -/
abbrev setNw (w : World) : Obj := ⟨.type "set", none, .set #[] 0 (.fresh 0 0 (!w.params.followText "set-order")), #[]⟩
section
variable {P : Program} {w : World} {A : Around} {E : Value → Shared → Prop} {z : Shared}
theorem call_set_lstI {p : Addr} {us : Array Value} (ks : List Int) {Q : Value → Shared → Prop} (h0 : A.handled = none) (ip : z.heap.IsList p us) (ii : IntsAre us.toList ks) (lb : ks.length + 1 < scanBound)
    (fin : ∀ (g : Heap) (tk m : Nat), SetR w g z.heap.objs.size (fun j => decide (j ∈ ks)) m → m ≤ ks.length → (∀ b o, z.heap.get? b = some o → g.get? b = some o) → Q (.ref z.heap.objs.size) { z with heap := g, toks := tk }) :
    wpAny (model P w) A (call (.type "set") [.ref p]) Q E z := by
  have eu : us.size = ks.length := by
    have := IntsAre.length ii
    simpa using this
  obtain ⟨d1, d2, q1⟩ := F.called_set.mro
  have q2 := F.called_set.made
  have q3 := F.called_set.sub
  refine wpAny_call (codeAny_of_tree (show wpAny _ _ (callAny (.type "set") _) _ _ _ from wpAny_pure ⟨Code.quiet_builtin _ (by decide +kernel), codeAny_builtin F.entry_type_call ?_⟩))
  rw [Around.under_plain (weight_type_call_type "set" [.ref p] []) rfl]
  have q4 := F.called_set.notType
  have q5 := F.called_set.canCreate
  have q6 := F.typeCall_set_1 (.ref p)
  repeat (any_goals (first | assumption | wp_step))
  refine codeAny_mono (code_set_led1 (.ref p) (E := E) (Q₁ := fun x y => x = .ref z.heap.objs.size ∧ y = { z with heap := z.heap.push (setNw w) }) ⟨rfl, rfl⟩) fun r y hr => ?_
  match r, hr with
  | .error _, hr => exact hr
  | .ok (.ret x), hr =>
    obtain ⟨rfl, rfl⟩ := hr
    have oS : (z.heap.push (setNw w)).get? z.heap.objs.size = some (setNw w) := Heap.get?_push_size _ rfl
    have tS : Shared.TypeIs { z with heap := z.heap.push (setNw w) } (.ref z.heap.objs.size) "set" := ⟨_, oS, rfl⟩
    have q7 := F.called_set.init.lookup
    have q8 := F.called_set.init.bind (.ref z.heap.objs.size)
    repeat (any_goals (first | assumption | wp_step))
    refine codeAny_mono (codeAny_call_builtin (R := wants (fun r y => r = .none ∧ ∃ g tk m, y = { z with heap := g, toks := tk } ∧ SetR w g z.heap.objs.size (fun j => decide (j ∈ ks)) m ∧ m ≤ ks.length ∧ ∀ b o, z.heap.get? b = some o → g.get? b = some o) E) F.called_set.init.plain F.entry_set_init (check_set_init_1 tS ?_)) fun r y hr => ?_
    · obtain ⟨⟨oc, od, oa, os⟩, op, o1, o2, o3⟩ := ip
      simp only at o1 o3
      subst o1 o3
      have op' : (z.heap.push (setNw w)).get? p = some { cls := .type "list", dict := od, data := .seq us o2, slots := os } := Heap.get?_push_of_some _ op
      have q9 := F.sub_list_set
      have q10 := F.sub_list_frozenset
      have q11 : (Value.type "list" == Value.type "dict") = false := by decide
      have ip1 : (z.heap.push (setNw w)).IsList p us := ⟨_, op', rfl, o2, rfl⟩
      have pS : p < z.heap.objs.size := Heap.lt_size op
      have sz1 : (z.heap.push (setNw w)).objs.size = z.heap.objs.size + 1 := Heap.size_push ..
      unfold Builtin.«set.__init__» noKeywords Builtin.Frozenset.updateFrom
      generalize hPI : pyIter = PI
      wp_walk
      subst hPI
      refine wpAny_pyIter_list ip1 (wpAny_bind (wpAny_runValue ?_))
      have h3 : A.in1.in1.in1.handled = none := by simp [h0]
      have ne1 : p ≠ (z.heap.push (setNw w)).objs.size := fun e => Nat.ne_of_lt (Nat.lt_succ_of_lt pS) (e.trans sz1)
      have nf : z.heap.objs.size ∉ [(z.heap.push (setNw w)).objs.size, p] := by
        intro hm
        rcases List.mem_cons.mp hm with e | e
        · exact Nat.ne_of_lt (Nat.lt_succ_self _) (e.trans sz1)
        · exact Nat.ne_of_gt pS (List.mem_singleton.mp e)
      refine set_update_ints ((Walks.list h3 _ p ne1 us).toS) z.heap.objs.size nf ks eu lb (fun i v hv => ?_) (us.size - 0) 0 _ (by omega) (Nat.zero_le _) ⟨⟨_, Heap.get?_push_size _ rfl, rfl, rfl⟩, ip1.push _⟩ ⟨0, Nat.le_refl 0, setR_new_at (Heap.get?_push_of_some _ oS)⟩ fun y m hm hl hS => ?_
      · have hi : i < ks.length := eu ▸ (Array.getElem?_eq_some_iff.mp hv).1
        obtain ⟨t, e⟩ := IntsAre.int_at ii i v (by rw [Array.getElem?_toList]; exact hv)
        exact ⟨ks[i], t, List.getElem?_eq_getElem hi, by rw [e, List.getD_eq_getElem?_getD, List.getElem?_eq_getElem hi, Option.getD_some]⟩
      · obtain ⟨g, g2, d3, tk, g4⟩ := y
        have e1 : g2 = z.gens := hm.gens
        have e2 : d3 = z.drawn := hm.drawn
        have e3 : g4 = z.os := hm.os
        subst e1 e2 e3
        show wpAny _ _ _ _ _ _
        refine wpAny_pure ?_
        show wpAny _ _ (ret Value.none) _ _ _
        refine wpAny_pure ⟨rfl, g, tk, m, rfl, hS, by omega, fun b o e => ?_⟩
        have b0 : b < z.heap.objs.size := Heap.lt_size e
        refine hm.heap b o (fun hb => ?_) (Heap.get?_push_of_some _ (Heap.get?_push_of_some _ e))
        rcases List.mem_cons.mp hb with e | e
        · exact Nat.ne_of_lt b0 e
        · exact Nat.ne_of_lt (Nat.lt_succ_of_lt b0) ((List.mem_singleton.mp e).trans sz1)
    · match r, hr with
      | .error _, hr => exact hr
      | .ok (.ret x), hr =>
        obtain ⟨rfl, g, tk, m, rfl, hS, hl, hk⟩ := hr
        repeat (any_goals (first | assumption | wp_step))
        exact fin _ _ _ hS hl hk
      | .ok (.next), hr => exact hr.elim
end
section
variable {X : Cx}
theorem cr_setLI (hc : X.calm = true) : CallR X (.type "set") (rSetLI X.K X.w) := by
  intro pins s σ H vs us Q I r h
  obtain ⟨l, ns, rfl, hq, hl, q⟩ := h
  rw [Vals.ref1 r]
  obtain ⟨its, rv, pl, hz⟩ := I.list hq
  have hn : H s.heap.objs.size = none := I.hok.fresh (Nat.le_refl _)
  refine call_set_lstI ns (I.ok.hd hc) pl.isList (by simpa using ints_of_vals rv) (by unfold scanBound; omega) fun g tk n hS hn' hk => ?_
  exact ⟨.ref s.heap.objs.size, _, I.laid (t' := tk) hk (Nat.le_refl _) (setO_new hS), rfl, q _ n hn hn'⟩
theorem k_setLI {K : PySem.W.Frag} (hK : X.K = K) (hc : X.calm = true) : CallR X (.type "set") (rSetLI K X.w) := hK ▸ cr_setLI hc
end
end Lm


/-! calm histories, all of them, in order (k48) -/
namespace Lm
open PySem PySem.Spec PyProof.Rows L2
variable {v b : Int} {s : List Int} {A : List (List Int)} {k : Nat} {t : List (List Int)} {r : List Int}
/-- tables in order -/
def TLe : List (List Int) → List (List Int) → Prop
  | [], [] => True
  | a :: h, b :: t => (a.length = b.length ∧ lexLe a b ∧ a ≠ b) ∨ (a = b ∧ TLe h t)
  | _, _ => False
theorem TLe.rf : ∀ {h : List (List Int)}, TLe h h
  | [] => trivial
  | _ :: _ => .inr ⟨rfl, TLe.rf⟩
theorem TLe.app {x y : List Int} : ∀ {h t : List (List Int)}, TLe h t → h.length = t.length → (h = t → TLe [x] [y]) → TLe (h ++ [x]) (t ++ [y])
  | [], [], _, _, e => e rfl
  | a :: h, b :: t, w, l, e => by
    rcases w with w | ⟨rfl, w⟩
    · exact .inl w
    · exact .inr ⟨rfl, TLe.app w (by simpa using l) fun q => e (by rw [q])⟩
  | [], _ :: _, w, _, _ => w.elim
  | _ :: _, [], w, _, _ => w.elim
end Lm


/-! the first colouring: x = xs.pop() + 1, the search, its end (k65, k67) -/
namespace Lm
open PySem PySem.Spec PyProof.Rows L2
section
variable {c : Ct} {Γ : List (Option Rs)} {P : Out → Prop} {u : TS}
end
/-! ### colourings, in order -/
/-- all tuples of n numbers below m, in order -/
def colL (m : Nat) : Nat → List (List Nat)
  | 0 => [[]]
  | n + 1 => (colL m n).flatMap fun c => (List.range m).map fun x => c ++ [x]
/-- what coexists has different numbers -/
def okC (tg : Nat → Nat → Bool) (c : List Nat) : Bool := (List.range c.length).all fun k => (List.range k).all fun j => !(decide (c.getD j 0 = c.getD k 0) && tg k j)
def firC (n m : Nat) (tg : Nat → Nat → Bool) : Option (List Nat) := (colL m n).find? (okC tg)
theorem mem_col {m : Nat} : ∀ {n : Nat} {d : List Nat}, d ∈ colL m n ↔ d.length = n ∧ ∀ x ∈ d, x < m
  | 0, d => by
    unfold colL
    rw [List.mem_singleton]
    constructor
    · rintro rfl; exact ⟨rfl, by simp⟩
    · rintro ⟨h, _⟩; exact List.eq_nil_of_length_eq_zero h
  | n + 1, d => by
    unfold colL
    rw [List.mem_flatMap]
    constructor
    · rintro ⟨c, hc, hd⟩
      obtain ⟨x, hx, rfl⟩ := List.mem_map.mp hd
      obtain ⟨h1, h2⟩ := mem_col.mp hc
      refine ⟨by simp [h1], fun y hy => ?_⟩
      rcases List.mem_append.mp hy with w | w
      · exact h2 y w
      · rw [List.mem_singleton.mp w]; exact List.mem_range.mp hx
    · rintro ⟨h1, h2⟩
      have hne : d ≠ [] := by intro e; rw [e] at h1; simp at h1
      refine ⟨d.dropLast, mem_col.mpr ⟨by simp [h1], fun x hx => h2 x ((List.dropLast_subset _ hx))⟩, ?_⟩
      exact List.mem_map.mpr ⟨d.getLast hne, List.mem_range.mpr (h2 _ (List.getLast_mem hne)), List.dropLast_concat_getLast hne⟩
/-- c, as far as it goes, is not behind d -/
def PLe : List Nat → List Nat → Prop
  | [], _ => True
  | _ :: _, [] => False
  | a :: c, x :: d => a < x ∨ (a = x ∧ PLe c d)
/-- c is before d, at some place that both have -/
def PLt : List Nat → List Nat → Prop
  | a :: c, x :: d => a < x ∨ (a = x ∧ PLt c d)
  | _, _ => False
theorem ple_split : ∀ {c d : List Nat} {p : Nat}, PLe (c ++ [p]) d → (∃ x r, d = c ++ x :: r ∧ p ≤ x) ∨ PLt c d
  | [], [], p, h => h.elim
  | [], x :: d, p, h => by
    rcases h with h | ⟨h, _⟩
    · exact .inl ⟨x, d, rfl, by omega⟩
    · exact .inl ⟨x, d, rfl, by omega⟩
  | a :: c, [], p, h => h.elim
  | a :: c, x :: d, p, h => by
    rcases h with h | ⟨rfl, h⟩
    · exact .inr (.inl h)
    · rcases ple_split h with ⟨y, r, rfl, w⟩ | w
      · exact .inl ⟨y, r, rfl, w⟩
      · exact .inr (.inr ⟨rfl, w⟩)
theorem plt_snoc : ∀ {c d : List Nat} {a : Nat}, PLt (c ++ [a]) d → PLe (c ++ [a + 1]) d
  | [], [], _, h => h.elim
  | [], x :: d, a, h => by
    rcases h with h | ⟨_, h⟩
    · by_cases e : a + 1 = x
      · exact .inr ⟨e, trivial⟩
      · exact .inl (by omega)
    · cases d <;> exact h.elim
  | b :: c, [], _, h => h.elim
  | b :: c, x :: d, a, h => by
    rcases h with h | ⟨e, h⟩
    · exact .inl h
    · exact .inr ⟨e, plt_snoc h⟩
theorem ple_pre : ∀ {c d r : List Nat}, d = c ++ r → PLe c d
  | [], _, _, _ => trivial
  | a :: c, _, r, rfl => .inr ⟨rfl, ple_pre rfl⟩
theorem plt_ple : ∀ {c d : List Nat}, PLt c d → PLe c d
  | [], _, h => h.elim
  | a :: c, [], h => h.elim
  | a :: c, x :: d, h => by
    rcases h with h | ⟨e, h⟩
    · exact .inl h
    · exact .inr ⟨e, plt_ple h⟩
theorem plt_app2 : ∀ {c d r s : List Nat}, PLt c d → PLt (c ++ r) (d ++ s)
  | [], _, _, _, h => h.elim
  | a :: c, [], _, _, h => h.elim
  | a :: c, x :: d, r, s, h => by
    rcases h with h | ⟨e, h⟩
    · exact .inl h
    · exact .inr ⟨e, plt_app2 h⟩
theorem plt_last {c : List Nat} {x y : Nat} (h : x < y) : PLt (c ++ [x]) (c ++ [y]) := by
  induction c with
  | nil => exact .inl h
  | cons a c ih => exact .inr ⟨rfl, ih⟩
theorem col_pw (m : Nat) : ∀ n, (colL m n).Pairwise PLt
  | 0 => List.pairwise_singleton ..
  | n + 1 => by
    unfold colL
    rw [List.pairwise_flatMap]
    refine ⟨fun r _ => ?_, (col_pw m n).imp fun {a b} h x hx y hy => ?_⟩
    · rw [List.pairwise_map]
      exact List.pairwise_lt_range.imp fun h => plt_last h
    · obtain ⟨i, _, rfl⟩ := List.mem_map.mp hx
      obtain ⟨j, _, rfl⟩ := List.mem_map.mp hy
      exact plt_app2 h
variable {n m : Nat} {tg : Nat → Nat → Bool} {c d : List Nat}
theorem okC_iff : okC tg c = true ↔ ∀ k, k < c.length → ∀ j, j < k → c.getD j 0 = c.getD k 0 → tg k j = false := by
  unfold okC
  rw [List.all_eq_true]
  constructor
  · intro h k hk j hj e
    have := List.all_eq_true.mp (h k (List.mem_range.mpr hk)) j (List.mem_range.mpr hj)
    rw [decide_eq_true e, Bool.true_and, Bool.not_eq_true'] at this
    exact this
  · intro h k hk
    refine List.all_eq_true.mpr fun j hj => ?_
    by_cases e : c.getD j 0 = c.getD k 0
    · rw [h k (List.mem_range.mp hk) j (List.mem_range.mp hj) e, Bool.and_false]; rfl
    · rw [decide_eq_false e, Bool.false_and]; rfl
theorem gd_app {c r : List Nat} {j : Nat} (h : j < c.length) : (c ++ r).getD j 0 = c.getD j 0 := by
  rw [List.getD_eq_getElem?_getD, List.getElem?_append_left h, ← List.getD_eq_getElem?_getD]
theorem okC_pre {r : List Nat} (h : okC tg (c ++ r) = true) : okC tg c = true := okC_iff.mpr fun k hk j hj e => okC_iff.mp h k (by simp; omega) j hj (by rw [gd_app (by omega), gd_app hk]; exact e)
/-- one more number -/
theorem okC_snoc {x : Nat} : okC tg (c ++ [x]) = true ↔ okC tg c = true ∧ ∀ j, j < c.length → c.getD j 0 = x → tg c.length j = false := by
  have el : (c ++ [x]).getD c.length 0 = x := by simp [List.getD_eq_getElem?_getD]
  constructor
  · intro h
    refine ⟨okC_pre h, fun j hj e => okC_iff.mp h c.length (by simp) j hj (by rw [gd_app hj, el]; exact e)⟩
  · rintro ⟨h, g⟩
    refine okC_iff.mpr fun k hk j hj e => ?_
    have hk' : k < c.length + 1 := by simpa using hk
    by_cases q : k = c.length
    · subst q
      rw [gd_app hj, el] at e
      exact g j hj e
    · rw [gd_app (by omega), gd_app (by omega)] at e
      exact okC_iff.mp h k (by omega) j hj e
theorem firC_some (h : firC n m tg = some c) : (c.length = n ∧ (∀ x ∈ c, x < m) ∧ okC tg c = true) ∧ ∀ d, d.length = n → (∀ x ∈ d, x < m) → okC tg d = true → PLe c d := by
  unfold firC at h
  obtain ⟨hok, i, hi, e, no⟩ := List.find?_eq_some_iff_getElem.mp h
  have hc := mem_col.mp (List.mem_of_find?_eq_some h)
  refine ⟨⟨hc.1, hc.2, hok⟩, fun d h1 h2 h3 => ?_⟩
  obtain ⟨j, hj, ed⟩ := List.getElem_of_mem (mem_col.mpr ⟨h1, h2⟩)
  by_cases q : j < i
  · have := no j q
    rw [ed, h3] at this
    cases this
  · by_cases q2 : j = i
    · subst q2
      rw [← ed, ← e]
      exact ple_pre (r := []) (by simp)
    · have := List.pairwise_iff_getElem.mp (col_pw m n) i j hi hj (by omega)
      rw [e, ed] at this
      exact plt_ple this
theorem firC_none : firC n m tg = none ↔ ∀ d, d.length = n → (∀ x ∈ d, x < m) → okC tg d = false := by
  unfold firC
  rw [List.find?_eq_none]
  constructor
  · intro h d h1 h2
    exact Bool.eq_false_iff.mpr (h d (mem_col.mpr ⟨h1, h2⟩))
  · intro h d hd
    obtain ⟨h1, h2⟩ := mem_col.mp hd
    rw [h d h1 h2]
    decide
/-! ### the search, place by place -/
/-- where the search stands: c so far, numbers from p on are tried next -/
structure SrC (n m : Nat) (tg : Nat → Nat → Bool) (c : List Nat) (p : Nat) : Prop where
  len : c.length ≤ n
  rng : ∀ x ∈ c, x < m
  ok : okC tg c = true
  pm : p ≤ m
  le : ∀ d, d.length = n → (∀ x ∈ d, x < m) → okC tg d = true → PLe c d ∧ (c.length < n → PLe (c ++ [p]) d)
/-- the first number from p on that fits -/
def freC (tg : Nat → Nat → Bool) (c : List Nat) (p m : Nat) : Option Nat := ((List.range (m - p)).map (· + p)).find? fun b => okC tg (c ++ [b])
theorem freC_none {p : Nat} (h : freC tg c p m = none) {b : Nat} (h1 : p ≤ b) (h2 : b < m) : okC tg (c ++ [b]) = false := by
  unfold freC at h
  have := List.find?_eq_none.mp h b (List.mem_map.mpr ⟨b - p, List.mem_range.mpr (by omega), by omega⟩)
  exact Bool.eq_false_iff.mpr this
theorem SrC.back {a : Nat} {p : Nat} (h : SrC n m tg (c ++ [a]) p) (hl : (c ++ [a]).length < n) (f : freC tg (c ++ [a]) p m = none) : SrC n m tg c (a + 1) := by
  have am := h.rng a (by simp)
  have cl : c.length < n := by simp at hl; omega
  refine ⟨by omega, fun x hx => h.rng x (by simp [hx]), okC_pre h.ok, by omega, fun d h1 h2 h3 => ?_⟩
  have key : PLe (c ++ [a + 1]) d := by
    rcases ple_split ((h.le d h1 h2 h3).2 hl) with ⟨x, r, rfl, hx⟩ | w
    · have xm := h2 x (by simp)
      have := freC_none f hx xm
      rw [okC_pre (c := (c ++ [a]) ++ [x]) (r := r) (by simpa using h3)] at this
      cases this
    · exact plt_snoc w
  refine ⟨?_, fun _ => key⟩
  rcases ple_split key with ⟨x, r, e, hx⟩ | w
  · exact ple_pre e
  · exact plt_ple w
/-- how far the search has come, as a number -/
def valC (M : Nat) : Nat → List Nat → Nat
  | 0, _ => 0
  | _ + 1, [] => 0
  | k + 1, x :: d => x * M ^ k + valC M k d
theorem valC_lt {M : Nat} : ∀ {k : Nat} {d : List Nat}, (∀ x ∈ d, x < M) → 0 < M → valC M k d < M ^ k
  | 0, _, _, _ => by simp [valC]
  | k + 1, [], _, h => by simp [valC]; exact Nat.pow_pos h
  | k + 1, x :: d, h, hM => by
    have ih := valC_lt (k := k) (d := d) (fun y hy => h y (by simp [hy])) hM
    have hx := h x (by simp)
    unfold valC
    rw [Nat.pow_succ]
    have : (x + 1) * M ^ k ≤ M * M ^ k := Nat.mul_le_mul_right _ hx
    rw [Nat.add_mul, Nat.one_mul] at this
    rw [Nat.mul_comm (M ^ k) M]
    omega
theorem SrC.small {p : Nat} (h : SrC n m tg c p) : valC (m + 1) (n + 1) (c ++ [p]) * (n + 2) + c.length < (m + 1) ^ (n + 1) * (n + 2) := by
  have hl := h.len
  have := valC_lt (M := m + 1) (k := n + 1) (d := c ++ [p]) (fun x hx => by
    rcases List.mem_append.mp hx with w | w
    · have := h.rng x w; omega
    · rw [List.mem_singleton.mp w]; have := h.pm; omega) (by omega)
  have : (valC (m + 1) (n + 1) (c ++ [p]) + 1) * (n + 2) ≤ (m + 1) ^ (n + 1) * (n + 2) := Nat.mul_le_mul_right _ this
  rw [Nat.add_mul, Nat.one_mul] at this
  omega
end Lm


/-! xs[::-1] of a list, list(range(a, b)), n & 1; families of up to twenty (k67) -/
namespace Lm
open PySem PySem.Spec PyProof.Rows L2
theorem pick_back (its : List Value) : slicePick its.toArray none none (some (-1)) = its.reverse.toArray := by
  unfold slicePick sliceBounds
  simp only [Option.getD_some, List.size_toArray]
  rw [if_neg (by decide), if_neg (by decide)]
  unfold sliceRange
  rw [if_neg (by decide)]
  have ec : (if (its.length : Int) - 1 > -1 then ((its.length : Int) - 1 - -1 - -1 - 1) / (- -1) else 0).toNat = its.length := by
    rw [show (- -1 : Int) = 1 from rfl, Int.ediv_one]
    split <;> omega
  simp only []
  rw [ec, List.filterMap_map]
  congr 1
  have e : ∀ k ∈ List.range its.length, ((fun x => its.toArray[x]?) ∘ fun (k : Nat) => (((its.length : Int) - 1) + (-1) * (k : Int)).toNat) k = some (its.reverse.getD k .none) := fun k hk => by
    have hk := List.mem_range.mp hk
    have z : (((its.length : Int) - 1) + (-1) * (k : Int)).toNat = its.length - 1 - k := by omega
    show its.toArray[(((its.length : Int) - 1) + (-1) * (k : Int)).toNat]? = _
    rw [z, List.getD_eq_getElem?_getD, List.getElem?_reverse hk]
    have h2 : its.length - 1 - k < its.length := by omega
    simp [h2]
  have gen : ∀ (l : List Nat) (F : Nat → Option Value) (G : Nat → Value), (∀ k ∈ l, F k = some (G k)) → l.filterMap F = l.map G := fun l F G h => by
    induction l with
    | nil => rfl
    | cons a l ih => rw [List.filterMap_cons, h a (by simp), List.map_cons, ih fun k hk => h k (by simp [hk])]
  rw [gen _ _ _ e]
  refine List.ext_getElem (by simp) fun i h1 h2 => ?_
  have h3 : i < its.reverse.length := h2
  simp only [List.getElem_map, List.getElem_range]
  rw [List.getD_eq_getElem?_getD, List.getElem?_eq_getElem h3, Option.getD_some]
def tRevL (K : PySem.W.Frag) (te : TE) : TE := fun σ H Q => te σ H fun x H1 => ∃ a xs, x = .ref a ∧ SqL K H1 a xs ∧ ∀ p, H1 p = none → Q (.ref p) (upd H1 p (.lst xs.reverse))
theorem pe_revL {X : Cx} {K : PySem.W.Frag} (hK : X.K = K) {e : Expr} {te : TE} {k : Nat} {p1 p2 p3 pos : Pos} (he : PE X e te) : PE X (.Subscript e (.Slice none none (some (.UnaryOp .USub (.Constant (.int 1) k p1) p2)) p3) pos) (tRevL K te) := by
  subst hK
  refine ⟨fun pins s σ H Q I h => Subscript_ (thn (he.run pins s σ H _ I h) fun v s1 ⟨x, H1, I1, r1, a, xs, ex, hx, q⟩ => ?_)⟩
  subst ex
  cases r1
  have hst : PO X (some (.UnaryOp .USub (.Constant (.int 1) k p1) p2)) (tPart (tUn (rU fun i => .int (-i)) (tC (.int 1)))) := po_some (pe_un un_neg pe_int)
  refine wpAny_Slice (thn (po_none.run pins s1 σ H1 (fun o H2 => o = none ∧ H2 = H1) I1 ⟨rfl, rfl⟩) fun vl s2 ⟨l, H2, I2, pl, el, e2⟩ => ?_)
  subst el e2
  refine thn (po_none.run pins s2 σ H2 (fun o H3 => o = none ∧ H3 = H2) I2 ⟨rfl, rfl⟩) fun vu s3 ⟨u, H3, I3, pu, eu, e3⟩ => ?_
  subst eu e3
  refine thn (hst.run pins s3 σ H3 (fun o H4 => o = some (-1) ∧ H4 = H3) I3 ⟨1, rfl, -1, rfl, rfl, rfl⟩) fun vs s4 ⟨o, H4, I4, ps, eo, e4⟩ => ?_
  subst eo e4
  have evl : vl = .none := by cases pl; rfl
  have evu : vu = .none := by cases pu; rfl
  subst evl evu
  have I5 : Inv X pins σ H4 { s4 with heap := s4.heap.push { cls := .type "slice", data := .fields #[.none, .none, vs] } } := I4.kept (t' := s4.toks) fun b ob q => Heap.get?_push_of_some _ q
  obtain ⟨its, r, ht, hz⟩ := I5.list hx
  have hl := r.length
  show wpAny (model X.prog X.w) X.A (subscriptTail e (.Slice none none (some (.UnaryOp .USub (.Constant (.int 1) k p1) p2)) p3) (.ref a) (.ref s4.heap.objs.size)) (EP X pins σ Q) X.xe { s4 with heap := s4.heap.push { cls := .type "slice", data := .fields #[.none, .none, vs] } }
  refine tail_any (ops := [.ref a, .ref s4.heap.objs.size]) ht.isList.typeIs slot_list_getitem.lookup (wpAny_getItem_list_slice ht.isList (Heap.IsSliceOf.new _ .none .none vs) .none .none ps (by decide) ?_ (by rw [List.size_toArray] <;> omega)) (by with_unfolding_all rfl)
  rw [pick_back]
  exact ⟨.ref _, _, I5.laid (t' := s4.toks) (o := .lst xs.reverse) (fun b ob q => Heap.get?_push_of_some _ q) (Nat.le_refl _) ⟨by rw [List.length_reverse]; exact hz, _, 0, r.reverse, Heap.get?_push_size _ rfl⟩, rfl, q _ (I5.hok.fresh (Nat.le_refl _))⟩
section
variable {c : Ct} {Γ : List (Option Rs)} {te ta tb : TE} {k ka kb : Kd} {ds : List PyData} {i j : Int}
theorem e_revL (h : Ev c te Γ k (.list ds)) (hf : flatAll ds = true) : Ev c (tRevL c.K te) Γ .o (.list ds.reverse) := fun H0 O H σ e Q q =>
  h H0 O H σ e _ fun v H1 r1 s1 => by
    obtain ⟨a, xs, rfl, _, sl, al⟩ := (Res.bo e s1).lst'
    refine ⟨a, xs, rfl, sl, fun p hp => ?_⟩
    have sm : Same H1 (upd H1 p (.lst xs.reverse)) := fun b o z => by rw [upd_ne (ne_of_none z hp)]; exact z
    have rv : ∀ {H : Hp} {vs : List V} {es : List PyData}, BoAll c H vs es → BoAll c H vs.reverse es.reverse := fun {H vs es} h => by
      induction h using BoAll.rec (motive_1 := fun _ _ _ => True) with
      | nil => exact .nil
      | cons a b _ ih => rw [List.reverse_cons, List.reverse_cons]; exact BoAll.app ih (.cons a .nil)
      | _ => trivial
    refine q _ _ (r1.tr (Rr.same sm)) ⟨[p], .lst upd_same (.leaves (flatAll_mem fun d hd => flatAll_one hf (List.mem_reverse.mp hd)) ((rv al).same sm)), by simp, fun b hb => ?_⟩
    rw [List.mem_singleton.mp hb]
    exact r1.back e.jH hp
theorem rgV_ups (i j : Int) : rgV i j = (upI i (j - i).toNat).map V.int := by
  unfold rgV upI
  rw [List.map_map]
  rfl
/-- list(range(a, b)) -/
theorem e_listRg2 (ha : Ev c ta Γ ka (.int i)) (hb : Ev c tb Γ kb (.int j)) (h0 : 0 ≤ i) (h1 : i ≤ 1000000) (g0 : 0 ≤ j) (g1 : j ≤ 1000000) : Ev c (tLstRg (tRg2 ta tb)) Γ .o (.list ((upI i (j - i).toNat).map .int)) := fun H0 O H σ e Q q =>
  ha H0 O H σ e _ fun v H1 r s => hb H0 O H1 σ (e.on r) _ fun u H2 r2 s2 => ⟨i, j, (Res.bo e s).int', (Res.bo (e.on r) s2).int', .of_le (by omega) (by omega) (by omega) (by omega), fun p hp => by
    have sm : Same H2 (upd H2 p (.lst (rgV i j))) := fun b o z => by rw [upd_ne (ne_of_none z hp)]; exact z
    refine q _ _ ((r.tr r2).tr (Rr.same sm)) ⟨[p], .lst upd_same (FoAll.leaves (flatAll_ints _) ?_), by simp, fun a ha => ?_⟩
    · rw [rgV_ups]; exact BoAll.ofInts _
    · cases List.mem_singleton.mp ha
      exact (r.tr r2).back e.jH hp⟩
end
/-- which places coexist -/
def tgL (F R : List (List Int)) (k j : Nat) : Bool := togB F (R.getD k []) (R.getD j [])
/-- the lists by variants, where the places R have the numbers c -/
def lstsR (R : List (List Int)) (c : List Nat) (v : Nat) : List (List Int) := (List.range (v - 1)).map fun x => ((List.range R.length).filter fun k => decide ((R.getD k []).getD 0 0 = ((x + 1 : Nat) : Int))).map fun k => ((c.getD k 0 : Nat) : Int)
def lstsD (R : List (List Int)) (v : Nat) : Option (List Nat) → PyData
  | none => .none
  | some c => .tuple ((lstsR R c v).map tupD)
end Lm


/-! lists for all shares with a total (k67) -/
namespace Lm
open PySem PySem.Spec PyProof.Rows L2
section
variable {c : Ct} {Γ : List (Option Rs)} {ta : TE} {ds es : List PyData}
/-- a new list + a list of one's own -/
theorem e_catOV {n : Nat} (ha : Ev c ta Γ .o (.list ds)) (hds : flatAll ds = true) (hx : Γ[n]? = some (some (.o (.list es)))) (hes : flatAll es = true) (hl : ds.length + es.length ≤ 1000000) : Ev c (tOp (rAddA c.K) ta (tVar n)) Γ .o (.list (ds ++ es)) := fun H0 O H σ e Q q =>
  ha H0 O H σ e _ fun v H1 r1 s1 => by
    obtain ⟨f1, o1, n1, w1⟩ := s1
    obtain ⟨u, fp, hu, f, nd, sub⟩ := (e.on r1).slotO hx
    obtain ⟨p, xs, g, rfl, rfl, hp, fa⟩ := o1.list'
    obtain ⟨b, zs, g', rfl, rfl, hb', fb⟩ := f.list'
    obtain ⟨_, al⟩ := fa.flat0 hds
    obtain ⟨_, bl⟩ := fb.flat0 hes
    refine ⟨.ref b, hu, .inr (.inr ⟨p, b, xs, zs, rfl, rfl, hp, hb', by rw [al.len, bl.len]; exact sizeOk hl, fun p' hp' => ?_⟩)⟩
    have sm : Same H1 (upd H1 p' (.lst (xs ++ zs))) := fun b o z => by rw [upd_ne (ne_of_none z hp')]; exact z
    exact q _ _ (r1.tr (Rr.same sm)) ⟨[p'], .lst upd_same (FoAll.leaves (flatAll_app hds hes) ((al.app bl).same sm)), by simp, fun a ha => by
      cases List.mem_singleton.mp ha
      exact r1.back e.jH hp'⟩
end
def ownN (V T w : Nat) : List Nat := (List.range (T / 2)).map (fun i => (w - 1) * (T / 2) + i) ++ List.replicate (T % 2) ((V - 1) * (T / 2))
def rowN (V T w : Nat) : List Nat := ownN V T w ++ (ownN V (T - T % 2) (1 + w % (V - 1))).reverse
def rowsN (V T : Nat) : List (List Nat) := if V = 2 then [List.range T] else (List.range (V - 1)).map fun i => rowN V T (i + 1)
def neeN (V T : Nat) : Nat := if V = 1 then 0 else if V = 2 then T else (V - 1) * (T / 2) + T % 2
def rwsD (L : List (List Nat)) : PyData := .tuple ((L.map castL).map tupD)
end Lm


/-! lists for all shares with a total: promises (k67) -/
namespace Lm
open PySem PySem.Spec PyProof.Rows L2
theorem rowsN_of {V T : Nat} (h : V ≠ 2) : rowsN V T = (List.range (V - 1)).map fun i => rowN V T (i + 1) := if_neg h
def sp_check_sum (K : PySem.W.Frag) : Sp := spD K fun ds k d => ∃ V T : Nat, ds = [.int (V : Int), .int (T : Int)] ∧ 1 ≤ V ∧ V ≤ 5 ∧ T ≤ 20 ∧ k = .v ∧ d = .none
def sp_needed (K : PySem.W.Frag) : Sp := spD K fun ds k d => ∃ V T : Nat, ds = [.int (V : Int), .int (T : Int)] ∧ 1 ≤ V ∧ V ≤ 5 ∧ T ≤ 20 ∧ k = .v ∧ d = .int ((neeN V T : Nat) : Int)
def sp_own_part (K : PySem.W.Frag) : Sp := spD K fun ds k d => ∃ V T w : Nat, ds = [.int (V : Int), .int (T : Int), .int (w : Int)] ∧ 3 ≤ V ∧ V ≤ 5 ∧ T ≤ 20 ∧ 1 ≤ w ∧ w < V ∧ k = .o ∧ d = .list ((castL (ownN V T w)).map .int)
def sp_lists_for (K : PySem.W.Frag) : Sp := spD K fun ds k d => ∃ V T : Nat, ds = [.int (V : Int), .int (T : Int)] ∧ 1 ≤ V ∧ V ≤ 5 ∧ T ≤ 20 ∧ k = .v ∧ d = rwsD (rowsN V T)
theorem ownN_small {V T w : Nat} (hT : T ≤ 20) : (ownN V T w).length ≤ 20 := by
  unfold ownN
  rw [List.length_append, List.length_map, List.length_range, List.length_replicate]
  omega
theorem castL_app (a b : List Nat) : castL (a ++ b) = castL a ++ castL b := by simp [castL]
theorem castL_rev (a : List Nat) : castL a.reverse = (castL a).reverse := by simp [castL]
end Lm


/-! xs.pop(), and what the search asks (k65, k67) -/
namespace Lm
open PySem PySem.Spec PyProof.Rows L2
theorem k_bm0 {X : Cx} {K : PySem.W.Frag} (hK : X.K = K) {T : String} {name : Str} {id : String} {r : V → List V → Hp → VK → Prop} {o : Expr} {to : TE} {apos cpos : Pos} (pa : PlainAttrs T) (slot : Slot T name id) (hty : typeOf (.builtin id) = pure (.type "method_descriptor")) (hm : MtR X id r) (ho : PE X o to)
    (hbase : attributeBase o name X.env (eval o X.env) = eval o X.env := by rfl) (hline : (apos.endLine == cpos.line) = true := by rfl) : PE X (.Call (.Attribute o name apos) [] [] cpos) (tBM0 K T r to) := hK ▸ pe_bm0 pa slot hty hm ho hbase hline
section
variable {c : Ct} {Γ : List (Option Rs)} {P : Out → Prop}
end
end Lm


/-! as many numbers as the greatest clique has places suffice, for three variants: each place takes the first number that fits (k65) -/
namespace Lm
open PySem PySem.Spec PyProof.Rows L2
theorem lt_foldmax {i : Nat} : ∀ {l : List Nat} {a : Nat}, i < l.foldl max a ↔ i < a ∨ ∃ x ∈ l, i < x
  | [], a => by simp
  | y :: l, a => by
    rw [List.foldl_cons, lt_foldmax]
    simp only [List.mem_cons, exists_eq_or_imp]
    constructor
    · rintro (w | w)
      · by_cases q : i < a
        · exact .inl q
        · exact .inr (.inl (by omega))
      · exact .inr (.inr w)
    · rintro (w | w | w)
      · exact .inl (by omega)
      · exact .inl (by omega)
      · exact .inr w
end Lm


/-! the first colouring takes new numbers in order (k65) -/
namespace Lm
open PySem PySem.Spec PyProof.Rows L2
/-- one more than the greatest number so far -/
def nxC (c : List Nat) : Nat := (c.map (· + 1)).foldl max 0
theorem nx_lt {c : List Nat} {i : Nat} : i < nxC c ↔ ∃ x ∈ c, i < x + 1 := by
  unfold nxC
  rw [lt_foldmax]
  simp only [Nat.not_lt_zero, false_or, List.mem_map]
  constructor
  · rintro ⟨_, ⟨x, hx, rfl⟩, h⟩; exact ⟨x, hx, h⟩
  · rintro ⟨x, hx, h⟩; exact ⟨_, ⟨x, hx, rfl⟩, h⟩
theorem nx_gt {c : List Nat} {x : Nat} (h : x ∈ c) : x < nxC c := nx_lt.mpr ⟨x, h, by omega⟩
def fbC (m : Nat) (tg : Nat → Nat → Bool) : Nat → List Nat → Option (List Nat)
  | 0, c => some c
  | r + 1, c => (List.range (min m (nxC c + 1))).findSome? fun b => if okC tg (c ++ [b]) then fbC m tg r (c ++ [b]) else none
theorem fb_ok {m : Nat} {tg : Nat → Nat → Bool} : ∀ {r : Nat} {c d : List Nat}, fbC m tg r c = some d → okC tg c = true → (∀ x ∈ c, x < m) → (∃ s, d = c ++ s ∧ s.length = r) ∧ okC tg d = true ∧ ∀ x ∈ d, x < m
  | 0, c, d, h, ok, rg => by
    have := Option.some.inj h
    subst this
    exact ⟨⟨[], by simp, rfl⟩, ok, rg⟩
  | r + 1, c, d, h, ok, rg => by
    obtain ⟨b, hb, e⟩ := List.exists_of_findSome?_eq_some h
    by_cases q : okC tg (c ++ [b]) = true
    · rw [if_pos q] at e
      obtain ⟨⟨s, e1, e2⟩, h2, h3⟩ := fb_ok e q fun x hx => by
        rcases List.mem_append.mp hx with w | w
        · exact rg x w
        · rw [List.mem_singleton.mp w]
          have := List.mem_range.mp hb
          omega
      exact ⟨⟨b :: s, by rw [e1]; simp, by simp [e2]⟩, h2, h3⟩
    · rw [if_neg q] at e; cases e
theorem plt_no : ∀ {a b : List Nat}, PLt a b → PLe b a → False
  | [], _, h, _ => h
  | _ :: _, [], h, _ => h
  | a :: as, b :: bs, h, g => by
    rcases h with h | ⟨rfl, h⟩
    · rcases g with g | ⟨g, _⟩ <;> omega
    · rcases g with g | ⟨_, g⟩
      · omega
      · exact plt_no h g
theorem plt_at : ∀ {c : List Nat} {x y : Nat} {r s : List Nat}, x < y → PLt (c ++ x :: r) (c ++ y :: s)
  | [], _, _, _, _, h => .inl h
  | _ :: c, _, _, _, _, h => .inr ⟨rfl, plt_at (c := c) h⟩
/-- two numbers exchanged -/
def swN (u t x : Nat) : Nat := if x = u then t else if x = t then u else x
theorem sw_inj {u t x y : Nat} (h : swN u t x = swN u t y) : x = y := by
  unfold swN at h
  split at h <;> split at h <;> (try split at h) <;> (try split at h) <;> omega
theorem okC_map {tg : Nat → Nat → Bool} {c : List Nat} {f : Nat → Nat} (inj : ∀ x y, f x = f y → x = y) (h : okC tg c = true) : okC tg (c.map f) = true := okC_iff.mpr fun k hk j hj e => by
  rw [List.length_map] at hk
  have g : ∀ i, i < c.length → (c.map f).getD i 0 = f (c.getD i 0) := fun i hi => by
    rw [List.getD_eq_getElem?_getD, List.getElem?_map, List.getD_eq_getElem?_getD, List.getElem?_eq_getElem hi]
    rfl
  rw [g k hk, g j (by omega)] at e
  exact okC_iff.mp h k hk j hj (inj _ _ e)
/-- in the first colouring each number is at most one new -/
theorem fir_new {n m : Nat} {tg : Nat → Nat → Bool} {c s : List Nat} {x : Nat} (h : firC n m tg = some (c ++ x :: s)) : x ≤ nxC c := by
  refine Nat.le_of_not_lt fun lt => ?_
  obtain ⟨⟨h1, h2, h3⟩, h4⟩ := firC_some h
  have xm := h2 x (by simp)
  have e : (c ++ x :: s).map (swN (nxC c) x) = c ++ nxC c :: s.map (swN (nxC c) x) := by
    rw [List.map_append, List.map_cons]
    congr 1
    · conv => rhs; rw [← List.map_id c]
      refine List.map_congr_left fun y hy => ?_
      have := nx_gt hy
      unfold swN
      rw [if_neg (by omega), if_neg (by omega)]
      rfl
    · congr 1
      unfold swN
      rw [if_neg (by omega), if_pos rfl]
  have le := h4 ((c ++ x :: s).map (swN (nxC c) x)) (by rw [List.length_map]; exact h1) (fun y hy => by
    obtain ⟨z, hz, rfl⟩ := List.mem_map.mp hy
    have := h2 z hz
    unfold swN
    split
    · exact xm
    · split <;> omega) (okC_map (fun _ _ => sw_inj) h3)
  rw [e] at le
  exact plt_no (plt_at lt) le
theorem fb_fir {n m : Nat} {tg : Nat → Nat → Bool} {d : List Nat} (h : firC n m tg = some d) : ∀ r c s, d = c ++ s → s.length = r → fbC m tg r c = some d := by
  obtain ⟨⟨h1, h2, h3⟩, h4⟩ := firC_some h
  intro r
  induction r with
  | zero =>
    intro c s e l
    rw [List.eq_nil_of_length_eq_zero l, List.append_nil] at e
    rw [e]; rfl
  | succ r ih =>
    intro c s e l
    match s, l with
    | x :: s, l =>
      have nx := fir_new (c := c) (x := x) (s := s) (by rw [h, e])
      have xm := h2 x (by rw [e]; simp)
      show (List.range (min m (nxC c + 1))).findSome? _ = some d
      have er : List.range (min m (nxC c + 1)) = List.range x ++ x :: (List.range (min m (nxC c + 1) - (x + 1))).map (fun i => x + 1 + i) := by
        have : min m (nxC c + 1) = x + 1 + (min m (nxC c + 1) - (x + 1)) := by omega
        conv => lhs; rw [this]
        rw [List.range_add, List.range_succ, List.append_assoc]
        rfl
      rw [er, List.findSome?_append]
      have none1 : (List.range x).findSome? (fun b => if okC tg (c ++ [b]) = true then fbC m tg r (c ++ [b]) else none) = none := by
        rw [List.findSome?_eq_none_iff]
        intro b hb
        have hb := List.mem_range.mp hb
        by_cases q : okC tg (c ++ [b]) = true
        · rw [if_pos q]
          cases z : fbC m tg r (c ++ [b]) with
          | none => rfl
          | some d' =>
            obtain ⟨⟨s', e1, e2⟩, g2, g3⟩ := fb_ok z q fun y hy => by
              rcases List.mem_append.mp hy with w | w
              · exact h2 y (by rw [e]; simp [w])
              · rw [List.mem_singleton.mp w]; omega
            have hl : s.length = r := by simpa using l
            have := h4 d' (by rw [e1, List.length_append, List.length_append, e2]; rw [e] at h1; simp at h1 ⊢; omega) g3 g2
            rw [e, e1] at this
            have p : PLt (c ++ b :: s') (c ++ x :: s) := plt_at hb
            rw [show c ++ b :: s' = c ++ [b] ++ s' by simp] at p
            exact (plt_no p this).elim
        · rw [if_neg q]
      rw [none1, Option.none_or, List.findSome?_cons, if_pos (okC_pre (r := s) (by rw [← show c ++ x :: s = c ++ [x] ++ s by simp, ← e]; exact h3)), ih (c ++ [x]) s (by rw [e]; simp) (by simpa using l)]
end Lm


/-! raise C("..") of any class that keeps a text; promises of fewest (k65) -/
namespace Lm
open PySem PySem.Spec PyProof.Rows L2
section
variable {c : Ct} {Γ : List (Option Rs)} {te : TE} {P : Out → Prop} {ds : List PyData} {d : PyData} {n m : Nat}
/-- xs.append(a new list); a slot that holds nothing is lent -/
theorem s_appO (hx : Γ[n]? = some (some (.o (.list ds)))) (hm : Γ[m]? = some none) (h : Ev c te Γ .o d) (hl : ds.length < 1000000) (p : P (.nx (Γ.set n (some (.o (.list (ds ++ [d]))))))) : Sd c (tDrop (tBM c.K "list" rAppend (tVar n) (tCons te tNil))) Γ P := fun H0 O H σ D e s => by
  have ne : n ≠ m := fun z => by rw [z, hm] at hx; cases hx
  obtain ⟨q0, xs0, f0, hq0, hp0, _⟩ := e.write (es := ds ++ [d]) hx
  refine ⟨.ref q0, hq0, .inl ⟨rfl, xs0, .inl (.inl hp0)⟩, h H0 O H σ e _ fun v H2 r ⟨fp, f, nd, new⟩ => ?_⟩
  have e2 := e.setO (i := m) r f nd new
  have lm : m < Γ.length := (List.getElem?_eq_some_iff.mp hm).1
  have hx2 : (Γ.set m (some (.o d)))[n]? = some (some (.o (.list ds))) := by rw [List.getElem?_set_ne ne.symm]; exact hx
  obtain ⟨q, xs, v', hq, hv, hp, lx, wr⟩ := e2.gift hx2 (by rw [List.getElem?_set_self lm]) ne
  rw [List.getElem?_set_ne ne.symm, hq0] at hq
  cases hq
  have lσ : m < σ.length := by rw [e.len]; exact lm
  rw [List.getElem?_set_self lσ] at hv
  cases hv
  have w2 := wr.setN (i := m) (x := σ[m])
  have es : (σ.set m (some v)).set m σ[m] = σ := by simp
  have eΓ : ((((Γ.set m (some (.o d))).set m none).set n (some (.o (.list (ds ++ [d]))))).set m none) = Γ.set n (some (.o (.list (ds ++ [d])))) := by
    rw [List.set_set, List.set_comm _ _ ne, List.set_set]
    have e0 : Γ.set m none = Γ := by
      refine List.ext_getElem? fun i => ?_
      by_cases z : i = m
      · subst z; rw [List.getElem?_set_self lm, hm]
      · rw [List.getElem?_set_ne (fun w => z w.symm)]
    rw [e0]
  rw [es, eΓ] at w2
  exact ⟨q0, xs, v, rfl, rfl, hp, by rw [lx, sizeLine_eq]; omega, s _ p _ _ σ w2⟩
end
section
variable {c : Ct} {H0 : Hp} {Γ : List (Option Rs)} {K : PySem.W.Frag}
end
/-- the earlier places that each one is together with -/
def nbL (tg : Nat → Nat → Bool) (k : Nat) : List Nat := (List.range k).filter fun j => tg k j
def nbD (tg : Nat → Nat → Bool) (n : Nat) : PyData := .list ((List.range n).map fun k => .list ((castL (nbL tg k)).map .int))
def colD : Option (List Nat) → PyData
  | none => .none
  | some c => tupD (castL c)
/-- first_buckets, r places left at most -/
def spFB (K : PySem.W.Frag) : Nat → Sp
  | 0 => fun _ _ _ _ => False
  | n + 1 => spD K fun ds k d => ∃ (tg : Nat → Nat → Bool) (m r : Nat) (c : List Nat), ds = [nbD tg (c.length + r), .int (m : Int), tupD (castL c)] ∧ r ≤ n ∧ m ≤ 100 ∧ c.length + r ≤ 100 ∧ (∀ x ∈ c, x < m) ∧ okC tg c = true ∧ k = .v ∧ d = colD (fbC m tg r c)
def sp_first_buckets (K : PySem.W.Frag) : Sp := spFB K 11
def sp_earlier_neighbours (K : PySem.W.Frag) : Sp := spD K fun ds k d => ∃ (F R : List (List Int)) (v : Nat), ds = [.tuple (F.map tupD), .list (R.map tupD)] ∧ Fam F (v : Int) ∧ R.length ≤ 100 ∧ (∀ e ∈ R, ∃ x y : Nat, e = [((x + 1 : Nat) : Int), (y : Int)] ∧ x < v - 1) ∧ k = .o ∧ d = nbD (tgL F R) R.length
/-- the numbers, cut by the shares -/
def prtL (gs : List Int) (c : List Int) : List (List Int) := (List.range gs.length).map fun x => (c.drop (gs.take x).sum.toNat).take (gs.getD x 0).toNat
def sp_parted (K : PySem.W.Frag) : Sp := spD K fun ds k d => ∃ (F : List (List Int)) (v : Nat) (c : List Int), ds = [.tuple (F.map tupD), tupD c] ∧ Fam F (v : Int) ∧ (c.length : Int) = (gsL F (v - 1)).sum ∧ k = .v ∧ d = .tuple ((prtL (gsL F (v - 1)) c).map tupD)
theorem nb_taken {tg : Nat → Nat → Bool} {c : List Nat} {b : Nat} (h : okC tg c = true) : (b ∈ (nbL tg c.length).map fun j => c.getD j 0) ↔ okC tg (c ++ [b]) = false := by
  rw [Bool.eq_false_iff, ne_eq, okC_snoc]
  unfold nbL
  constructor
  · intro w z
    obtain ⟨j, hj, e⟩ := List.mem_map.mp w
    obtain ⟨j1, j2⟩ := List.mem_filter.mp hj
    rw [z.2 j (List.mem_range.mp j1) e] at j2
    cases j2
  · intro w
    apply Classical.byContradiction
    intro no
    refine w ⟨h, fun j hj e => ?_⟩
    rw [Bool.eq_false_iff]
    intro t
    exact no (List.mem_map.mpr ⟨j, List.mem_filter.mpr ⟨List.mem_range.mpr hj, t⟩, e⟩)
theorem mx_nx {c : List Nat} : mxD (-1) (castL c) + 2 = ((nxC c + 1 : Nat) : Int) := by
  have key : ∀ (c : List Nat) (a : Nat), mxOf (a : Int) (castL c) + 1 = (((c.map (· + 1)).foldl max (a + 1) : Nat) : Int) := by
    intro c
    induction c with
    | nil => intro a; simp [castL, mxOf]
    | cons x c ih =>
      intro a
      show (castL c).foldl (fun m n => if n > m then n else m) (if (x : Int) > (a : Int) then (x : Int) else (a : Int)) + 1 = ((((c.map (· + 1)).foldl max (max (a + 1) (x + 1)) : Nat)) : Int)
      by_cases h : (x : Int) > (a : Int)
      · rw [if_pos h, show max (a + 1) (x + 1) = x + 1 by omega]
        exact ih x
      · rw [if_neg h, show max (a + 1) (x + 1) = a + 1 by omega]
        exact ih a
  cases c with
  | nil => rfl
  | cons x c =>
    show mxOf (x : Int) (castL c) + 2 = _
    have := key c x
    unfold nxC
    rw [List.map_cons, List.foldl_cons, show max 0 (x + 1) = x + 1 by omega]
    omega
theorem castL_mem {b : Nat} {l : List Nat} : (b : Int) ∈ castL l ↔ b ∈ l := by
  unfold castL
  rw [List.mem_map]
  exact ⟨fun ⟨x, hx, e⟩ => by have : x = b := by omega
                              rwa [← this], fun h => ⟨b, h, rfl⟩⟩
theorem castL_len (l : List Nat) : (castL l).length = l.length := by simp [castL]
theorem castL_get {l : List Nat} {i : Nat} : (castL l).getD i 0 = ((l.getD i 0 : Nat) : Int) := by
  unfold castL
  rw [List.getD_eq_getElem?_getD, List.getElem?_map, List.getD_eq_getElem?_getD]
  cases l[i]? <;> rfl
theorem EvI.to {c : Ct} {wi : TI} {Γ : List (Option Rs)} {fz : Bool} {a b : List Im} (h : EvI c wi Γ fz a) (e : a = b) : EvI c wi Γ fz b := e ▸ h
end Lm


/-! a, b = xs.pop(); enumerate of a list or a tuple; promises of fewest and of case trees (k65) -/
namespace Lm
open PySem PySem.Spec PyProof.Rows L2
theorem k_notT {X : Cx} {K : PySem.W.Frag} (hK : X.K = K) {a : Expr} {ta : TE} {pos : Pos} (ha : PE X a ta) : PE X (.UnaryOp .Not a pos) (tNotT K ta) := hK ▸ pe_notT ha
section
variable {c : Ct} {Γ : List (Option Rs)} {P : Out → Prop} {u : TS} {g : TG}
/-- g = xs.pop(): what is popped can be told by a word of its own -/
theorem q_popG {n : Nat} {ds : List PyData} {d : PyData} (hx : Γ[n]? = some (some (.o (.list (ds ++ [d]))))) (hf : flatAll (ds ++ [d]) = true) (p : ∀ te, Ev c te (Γ.set n (some (.o (.list ds)))) .v d → Sd c (tSeq (tAsg te g) u) (Γ.set n (some (.o (.list ds)))) P) : Sd c (tSeq (tAsg (tBM0 c.K "list" rPop (tVar n)) g) u) Γ P := fun H0 O H σ D e s => by
  obtain ⟨q, xs, f, hq, hp, fa, qf, qO, wr⟩ := e.write (es := ds) hx
  obtain ⟨ef, al⟩ := fa.flat0 hf
  have lx := al.len
  obtain ⟨y, hy, by'⟩ := al.gets (i := ds.length) (e := d) (by simp)
  have fds : flatAll ds = true := flatAll_mem fun x hx => flatAll_one hf (by simp [hx])
  have fd : flatD d = true := flatAll_one hf (by simp)
  have upt : ∀ a zs, TpN c.K H a zs → TpN c.K (upd H q (.lst xs.dropLast)) a zs := fun _ _ s => sqT_upd hp s
  have e2 := wr xs.dropLast (by
    rw [ef]
    have h1 := al.take ds.length
    rw [List.take_left] at h1
    have h2 : xs.take ds.length = xs.dropLast := by rw [List.dropLast_eq_take]; congr 1; simp at lx; omega
    rw [h2] at h1
    exact FoAll.leaves fds (h1.flatTo upt fds))
  have ev : Ev c (fun σ H Q => ∃ H0 O, Env c H0 O H σ (Γ.set n (some (.o (.list ds)))) ∧ ∀ v H2, Rr c H H2 → Res c O H H2 v d .v → Q v H2) (Γ.set n (some (.o (.list ds)))) .v d := fun H0 O H σ e Q q => ⟨H0, O, e, fun v H2 r b => q v H2 r b⟩
  obtain ⟨H0', O', e3, k⟩ := p _ ev H0 O _ σ D e2 s
  refine ⟨.ref q, hq, .inl ⟨rfl, xs, .inl (.inl hp)⟩, q, xs, y, rfl, rfl, hp, ?_, k y _ Rr.rf ?_⟩
  · rw [show xs.length - 1 = ds.length by simp at lx; omega]; exact hy
  · exact (by'.flatTo upt fd).flatTo (fun a zs s => sqT_mns e3.dm s) fd
end
def iEnumX (K : PySem.W.Frag) (m : Nat) (ta : TA) : TI := fun σ H R => iEnumLS K m ta σ H R ∨ iEnumS K m ta σ H R
theorem k_enumX {X : Cx} {K : PySem.W.Frag} (hK : X.K = K) {e : Expr} {ta : TA} {p pos tpos q1 q2 : Pos} {elts : List Expr} {kk m : Nat} {x1 : Nat} (hc : X.calm = true) (hg : Gl X "enumerate") (hm : X.mg "enumerate" = none) (hm2 : m < 1000000) (ha : PA X [e] ta) (hk : PE X (.Constant (.int (m : Int)) x1 q1) (tC (.int (m : Int))))
    (he1 : backTo pos (starEach [e] X.env) = (false, eval e X.env) :: backTo pos (starEach [] X.env) := by rfl) (hp1 : (backTo pos (starEach [e] X.env)).any (·.1) = false := by rfl) :
    PI X (.Tuple elts kk tpos) (.Call (.Name "enumerate" p) [e] [⟨some "start", .Constant (.int (m : Int)) x1 q1, q2⟩] pos) (iEnumX K m ta) :=
  ⟨fun pins s σ H R I h => h.elim (fun h => (k_enumLS hK hg hm hm2 ha hk he1 hp1).run pins s σ H R I h) fun h => (k_enumS hK hg hm hm2 ha hk he1 hp1).run pins s σ H R I h⟩
theorem i_enumX {K : PySem.W.Frag} {c : Ct} (hk : c.K = K) {Γ : List (Option Rs)} {m n : Nat} {d : PyData} {ds : List PyData} (h : d = .list ds ∨ d = .tuple ds) (hx : Γ[n]? = some (some (.v d))) : EvI c (iEnumX K m (tCons (tVar n) tNil)) Γ true (enumS m ds) := by
  subst hk
  rcases h with rfl | rfl
  · exact fun H0 O H σ e R q => .inl (i_enumLS (d_var hx) kv_ne H0 O H σ e R q)
  · exact fun H0 O H σ e R q => .inr (i_enumS (a_consV (d_var hx) a_nil) H0 O H σ e R q)
def sp_entries_belowX (K : PySem.W.Frag) : Sp := spD K fun ds k d => ∃ (d0 : PyData) (ns : List Int), ds = [d0] ∧ (d0 = .list (ns.map .int) ∨ d0 = .tuple (ns.map .int)) ∧ ns.length ≤ 20 ∧ (∀ x ∈ ns, 0 ≤ x ∧ x ≤ 10) ∧ k = .o ∧ d = .list ((entL ns).map tupD)
/-! ### the answer of fewest -/
abbrev R65 (F : List (List Int)) (v : Nat) : List (List Int) := entL (gsL F (v - 1))
def om65 (F : List (List Int)) (v : Nat) : Nat := (bigL F (R65 F v)).toNat
def hg65 (F : List (List Int)) (v : Nat) : Option (List Int) := (boxL (gsL F (v - 1))).find? (okH F (bigL F (R65 F v)))
def tree65 (F : List (List Int)) (v : Nat) : PyData :=
  match hg65 F v with
  | none => .none
  | some h => if 0 < om65 F v then .tuple [.str "clique", .tuple ((entL h).map tupD)] else .none
def few65 (F : List (List Int)) (v : Nat) : PyData := .tuple [.int (om65 F v : Nat), lstsD (R65 F v) v (firC (R65 F v).length (om65 F v) (tgL F (R65 F v))), tree65 F v]
theorem facts65 {F : List (List Int)} {v : Nat} (h : Fam F (v : Int)) : ∃ hs, hg65 F v = some hs ∧ hs.length = v - 1 ∧ (∀ x ∈ hs, 0 ≤ x ∧ x ≤ 10) ∧ (∀ x, x < v - 1 → hs.getD x 0 ≤ (gsL F (v - 1)).getD x 0) ∧ (entL hs).length = om65 F v ∧ bigL F (R65 F v) = (om65 F v : Nat) ∧ (entL hs).Pairwise (fun a b => togB F a b = true) ∧ (entL hs).Sublist (R65 F v) := by
  obtain ⟨lM, hM, hMx, hMl⟩ := fam_box h
  obtain ⟨lp, best⟩ := greatest_is (fun m hm => (hM m hm).1) hMx hMl
  have lt := (bestI_first (f := fun j => ((clqL F (gsL F (v - 1))).getD j []).sum) (lt := sumLt (clqL F (gsL F (v - 1)))) (fun j i => rfl) ((clqL F (gsL F (v - 1))).length - 1) 1 0 (by decide) (fun m hm => by
    have : m = 0 := by omega
    subst this
    exact ⟨Int.le_refl _, fun w => absurd w (Nat.lt_irrefl _)⟩)).1
  obtain ⟨r, hr⟩ : ∃ r, (clqL F (gsL F (v - 1)))[bestI (sumLt (clqL F (gsL F (v - 1)))) ((clqL F (gsL F (v - 1))).length - 1) 1 0]? = some r := ⟨_, List.getElem?_eq_getElem (by omega)⟩
  obtain ⟨b1, b2⟩ := best r hr
  have rb := List.mem_of_find?_eq_some b2
  have rk := List.find?_some b2
  unfold okH at rk
  rw [Bool.and_eq_true, decide_eq_true_eq, prs_iff] at rk
  have rk1 := rk.1
  have rk2 : ((entL r).length : Int) = bigL F (R65 F v) := rk1
  obtain ⟨l1, l2⟩ := (mem_box fun m hm => (hM m hm).1).mp rb
  refine ⟨r, b2, by omega, fun x hx => ?_, fun x hx => (l2 x (by omega)).2, by unfold om65; omega, by unfold om65; omega, rk.2, ent_sub (by omega) fun x hx => (l2 x hx).2⟩
  obtain ⟨i, hi, rfl⟩ := List.getElem_of_mem hx
  have c := l2 i (by omega)
  rw [List.getD_eq_getElem?_getD, List.getElem?_eq_getElem hi, Option.getD_some] at c
  have := hM _ (gd_mem (l := gsL F (v - 1)) (j := i) (by omega))
  omega
def sp_fewest (K : PySem.W.Frag) : Sp := spD K fun ds k d => ∃ (F : List (List Int)) (v : Nat), ds = [.int (v : Int), .tuple (F.map tupD)] ∧ Fam F (v : Int) ∧ (R65 F v).length ≤ 9 ∧ firC (R65 F v).length (om65 F v) (tgL F (R65 F v)) ≠ none ∧ k = .v ∧ d = few65 F v
/-! ### case trees: a clique at the root -/
def apL (F R : List (List Int)) : List Int := (List.range R.length).map fun k => (((List.range R.length).filter fun j => tgL F R k j).map fun j => (2 : Int) ^ j).sum
def sp_bits_of (K : PySem.W.Frag) : Sp := spD K fun ds k d => ∃ bs : List Bool, ds = [.list (bs.map .bool)] ∧ bs.length ≤ 20 ∧ k = .v ∧ d = .int (((List.range bs.length).filter fun j => bs.getD j false).map fun j => (2 : Int) ^ j).sum
def knD (F R : List (List Int)) : PyData := .tuple [.tuple ((upI 0 R.length).map .int), .tuple ((apL F R).map .int)]
def sp_known_at_root (K : PySem.W.Frag) : Sp := spD K fun ds k d => ∃ (F R : List (List Int)) (v : Nat), ds = [.tuple (F.map tupD), .list (R.map tupD)] ∧ Fam F (v : Int) ∧ R.length ≤ 20 ∧ (∀ e ∈ R, ∃ x y : Nat, e = [((x + 1 : Nat) : Int), (y : Int)] ∧ x < v - 1) ∧ k = .v ∧ d = knD F R
end Lm


/-! bits of a number (k65) -/
namespace Lm
open PySem PySem.Spec PyProof.Rows L2
/-- never called -/
def sp_No (K : PySem.W.Frag) : Sp := spD K fun ds k d => False
theorem fn_never {P : Program} {w : World} {K : PySem.W.Frag} {mg : Str → Option Value} {base : Heap} {CX : CXT} {k : Nat} {f : Addr} {fd : FuncData} {ps : List Str} : FnOk P w K mg base CX k f fd ps (sp_No K) :=
  ⟨fun vs H Q E h => by obtain ⟨_, _, _, _, w, _⟩ := h; exact w.elim, fun A outer s H args us vs Q E _ _ _ _ h => by obtain ⟨_, _, _, _, w, _⟩ := h; exact w.elim⟩
end Lm


/-! the lists of a colouring serve the family (k65) -/
namespace Lm
open PySem PySem.Spec PyProof.Rows L2
/-- where the entries of a variant begin -/
def ofE (M : List Int) (x : Nat) : Nat := ((List.range x).flatMap fun i => entI i (M.getD i 0)).length
theorem ent_split {M : List Int} {x : Nat} (hx : x < M.length) : entL M = (List.range x).flatMap (fun i => entI i (M.getD i 0)) ++ entI x (M.getD x 0) ++ (List.range (M.length - x - 1)).flatMap fun i => entI (x + 1 + i) (M.getD (x + 1 + i) 0) := by
  unfold entL
  obtain ⟨k, hk⟩ : ∃ k, M.length = x + 1 + k := ⟨M.length - x - 1, by omega⟩
  rw [hk, show x + 1 + k - x - 1 = k by omega, List.range_add, List.flatMap_append, ent_take, List.flatMap_map]
theorem ofE_get {M : List Int} {x y : Nat} (hx : x < M.length) (hy : (y : Int) < M.getD x 0) : (entL M).getD (ofE M x + y) [] = enE x y ∧ ofE M x + y < (entL M).length := by
  rw [ent_split hx]
  unfold ofE
  constructor
  · rw [List.getD_eq_getElem?_getD, List.append_assoc, List.getElem?_append_right (by omega), Nat.add_sub_cancel_left, List.getElem?_append_left (by unfold entI; rw [List.length_map, List.length_range]; omega)]
    unfold entI enE
    rw [List.getElem?_map, List.getElem?_range (by omega)]
    rfl
  · rw [List.length_append, List.length_append]
    unfold entI
    rw [List.length_map, List.length_range]
    omega
theorem ent_places {M : List Int} {x : Nat} (hx : x < M.length) : ((List.range (entL M).length).filter fun k => decide (((entL M).getD k []).getD 0 0 = ((x + 1 : Nat) : Int))) = (List.range (M.getD x 0).toNat).map (ofE M x + ·) := by
  obtain ⟨A, hA⟩ : ∃ A, A = (List.range x).flatMap fun i => entI i (M.getD i 0) := ⟨_, rfl⟩
  obtain ⟨B, hB⟩ : ∃ B, B = entI x (M.getD x 0) := ⟨_, rfl⟩
  obtain ⟨C, hC⟩ : ∃ C, C = (List.range (M.length - x - 1)).flatMap fun i => entI (x + 1 + i) (M.getD (x + 1 + i) 0) := ⟨_, rfl⟩
  have e := ent_split hx
  rw [← hA, ← hB, ← hC] at e
  have lA : ofE M x = A.length := by rw [hA]; rfl
  have lB : (M.getD x 0).toNat = B.length := by rw [hB]; unfold entI; simp
  rw [e, lA, lB, List.length_append, List.length_append, List.range_add, List.range_add, List.filter_append, List.filter_append]
  have f1 : (List.range A.length).filter (fun k => decide (((A ++ B ++ C).getD k []).getD 0 0 = ((x + 1 : Nat) : Int))) = [] := by
    rw [List.filter_eq_nil_iff]
    intro k hk
    have hk := List.mem_range.mp hk
    rw [decide_eq_true_eq, List.append_assoc, List.getD_eq_getElem?_getD (l := A ++ (B ++ C)), List.getElem?_append_left hk, List.getElem?_eq_getElem hk, Option.getD_some]
    have m := List.getElem_mem hk
    generalize A[k] = z at m ⊢
    rw [hA] at m
    obtain ⟨i, hi, he⟩ := List.mem_flatMap.mp m
    obtain ⟨y, rfl, _⟩ := mem_entI.mp he
    have := List.mem_range.mp hi
    show ¬ (((i + 1 : Nat) : Int) = _)
    omega
  have f2 : ((List.range B.length).map (A.length + ·)).filter (fun k => decide (((A ++ B ++ C).getD k []).getD 0 0 = ((x + 1 : Nat) : Int))) = (List.range B.length).map (A.length + ·) := by
    rw [List.filter_eq_self]
    intro k hk
    obtain ⟨i, hi, rfl⟩ := List.mem_map.mp hk
    have hi := List.mem_range.mp hi
    rw [decide_eq_true_eq, List.append_assoc, List.getD_eq_getElem?_getD (l := A ++ (B ++ C)), List.getElem?_append_right (by omega), Nat.add_sub_cancel_left, List.getElem?_append_left hi, List.getElem?_eq_getElem hi, Option.getD_some]
    have m := List.getElem_mem hi
    generalize B[i] = z at m ⊢
    rw [hB] at m
    obtain ⟨y, rfl, _⟩ := mem_entI.mp m
    rfl
  have f3 : ((List.range C.length).map (A.length + B.length + ·)).filter (fun k => decide (((A ++ B ++ C).getD k []).getD 0 0 = ((x + 1 : Nat) : Int))) = [] := by
    rw [List.filter_eq_nil_iff]
    intro k hk
    obtain ⟨i, hi, rfl⟩ := List.mem_map.mp hk
    have hi := List.mem_range.mp hi
    rw [decide_eq_true_eq, List.getD_eq_getElem?_getD (l := A ++ B ++ C), List.getElem?_append_right (by rw [List.length_append]; omega), List.length_append, Nat.add_sub_cancel_left, List.getElem?_eq_getElem hi, Option.getD_some]
    have m := List.getElem_mem hi
    generalize C[i] = z at m ⊢
    rw [hC] at m
    obtain ⟨j, hj, he⟩ := List.mem_flatMap.mp m
    obtain ⟨y, rfl, _⟩ := mem_entI.mp he
    show ¬ (((x + 1 + j + 1 : Nat) : Int) = _)
    omega
  rw [f1, f2, f3, List.nil_append, List.append_nil]
/-- the row of a variant -/
def rwE (M : List Int) (c : List Nat) (x : Nat) : List Int := (List.range (M.getD x 0).toNat).map fun y => ((c.getD (ofE M x + y) 0 : Nat) : Int)
theorem lsts_rows {M : List Int} {c : List Nat} {v : Nat} (hv : v - 1 = M.length) : lstsR (entL M) c v = (List.range M.length).map (rwE M c) := by
  unfold lstsR
  rw [hv]
  refine List.map_congr_left fun x hx => ?_
  rw [ent_places (List.mem_range.mp hx), List.map_map]
  rfl
theorem ofE_sum {M : List Int} (hM : ∀ m ∈ M, 0 ≤ m) : ∀ x, x ≤ M.length → (M.take x).sum = (ofE M x : Nat)
  | 0, _ => by simp [ofE]
  | x + 1, h => by
    have ih := ofE_sum hM x (by omega)
    have := hM _ (gd_mem (l := M) (j := x) (by omega))
    unfold ofE at *
    rw [ent_take, List.length_append, List.take_add_one, List.sum_append, ih]
    have : M[x]?.toList.sum = M.getD x 0 := by
      rw [List.getD_eq_getElem?_getD, List.getElem?_eq_getElem (by omega)]
      simp
    rw [this]
    have : (entI x (M.getD x 0)).length = (M.getD x 0).toNat := by unfold entI; simp
    rw [this]
    omega
theorem prt_lsts {M : List Int} {c : List Nat} {v : Nat} (hM : ∀ m ∈ M, 0 ≤ m) (hc : c.length = (entL M).length) (hv : v - 1 = M.length) : prtL M (castL c) = lstsR (entL M) c v := by
  rw [lsts_rows hv]
  unfold prtL rwE
  refine List.map_congr_left fun x hx => ?_
  have hx := List.mem_range.mp hx
  rw [ofE_sum hM x (by omega), Int.toNat_natCast]
  have le : ofE M x + (M.getD x 0).toNat ≤ c.length := by
    rw [hc, ent_split hx, List.length_append, List.length_append]
    have : (entI x (M.getD x 0)).length = (M.getD x 0).toNat := by unfold entI; simp
    rw [this]
    unfold ofE
    omega
  refine List.ext_getElem (by rw [List.length_take, List.length_drop, castL_len, List.length_map, List.length_range]; omega) fun i h1 h2 => ?_
  have hi : i < (M.getD x 0).toNat := by simpa using h2
  rw [List.getElem_take, List.getElem_drop, List.getElem_map, List.getElem_range]
  have := castL_get (l := c) (i := ofE M x + i)
  rw [List.getD_eq_getElem?_getD, List.getElem?_eq_getElem (by rw [castL_len]; omega)] at this
  exact this
theorem rw_get {M : List Int} {c : List Nat} {x : Nat} (hx : x < M.length) : ((List.range M.length).map (rwE M c)).getD x [] = rwE M c x := by
  rw [List.getD_eq_getElem?_getD, List.getElem?_map, List.getElem?_range hx]
  rfl
theorem mem_take_rw {M : List Int} {c : List Nat} {x n : Nat} {b : Int} (h : b ∈ (rwE M c x).take n) : ∃ y, y < n ∧ (y : Int) < M.getD x 0 ∧ b = ((c.getD (ofE M x + y) 0 : Nat) : Int) := by
  obtain ⟨y, hy, rfl⟩ := List.getElem_of_mem h
  have : y < n ∧ y < (rwE M c x).length := by rw [List.length_take] at hy; omega
  have l : (rwE M c x).length = (M.getD x 0).toNat := by unfold rwE; simp
  refine ⟨y, this.1, by omega, ?_⟩
  rw [List.getElem_take]
  unfold rwE
  rw [List.getElem_map, List.getElem_range]
theorem col_ne {F : List (List Int)} {M : List Int} {c : List Nat} (hc : c.length = (entL M).length) (ok : okC (tgL F (entL M)) c = true) {x y x' y' : Nat} (hx : x < M.length) (hx' : x' < M.length) (hy : (y : Int) < M.getD x 0) (hy' : (y' : Int) < M.getD x' 0) (ne : ¬ (x = x' ∧ y = y')) (h : ∃ r ∈ F, (y : Int) < r.getD x 0 ∧ (y' : Int) < r.getD x' 0) : c.getD (ofE M x + y) 0 ≠ c.getD (ofE M x' + y') 0 := by
  obtain ⟨g1, l1⟩ := ofE_get hx hy
  obtain ⟨g2, l2⟩ := ofE_get hx' hy'
  have t := tog_iff.mpr ⟨ne, h⟩
  have kj : ofE M x + y ≠ ofE M x' + y' := fun w => by
    rw [w, g2] at g1
    have := en_inj.mp g1
    exact ne ⟨this.1.symm, this.2.symm⟩
  rcases Nat.lt_or_gt_of_ne kj with lt | lt
  · intro w
    have := okC_iff.mp ok _ (by omega) _ lt w
    unfold tgL at this
    rw [g1, g2, tog_comm, t] at this
    cases this
  · intro w
    have := okC_iff.mp ok _ (by omega) _ lt w.symm
    unfold tgL at this
    rw [g1, g2, t] at this
    cases this
theorem rw_nd {F : List (List Int)} {M : List Int} {c : List Nat} (hc : c.length = (entL M).length) (ok : okC (tgL F (entL M)) c = true) (hMx : ∀ x, x < M.length → ∃ r ∈ F, r.getD x 0 = M.getD x 0) {x : Nat} (hx : x < M.length) : (rwE M c x).Nodup := by
  unfold rwE List.Nodup
  rw [List.pairwise_map]
  refine List.Pairwise.imp_of_mem (R := fun a b => a < b) (fun {a b} ha hb lt w => ?_) List.pairwise_lt_range
  have ha := List.mem_range.mp ha
  have hb := List.mem_range.mp hb
  obtain ⟨r, hr, e⟩ := hMx x hx
  exact col_ne hc ok hx hx (y := a) (y' := b) (by omega) (by omega) (fun z => by omega) ⟨r, hr, by omega, by omega⟩ (by omega)
theorem rw_ok {F : List (List Int)} {M : List Int} {c : List Nat} (hc : c.length = (entL M).length) (ok : okC (tgL F (entL M)) c = true) (hMl : ∀ x, x < M.length → ∀ r ∈ F, r.getD x 0 ≤ M.getD x 0) {r : List Int} (hr : r ∈ F) (hl : r.length = M.length) : OkF ((List.range M.length).map (rwE M c)) r := by
  refine ⟨fun i hi => ?_, fun i j hij hj b hb hb' => ?_⟩
  · rw [rw_get (by omega)]
    have := hMl i (by omega) r hr
    have l : (rwE M c i).length = (M.getD i 0).toNat := by unfold rwE; simp
    omega
  · unfold hdL at hb hb'
    rw [rw_get (by omega)] at hb hb'
    obtain ⟨y, h1, h2, rfl⟩ := mem_take_rw hb
    obtain ⟨y', h1', h2', e⟩ := mem_take_rw hb'
    exact col_ne hc ok (by omega) (by omega) h2 h2' (fun z => by omega) ⟨r, hr, by omega, by omega⟩ (by omega)
theorem rw_lsts {F : List (List Int)} {M : List Int} {c : List Nat} {m : Nat} (hc : c.length = (entL M).length) (hm : ∀ x ∈ c, x < m) (ok : okC (tgL F (entL M)) c = true) (hM : ∀ m ∈ M, m ≤ 10) (hMx : ∀ x, x < M.length → ∃ r ∈ F, r.getD x 0 = M.getD x 0) (l : M.length ≤ 1000) : Lsts ((List.range M.length).map (rwE M c)) (M.length : Int) (m : Int) where
  len := by simp
  v4 := by omega
  rng := fun r hr x hx => by
    obtain ⟨i, hi, rfl⟩ := List.mem_map.mp hr
    unfold rwE at hx
    obtain ⟨y, hy, rfl⟩ := List.mem_map.mp hx
    have hy := List.mem_range.mp hy
    have := (ofE_get (M := M) (List.mem_range.mp hi) (y := y) (by omega)).2
    have := hm (c.getD (ofE M i + y) 0) (by rw [List.getD_eq_getElem?_getD, List.getElem?_eq_getElem (show ofE M i + y < c.length by omega)]; exact List.getElem_mem _)
    omega
  nd := fun r hr => by
    obtain ⟨i, hi, rfl⟩ := List.mem_map.mp hr
    exact rw_nd hc ok hMx (List.mem_range.mp hi)
  small := fun r hr => by
    obtain ⟨i, hi, rfl⟩ := List.mem_map.mp hr
    have := hM _ (gd_mem (l := M) (j := i) (List.mem_range.mp hi))
    unfold rwE
    simp
    simp only [List.getD_eq_getElem?_getD] at this
    omega
/-- what fewest finds -/
structure Few65 (F : List (List Int)) (v : Nat) (hs : List Int) (c : List Nat) : Prop where
  hg : hg65 F v = some hs
  hl : hs.length = v - 1
  hr : ∀ x ∈ hs, 0 ≤ x ∧ x ≤ 10
  om : (entL hs).length = om65 F v
  big : bigL F (R65 F v) = (om65 F v : Nat)
  pw : (entL hs).Pairwise fun a b => togB F a b = true
  sub : (entL hs).Sublist (R65 F v)
  om9 : om65 F v ≤ 9
  ec : firC (R65 F v).length (om65 F v) (tgL F (R65 F v)) = some c
  cl : c.length = (R65 F v).length
  cm : ∀ x ∈ c, x < om65 F v
  ok : okC (tgL F (R65 F v)) c = true
  few : few65 F v = .tuple [.int (om65 F v : Nat), .tuple ((lstsR (R65 F v) c v).map tupD), tree65 F v]
  lst : Lsts (lstsR (R65 F v) c v) ((v : Int) - 1) (om65 F v : Nat)
  srv : ∀ r ∈ F, OkF (lstsR (R65 F v) c v) r
  prt : prtL (gsL F (v - 1)) (castL c) = lstsR (R65 F v) c v
  sum : ((castL c).length : Int) = (gsL F (v - 1)).sum
  ent : ∀ e ∈ R65 F v, ∃ x y : Nat, e = [((x + 1 : Nat) : Int), (y : Int)] ∧ x < v - 1 ∧ y < 10
theorem few_is {F : List (List Int)} {v : Nat} (h : Fam F (v : Int)) (l9 : (R65 F v).length ≤ 9) (nn : firC (R65 F v).length (om65 F v) (tgL F (R65 F v)) ≠ none) : ∃ hs c, Few65 F v hs c := by
  obtain ⟨hs, eh, hl, hr10, hle, om, big, pw, sub⟩ := facts65 h
  obtain ⟨c, ec⟩ := Option.ne_none_iff_exists'.mp nn
  obtain ⟨⟨c1, c2, c3⟩, _⟩ := firC_some ec
  obtain ⟨lM, hM, hMx, hMl⟩ := fam_box h
  have om9 : om65 F v ≤ 9 := by have := sub.length_le; omega
  have v5 := h.v5
  have v1 := h.v1
  have rows := lsts_rows (M := gsL F (v - 1)) (c := c) (v := v) (by omega)
  refine ⟨hs, c, eh, hl, hr10, om, big, pw, sub, om9, ec, c1, c2, c3, by unfold few65; rw [ec]; rfl, ?_, ?_, prt_lsts (fun m hm => (hM m hm).1) c1 (by omega), by rw [castL_len, c1, ← ent_sum fun m hm => (hM m hm).1], fun e he => ?_⟩
  · have := rw_lsts c1 c2 c3 (fun m hm => (hM m hm).2) hMx (by omega)
    rw [← rows, lM] at this
    have e : (((v - 1 : Nat)) : Int) = (v : Int) - 1 := by omega
    rw [e] at this
    exact this
  · intro r hr
    rw [rows]
    exact rw_ok c1 c3 hMl hr (by have := (h.shr r hr).len; omega)
  · obtain ⟨x, y, e, hx, hy⟩ := mem_ent.mp he
    refine ⟨x, y, e, by omega, ?_⟩
    have := (hM _ (gd_mem (l := gsL F (v - 1)) (j := x) hx)).2
    omega
theorem Lsts.big {L : List (List Int)} {v b b' : Int} (h : Lsts L v b) (le : b ≤ b') : Lsts L v b' :=
  ⟨h.len, h.v4, fun r hr x hx => ⟨(h.rng r hr x hx).1, by have := (h.rng r hr x hx).2; omega⟩, h.nd, h.small⟩
theorem Few65.flat {F : List (List Int)} {v : Nat} {hs : List Int} {c : List Nat} (f : Few65 F v hs c) : flatD (tree65 F v) = true ∧ flatD (few65 F v) = true := by
  have t : flatD (tree65 F v) = true := by
    unfold tree65
    rw [f.hg]
    show flatD (if 0 < om65 F v then PyData.tuple [.str "clique", .tuple ((entL hs).map tupD)] else .none) = true
    split
    · show (true && (flatAll ((entL hs).map tupD) && true)) = true
      rw [fl_rows]; rfl
    · rfl
  refine ⟨t, ?_⟩
  rw [f.few]
  show (true && (flatAll ((lstsR (R65 F v) c v).map tupD) && (flatD (tree65 F v) && true))) = true
  rw [fl_rows, t]
  rfl
end Lm


/-! who raises what about populations (k68) -/
namespace Lm
open PySem PySem.Spec PyProof.Rows L2
def NoE (x : PyData) (E : List (List Int)) : Prop := (∃ e : List Int, x = tupD e ∧ e.length ≤ 1000 ∧ e ∉ E) ∨ (SmallT x ∧ areInts x 0 10 = false)
def sp_is_entry68 (K : PySem.W.Frag) : Sp := spD K fun ds k d => ∃ (x : PyData) (E : List (List Int)), ds = [x, .list (E.map tupD)] ∧ k = .v ∧ ((∃ e : List Int, x = tupD e ∧ e.length ≤ 1000 ∧ d = .bool (areInts (tupD e) 0 10 && decide (e ∈ E))) ∨ (NoE x E ∧ d = .bool false))
def sp_are_lists68 (K : PySem.W.Frag) : Sp := spD K fun ds k d => ∃ (x : PyData) (v b : Int), ds = [x, .int v, .int b] ∧ k = .v ∧ ((∃ L : List (List Int), x = .tuple (L.map tupD) ∧ Lsts L v b ∧ d = .bool true) ∨ (SmL x ∧ alB x v b = false ∧ d = .bool false))
def sp_cases_after68 (K : PySem.W.Frag) : Sp := spD K fun ds k d => ∃ (F R : List (List Int)) (m : Int), ds = [knD F R, .list (R.map tupD), .none, .int m] ∧ k = .v ∧ d = .none
def sp_is_right_tree68 (K : PySem.W.Frag) : Sp := spD K fun ds k d => ∃ (F R : List (List Int)) (v : Nat) (m : Int), ds = [.tuple (F.map tupD), .list (R.map tupD), .int m, .none] ∧ Fam F (v : Int) ∧ R.length ≤ 20 ∧ (∀ e ∈ R, ∃ x y : Nat, e = [((x + 1 : Nat) : Int), (y : Int)] ∧ x < v - 1) ∧ k = .v ∧ d = .bool false
def sp_accepts_fewest68 (K : PySem.W.Frag) : Sp := spD K fun ds k d => ∃ (F : List (List Int)) (v : Nat), ds = [.int (v : Int), .tuple (F.map tupD), .none] ∧ Fam F (v : Int) ∧ k = .v ∧ d = .bool false
def sp_accepts_few68 (K : PySem.W.Frag) : Sp := spD K fun ds k d => ∃ (F : List (List Int)) (v : Nat) (m : Int), ds = [.int (v : Int), .tuple (F.map tupD), .int m, .none] ∧ Fam F (v : Int) ∧ (R65 F v).length ≤ 9 ∧ 0 ≤ m ∧ m ≤ 100 ∧ k = .v ∧ d = .bool false
/-! who raises what -/
def RcIf (ds : List PyData) (nm : Str) : Prop := ∃ x z, ds = [z, x] ∧ isIntD x 1 5 = false ∧ nm = "variants"
theorem RcIf_len {ds nm} (h : RcIf ds nm) : ds.length = 2 := by obtain ⟨x, z, rfl, _⟩ := h; rfl
def RcFa (ds : List PyData) (nm : Str) : Prop := ∃ x z, ds = [x, z] ∧ ((isIntD x 1 5 = false ∧ nm = "variants") ∨ ∃ v : Nat, x = .int (v : Int) ∧ 1 ≤ v ∧ v ≤ 5 ∧ NoF z v ∧ nm = "family")
theorem RcFa_len {ds nm} (h : RcFa ds nm) : ds.length = 2 := by obtain ⟨x, z, rfl, _⟩ := h; rfl
def RcF3 (ds : List PyData) (nm : Str) : Prop := ∃ x z e, ds = [x, z, e] ∧ RcFa [x, z] nm
theorem RcF3_len {ds nm} (h : RcF3 ds nm) : ds.length = 3 := by obtain ⟨x, z, e, rfl, _⟩ := h; rfl
def RcCx (ds : List PyData) (nm : Str) : Prop := ∃ x z f s, ds = [x, z, f, s] ∧ (RcFa [x, z] nm ∨ ∃ (F : List (List Int)) (v : Nat), x = .int (v : Int) ∧ z = .tuple (F.map tupD) ∧ Fam F (v : Int) ∧ ((NoE f (R65 F v) ∧ nm = "first") ∨ ∃ e : List Int, f = tupD e ∧ e ∈ R65 F v ∧ NoE s (R65 F v) ∧ nm = "second"))
theorem RcCx_len {ds nm} (h : RcCx ds nm) : ds.length = 4 := by obtain ⟨x, z, f, s, rfl, _⟩ := h; rfl
def RcFt (ds : List PyData) (nm : Str) : Prop := ∃ x z l, ds = [x, z, l] ∧ (RcFa [x, z] nm ∨ ∃ (F : List (List Int)) (v : Nat), x = .int (v : Int) ∧ z = .tuple (F.map tupD) ∧ Fam F (v : Int) ∧ SmL l ∧ alB l ((v : Int) - 1) 1001 = false ∧ nm = "lists")
theorem RcFt_len {ds nm} (h : RcFt ds nm) : ds.length = 3 := by obtain ⟨x, z, l, rfl, _⟩ := h; rfl
def RcAf (ds : List PyData) (nm : Str) : Prop := ∃ x z n t, ds = [x, z, n, t] ∧ (RcFa [x, z] nm ∨ ∃ (F : List (List Int)) (v : Nat), x = .int (v : Int) ∧ z = .tuple (F.map tupD) ∧ Fam F (v : Int) ∧ isIntD n 0 100 = false ∧ nm = "few")
theorem RcAf_len {ds nm} (h : RcAf ds nm) : ds.length = 4 := by obtain ⟨x, z, n, t, rfl, _⟩ := h; rfl
def RcSu (ds : List PyData) (nm : Str) : Prop := ∃ x y, ds = [x, y] ∧ ((isIntD x 1 5 = false ∧ nm = "variants") ∨ ∃ v : Nat, x = .int (v : Int) ∧ 1 ≤ v ∧ v ≤ 5 ∧ isIntD y 0 20 = false ∧ nm = "total")
theorem RcSu_len {ds nm} (h : RcSu ds nm) : ds.length = 2 := by obtain ⟨x, y, rfl, _⟩ := h; rfl
def RcA68 (ds : List PyData) (nm : Str) : Prop := ∃ (w : Nat) (row : List PyData), ds = [.int (w : Int), .list row] ∧ w ≤ 8 ∧ ((w < 4 ∧ RcFa row nm) ∨ (w = 4 ∧ RcCx row nm) ∨ (w = 5 ∧ RcFt row nm) ∨ (w = 6 ∧ ∃ x z n, row = [x, z, n] ∧ RcAf [x, z, n, .none] nm) ∨ (7 ≤ w ∧ RcSu row nm))
theorem RcA68_len {ds nm} (h : RcA68 ds nm) : ds.length = 2 := by obtain ⟨w, row, rfl, _⟩ := h; rfl
/-- good arguments, and what is answered -/
def AskP68 (w : Nat) (row : List PyData) (k : Kd) (d : PyData) : Prop :=
  (∃ (F : List (List Int)) (v : Nat), Fam F (v : Int) ∧
    ((w < 4 ∧ row = [.int (v : Int), .tuple (F.map tupD)] ∧ (R65 F v).length ≤ 9 ∧ firC (R65 F v).length (om65 F v) (tgL F (R65 F v)) ≠ none ∧
      ((w = 0 ∧ k = .o ∧ d = .list ((R65 F v).map tupD)) ∨ (w = 1 ∧ k = .v ∧ d = .tuple [.int (bigL F (entL (gsL F (v - 1)))), hgtD ((boxL (gsL F (v - 1))).find? (okH F (bigL F (entL (gsL F (v - 1))))))]) ∨ (w = 2 ∧ k = .v ∧ d = few65 F v) ∨ (w = 3 ∧ k = .v ∧ d = .bool false))) ∨
     (w = 4 ∧ k = .v ∧ ∃ e f : List Int, row = [.int (v : Int), .tuple (F.map tupD), tupD e, tupD f] ∧ e ∈ entL (gsL F (v - 1)) ∧ f ∈ entL (gsL F (v - 1)) ∧ d = .bool (togB F e f)) ∨
     (w = 5 ∧ k = .v ∧ ∃ L : List (List Int), row = [.int (v : Int), .tuple (F.map tupD), .tuple (L.map tupD)] ∧ Lsts L ((v : Int) - 1) 1001 ∧ d = firstF L 0 F) ∨
     (w = 6 ∧ k = .v ∧ ∃ m : Int, row = [.int (v : Int), .tuple (F.map tupD), .int m] ∧ (R65 F v).length ≤ 9 ∧ 0 ≤ m ∧ m ≤ 100 ∧ d = .bool false))) ∨
  ∃ V T : Nat, row = [.int (V : Int), .int (T : Int)] ∧ 1 ≤ V ∧ V ≤ 5 ∧ T ≤ 20 ∧ k = .v ∧ ((w = 7 ∧ d = .int ((neeN V T : Nat) : Int)) ∨ (w = 8 ∧ d = rwsD (rowsN V T)))
def sp__law_ask68 (K : PySem.W.Frag) : Sp := spD K fun ds k d => ∃ (w : Nat) (row : List PyData), ds = [.int (w : Int), .list row] ∧ AskP68 w row k d
def sp__law_told68 (K : PySem.W.Frag) : Sp := spD K fun ds k d => ∃ (w : Nat) (row : List PyData), ds = [.int (w : Int), .list row] ∧ k = .v ∧ (((∃ kk dd, AskP68 w row kk dd) ∧ d = .tuple [.str "fine"]) ∨ ∃ nm, RcA68 [.int (w : Int), .list row] nm ∧ d = .tuple [.str "bad", .str nm])
/-- each row that is good before i, bad at i, and good or bad behind -/
def BadR68 (w : Nat) (nms : List Str) (gd bd : List PyData) : Prop := gd.length = nms.length ∧ bd.length = nms.length ∧ nms.length ≤ 6 ∧ (∀ s ∈ nms, SeqAt.shaped (.tuple [.str (Str.ofString "bad"), .str s]) = true) ∧
  ∀ i, i < nms.length → ∀ row : List PyData, row.length = nms.length → (∀ j, j < i → row[j]? = gd[j]?) → row[i]? = bd[i]? → (∀ j, i < j → row[j]? = gd[j]? ∨ row[j]? = bd[j]?) → RcA68 [.int (w : Int), .list row] (nms.getD i "")
def sp__law_named68 (K : PySem.W.Frag) : Sp := spS K fun ds k P => ∃ (w : Nat) (nms : List Str) (gd bd : List PyData), ds = [.int (w : Int), .list (nms.map .str), .list gd, .list bd] ∧ (∃ kk dd, AskP68 w gd kk dd) ∧ BadR68 w nms gd bd ∧ k = .v ∧ P = fun d => d = .bool true
theorem get2 {α : Type} {l : List α} (h : l.length = 2) : ∃ x y, l = [x, y] := match l, h with | [x, y], _ => ⟨x, y, rfl⟩
def nmF2 : List Str := ["variants", "family"]
def nmF4 : List Str := ["variants", "family", "first", "second"]
def nmF3 : List Str := ["variants", "family", "lists"]
def nmFw : List Str := ["variants", "family", "few"]
def nmSu : List Str := ["variants", "total"]
theorem fa_bad {v : Nat} {nv nf x z : PyData} (v1 : 1 ≤ v) (v5 : v ≤ 5) (h1 : isIntD nv 1 5 = false) (h2 : NoF nf v) {i : Nat} (h : (i = 0 ∧ x = nv) ∨ (i = 1 ∧ x = .int (v : Int) ∧ z = nf)) : RcFa [x, z] (nmF2.getD i "") := by
  rcases h with ⟨rfl, rfl⟩ | ⟨rfl, rfl, rfl⟩
  · exact ⟨_, _, rfl, .inl ⟨h1, rfl⟩⟩
  · exact ⟨_, _, rfl, .inr ⟨v, rfl, v1, v5, h2, rfl⟩⟩
theorem badF2 {w v : Nat} {F : List (List Int)} {nv nf : PyData} (hw : w < 4) (v1 : 1 ≤ v) (v5 : v ≤ 5) (h1 : isIntD nv 1 5 = false) (h2 : NoF nf v) : BadR68 w nmF2 [.int (v : Int), .tuple (F.map tupD)] [nv, nf] := by
  refine ⟨rfl, rfl, by decide, fun s hs => ?_, fun i hi row hl e1 e2 e3 => ?_⟩
  · simp only [nmF2, List.mem_cons, List.not_mem_nil, or_false] at hs
    rcases hs with rfl | rfl <;> exact sh_bad
  · obtain ⟨x, z, rfl⟩ := get2 hl
    refine ⟨w, _, rfl, by omega, .inl ⟨hw, fa_bad (i := i) v1 v5 h1 h2 ?_⟩⟩
    have hi : i < 2 := hi
    match i, hi with
    | 0, _ => exact .inl ⟨rfl, Option.some.inj e2⟩
    | 1, _ => exact .inr ⟨rfl, Option.some.inj (e1 0 (by omega)), Option.some.inj e2⟩
theorem badF4 {v : Nat} {F : List (List Int)} {e f : List Int} {nv nf ne : PyData} (hF : Fam F (v : Int)) (he : e ∈ R65 F v) (h1 : isIntD nv 1 5 = false) (h2 : NoF nf v) (h3 : NoE ne (R65 F v)) : BadR68 4 nmF4 [.int (v : Int), .tuple (F.map tupD), tupD e, tupD f] [nv, nf, ne, ne] := by
  have v1 := hF.v1
  have v5 := hF.v5
  refine ⟨rfl, rfl, by decide, fun s hs => ?_, fun i hi row hl e1 e2 e3 => ?_⟩
  · simp only [nmF4, List.mem_cons, List.not_mem_nil, or_false] at hs
    rcases hs with rfl | rfl | rfl | rfl <;> exact sh_bad
  · obtain ⟨x, z, p, q, rfl⟩ := get4 hl
    refine ⟨4, _, rfl, by omega, .inr (.inl ⟨rfl, x, z, p, q, rfl, ?_⟩)⟩
    have hi : i < 4 := hi
    match i, hi with
    | 0, _ => exact .inl (fa_bad (i := 0) (by omega) (by omega) h1 h2 (.inl ⟨rfl, Option.some.inj e2⟩))
    | 1, _ => exact .inl (fa_bad (i := 1) (by omega) (by omega) h1 h2 (.inr ⟨rfl, Option.some.inj (e1 0 (by omega)), Option.some.inj e2⟩))
    | 2, _ => exact .inr ⟨F, v, Option.some.inj (e1 0 (by omega)), Option.some.inj (e1 1 (by omega)), hF, .inl ⟨by rw [show p = ne from Option.some.inj e2]; exact h3, rfl⟩⟩
    | 3, _ => exact .inr ⟨F, v, Option.some.inj (e1 0 (by omega)), Option.some.inj (e1 1 (by omega)), hF, .inr ⟨e, Option.some.inj (e1 2 (by omega)), he, by rw [show q = ne from Option.some.inj e2]; exact h3, rfl⟩⟩
theorem badF3 {v : Nat} {F : List (List Int)} {l : PyData} {nv nf nl : PyData} (hF : Fam F (v : Int)) (h1 : isIntD nv 1 5 = false) (h2 : NoF nf v) (h3 : SmL nl ∧ alB nl ((v : Int) - 1) 1001 = false) : BadR68 5 nmF3 [.int (v : Int), .tuple (F.map tupD), l] [nv, nf, nl] := by
  have v1 := hF.v1
  have v5 := hF.v5
  refine ⟨rfl, rfl, by decide, fun s hs => ?_, fun i hi row hl e1 e2 e3 => ?_⟩
  · simp only [nmF3, List.mem_cons, List.not_mem_nil, or_false] at hs
    rcases hs with rfl | rfl | rfl <;> exact sh_bad
  · obtain ⟨x, z, p, rfl⟩ := get3 hl
    refine ⟨5, _, rfl, by omega, .inr (.inr (.inl ⟨rfl, x, z, p, rfl, ?_⟩))⟩
    have hi : i < 3 := hi
    match i, hi with
    | 0, _ => exact .inl (fa_bad (i := 0) (by omega) (by omega) h1 h2 (.inl ⟨rfl, Option.some.inj e2⟩))
    | 1, _ => exact .inl (fa_bad (i := 1) (by omega) (by omega) h1 h2 (.inr ⟨rfl, Option.some.inj (e1 0 (by omega)), Option.some.inj e2⟩))
    | 2, _ =>
      have e : p = nl := Option.some.inj e2
      exact .inr ⟨F, v, Option.some.inj (e1 0 (by omega)), Option.some.inj (e1 1 (by omega)), hF, by rw [e]; exact h3.1, by rw [e]; exact h3.2, rfl⟩
theorem badFw {v : Nat} {F : List (List Int)} {n : PyData} {nv nf nn : PyData} (hF : Fam F (v : Int)) (h1 : isIntD nv 1 5 = false) (h2 : NoF nf v) (h3 : isIntD nn 0 100 = false) : BadR68 6 nmFw [.int (v : Int), .tuple (F.map tupD), n] [nv, nf, nn] := by
  have v1 := hF.v1
  have v5 := hF.v5
  refine ⟨rfl, rfl, by decide, fun s hs => ?_, fun i hi row hl e1 e2 e3 => ?_⟩
  · simp only [nmFw, List.mem_cons, List.not_mem_nil, or_false] at hs
    rcases hs with rfl | rfl | rfl <;> exact sh_bad
  · obtain ⟨x, z, p, rfl⟩ := get3 hl
    refine ⟨6, _, rfl, by omega, .inr (.inr (.inr (.inl ⟨rfl, x, z, p, rfl, x, z, p, _, rfl, ?_⟩)))⟩
    have hi : i < 3 := hi
    match i, hi with
    | 0, _ => exact .inl (fa_bad (i := 0) (by omega) (by omega) h1 h2 (.inl ⟨rfl, Option.some.inj e2⟩))
    | 1, _ => exact .inl (fa_bad (i := 1) (by omega) (by omega) h1 h2 (.inr ⟨rfl, Option.some.inj (e1 0 (by omega)), Option.some.inj e2⟩))
    | 2, _ => exact .inr ⟨F, v, Option.some.inj (e1 0 (by omega)), Option.some.inj (e1 1 (by omega)), hF, by rw [show p = nn from Option.some.inj e2]; exact h3, rfl⟩
theorem badSu {w v : Nat} {t nv nt : PyData} (h7 : 7 ≤ w) (h8 : w ≤ 8) (v1 : 1 ≤ v) (v5 : v ≤ 5) (h1 : isIntD nv 1 5 = false) (h2 : isIntD nt 0 20 = false) : BadR68 w nmSu [.int (v : Int), t] [nv, nt] := by
  refine ⟨rfl, rfl, by decide, fun s hs => ?_, fun i hi row hl e1 e2 e3 => ?_⟩
  · simp only [nmSu, List.mem_cons, List.not_mem_nil, or_false] at hs
    rcases hs with rfl | rfl <;> exact sh_bad
  · obtain ⟨x, z, rfl⟩ := get2 hl
    refine ⟨w, _, rfl, by omega, .inr (.inr (.inr (.inr ⟨h7, x, z, rfl, ?_⟩)))⟩
    have hi : i < 2 := hi
    match i, hi with
    | 0, _ => exact .inl ⟨by rw [show x = nv from Option.some.inj e2]; exact h1, rfl⟩
    | 1, _ => exact .inr ⟨v, Option.some.inj (e1 0 (by omega)), v1, v5, by rw [show z = nt from Option.some.inj e2]; exact h2, rfl⟩
end Lm


/-! calls with drawn arguments; the populations of k68 -/
namespace Lm
open PySem PySem.Spec PyProof.Rows L2
/-- arguments, read at once, some of them drawn -/
def EvAP (c : Ct) (ta : TA) (Γ : List (Option Rs)) (Pd : List PyData → Prop) : Prop :=
  ∀ H0 O H σ, Env c H0 O H σ Γ → ∀ Q : List V → Hp → Prop, (∀ vs ds H2, Pd ds → Rr c H H2 → BoAll c H2 vs ds → Q vs H2) → ta σ H Q
section
variable {c : Ct} {Γ : List (Option Rs)} {te ta tb : TE} {tr : TA} {k ka kb : Kd} {d : PyData} {ds : List PyData} {P : PyData → Prop} {P2 Pd : List PyData → Prop}
theorem ap_nil : EvAP c tNil Γ (fun ds => ds = []) := fun H0 O H σ e Q q => q [] [] H rfl Rr.rf .nil
theorem ap_consN (h : EvN c te Γ k P) (t : EvAP c tr Γ P2) : EvAP c (tCons te tr) Γ (fun ds => ∃ d es, ds = d :: es ∧ P d ∧ P2 es) := fun H0 O H σ e Q q =>
  h H0 O H σ e _ fun v d H1 pd r1 s1 => t H0 O H1 σ (e.on r1) _ fun vs es H2 pe r2 s2 =>
    q (v :: vs) (d :: es) H2 ⟨d, es, rfl, pd, pe⟩ (r1.tr r2) (.cons (Res.bo e (s1.on e r1 r2)) s2)
theorem ap_cons (h : Ev c te Γ k d) (t : EvAP c tr Γ P2) : EvAP c (tCons te tr) Γ (fun ds => ∃ es, ds = d :: es ∧ P2 es) := fun H0 O H σ e Q q =>
  h H0 O H σ e _ fun v H1 r1 s1 => t H0 O H1 σ (e.on r1) _ fun vs es H2 pe r2 s2 =>
    q (v :: vs) (d :: es) H2 ⟨es, rfl, pe⟩ (r1.tr r2) (.cons (Res.bo e (s1.on e r1 r2)) s2)
theorem n_callP {pre : PreS} {E : XK} {st l : Addr} {n : Nat} (hc : c.so = some (st, l)) (hst : Γ[n]? = some (some (.r (.ref st)))) (h : EvAP c tr Γ Pd) (hp : ∀ ds, Pd ds → pre ds k P) :
    EvN c (tCall (spS c.K pre) [] E (tCons (tVar n) tr)) Γ k P := fun H0 O H σ e Q q => by
  have hcc : c = sc c.K st l := by cases c; cases hc; rfl
  refine ⟨_, e.slotR hst, h H0 O H σ e _ fun vs ds H1 pd r s => ?_⟩
  refine ⟨st, l, vs, ds, k, P, by simp, (e.on r).jH st l hc, by rw [← hcc]; exact s, hp ds pd, fun v d H2 pd r2 rt => ?_⟩
  rw [← hcc] at r2 rt
  refine q v d H2 pd (r.tr r2) ?_
  exact (Rt.res (e.on r) r2 rt).back e r
theorem n_catS (ha : Ev c ta Γ .v (.list ds)) (hb : EvN c tb Γ .v (fun d => ∃ es, d = .list es ∧ Pd es)) (hl : ∀ es, Pd es → ds.length + es.length ≤ 1000000) : EvN c (tOp (rCatS c.K) ta tb) Γ .v (fun d => ∃ es, d = .list (ds ++ es) ∧ Pd es) := fun H0 O H σ e Q q =>
  ha H0 O H σ e _ fun v H1 r1 s1 => hb H0 O H1 σ (e.on r1) _ fun u d H2 ⟨es, ed, pd⟩ r2 s2 => by
    subst ed
    have bv : Bo c (mns H2 O) v (.list ds) := Res.on (k := .v) e r1 r2 s1
    have bu : Bo c (mns H2 O) u (.list es) := s2
    obtain ⟨p, xs, rfl, _, sl, al⟩ := bv.lst'
    obtain ⟨b, zs, rfl, _, sl2, al2⟩ := bu.lst'
    refine ⟨p, b, xs, zs, rfl, rfl, mns_same.seq sl, mns_same.seq sl2, by rw [al.len, al2.len]; exact sizeOk (hl es pd), fun p' hp' => ?_⟩
    have r := r1.tr r2
    exact q _ _ _ ⟨es, rfl, pd⟩ (r.tr (Rr.same fun b u z => by rw [upd_ne (ne_of_none z hp')]; exact z)) (newV (H := H2) (e.on r) (al.app al2) hp')
end
theorem fir_many {n m : Nat} {tg : Nat → Nat → Bool} (h : n ≤ m) : firC n m tg ≠ none := fun e => by
  have := firC_none.mp e (List.range n) (by simp) fun x hx => by have := List.mem_range.mp hx; omega
  rw [Bool.eq_false_iff] at this
  refine this (okC_iff.mpr fun k hk j hj w => ?_)
  have hk : k < n := by simpa using hk
  simp [List.getD_eq_getElem?_getD, List.getElem?_range hk, List.getElem?_range (show j < n by omega)] at w
  omega
def F68 (s v : Nat) : List (List Int) := [(s : Int) :: 1 :: zr (v - 3), zr (v - 1)]
theorem f68_all : ((List.range 4).all fun s => (List.range 6).all fun v => decide (s < 1) || decide (v < 3) || (decide ((R65 (F68 s v) v).length = s + 1) && decide (om65 (F68 s v) v = s + 1) && decide ([(1 : Int), 0] ∈ R65 (F68 s v) v) && decide ([(2 : Int), 0] ∈ R65 (F68 s v) v) &&
    decide ([(1 : Int), (s : Int)] ∉ R65 (F68 s v) v) && decide ([(2 : Int), 1] ∉ R65 (F68 s v) v) && decide ([(0 : Int), 0] ∉ R65 (F68 s v) v) && decide ([(v : Int), 0] ∉ R65 (F68 s v) v))) = true := by decide +kernel
structure Ok68 (s v : Nat) : Prop where
  fam : Fam (F68 s v) (v : Int)
  l9 : (R65 (F68 s v) v).length ≤ 9
  nn : firC (R65 (F68 s v) v).length (om65 (F68 s v) v) (tgL (F68 s v) (R65 (F68 s v) v)) ≠ none
  e1 : [(1 : Int), 0] ∈ R65 (F68 s v) v
  e2 : [(2 : Int), 0] ∈ R65 (F68 s v) v
  n1 : [(1 : Int), (s : Int)] ∉ R65 (F68 s v) v
  n2 : [(2 : Int), 1] ∉ R65 (F68 s v) v
  n3 : [(0 : Int), 0] ∉ R65 (F68 s v) v
  n4 : [(v : Int), 0] ∉ R65 (F68 s v) v
theorem zr_sum (n : Nat) : (zr n).sum = 0 := by simp [zr]
theorem zr_mem {n : Nat} {x : Int} (h : x ∈ zr n) : x = 0 := (List.mem_replicate.mp h).2
theorem ok68 {s v : Nat} (s1 : 1 ≤ s) (s3 : s ≤ 3) (v3 : 3 ≤ v) (v5 : v ≤ 5) : Ok68 s v := by
  have a := List.all_eq_true.mp (List.all_eq_true.mp f68_all s (List.mem_range.mpr (by omega))) v (List.mem_range.mpr (by omega))
  rw [decide_eq_false (show ¬ s < 1 by omega), decide_eq_false (show ¬ v < 3 by omega), Bool.false_or, Bool.false_or] at a
  simp only [Bool.and_eq_true, decide_eq_true_eq] at a
  obtain ⟨⟨⟨⟨⟨⟨⟨h1, h2⟩, h3⟩, h4⟩, h5⟩, h6⟩, h7⟩, h8⟩ := a
  refine ⟨⟨by omega, by omega, by simp [F68], by simp [F68], fun r hr => ?_⟩, by omega, fir_many (by omega), h3, h4, h5, h6, h7, h8⟩
  simp only [F68, List.mem_cons, List.not_mem_nil, or_false] at hr
  rcases hr with rfl | rfl
  · refine ⟨by simp [zr]; omega, fun x hx => ?_, by rw [List.sum_cons, List.sum_cons, zr_sum]; omega⟩
    simp only [List.mem_cons] at hx
    rcases hx with rfl | rfl | hx
    · omega
    · omega
    · rw [zr_mem hx]; omega
  · exact ⟨by simp [zr]; omega, fun x hx => by rw [zr_mem hx]; omega, by rw [zr_sum]; omega⟩
/-- lists that serve it -/
def L68 (s v : Nat) : List (List Int) := [upI 0 s, [7]] ++ List.replicate (v - 3) []
theorem l68_ok {s v : Nat} (s3 : s ≤ 3) (v3 : 3 ≤ v) (v5 : v ≤ 5) : Lsts (L68 s v) ((v : Int) - 1) 1001 where
  len := by simp [L68]; omega
  v4 := by omega
  rng := fun r hr x hx => by
    simp only [L68, List.cons_append, List.nil_append, List.mem_cons] at hr
    rcases hr with rfl | rfl | hr
    · unfold upI at hx
      obtain ⟨i, hi, rfl⟩ := List.mem_map.mp hx
      have := List.mem_range.mp hi
      omega
    · rw [List.mem_singleton.mp hx]; omega
    · rw [(List.mem_replicate.mp hr).2] at hx; cases hx
  nd := fun r hr => by
    simp only [L68, List.cons_append, List.nil_append, List.mem_cons] at hr
    rcases hr with rfl | rfl | hr
    · unfold upI List.Nodup
      rw [List.pairwise_map]
      exact List.pairwise_lt_range.imp fun h w => by omega
    · simp
    · rw [(List.mem_replicate.mp hr).2]; exact .nil
  small := fun r hr => by
    simp only [L68, List.cons_append, List.nil_append, List.mem_cons] at hr
    rcases hr with rfl | rfl | hr
    · simp [upI]; omega
    · simp
    · rw [(List.mem_replicate.mp hr).2]; simp
theorem l68_small {s v : Nat} (s3 : s ≤ 3) {r : PyData} (h : r ∈ ((L68 s v).drop 1).map tupD) : SmF r := by
  obtain ⟨r, hr, rfl⟩ := List.mem_map.mp h
  simp only [L68, List.cons_append, List.nil_append, List.drop_succ_cons, List.drop_zero, List.mem_cons] at hr
  intro es e
  cases e
  rcases hr with rfl | hr
  · simp
  · rw [(List.mem_replicate.mp hr).2]; simp
theorem no68 {s v : Nat} (s1 : 1 ≤ s) (s3 : s ≤ 3) (v3 : 3 ≤ v) (v5 : v ≤ 5) {d : PyData}
    (h : d = .list ((L68 s v).map tupD) ∨ d = .tuple (((L68 s v).drop 1).map tupD) ∨ d = .tuple (tupD [0, 0] :: ((L68 s v).drop 1).map tupD) ∨ d = .tuple (tupD [-1] :: ((L68 s v).drop 1).map tupD) ∨ d = .tuple (tupD [1001] :: ((L68 s v).drop 1).map tupD)) : SmL d ∧ alB d ((v : Int) - 1) 1001 = false := by
  have ln : (((L68 s v).drop 1).map tupD).length = v - 2 := by simp [L68]; omega
  have bad : ∀ r : List Int, r.length ≤ 2 → rwB 1001 (tupD r) = false → SmL (.tuple (tupD r :: ((L68 s v).drop 1).map tupD)) ∧ alB (.tuple (tupD r :: ((L68 s v).drop 1).map tupD)) ((v : Int) - 1) 1001 = false := fun r hr hb => by
    refine ⟨fun es e => ?_, ?_⟩
    · cases e
      refine ⟨by rw [List.length_cons, ln]; omega, fun z hz => ?_⟩
      rcases List.mem_cons.mp hz with rfl | hz
      · intro es e
        cases e
        rw [List.length_map]
        omega
      · exact l68_small s3 hz
    · show (decide _ && List.all (tupD r :: _) (rwB 1001)) = false
      rw [List.all_cons, hb, Bool.false_and, Bool.and_false]
  rcases h with rfl | rfl | rfl | rfl | rfl
  · exact ⟨(fun es e => nomatch e), rfl⟩
  · refine ⟨fun es e => ?_, ?_⟩
    · cases e
      exact ⟨by rw [ln]; omega, fun z hz => l68_small s3 hz⟩
    · show (decide ((((((L68 s v).drop 1).map tupD).length : Nat) : Int) = (v : Int) - 1) && _) = false
      rw [ln, decide_eq_false (by omega), Bool.false_and]
  · exact bad [0, 0] (by decide) (by decide +kernel)
  · exact bad [-1] (by decide) (by decide +kernel)
  · exact bad [1001] (by decide) (by decide +kernel)
theorem nof68 {s v : Nat} (s1 : 1 ≤ s) (s3 : s ≤ 3) (v3 : 3 ≤ v) (v5 : v ≤ 5) {d : PyData}
    (h : d = .tuple [] ∨ d = .list ((F68 s v).map tupD) ∨ d = .tuple [tupD (1 :: zr (v - 3))] ∨ d = .tuple [tupD (11 :: 1 :: zr (v - 3))] ∨ d = .tuple (List.replicate 3 ((F68 s v).map tupD)).flatten ∨ d = .none) : NoF d v := by
  rcases h with rfl | rfl | rfl | rfl | rfl | rfl
  · exact .inr (.inl ⟨_, rfl, .inl rfl⟩)
  · exact .inl fun es e => nomatch e
  · exact .inr (.inr ⟨[], _, rfl, by simp, by simp, (fun es e => by cases e; simp [zr]; omega), .inr ⟨_, rfl, by simp [zr]; omega⟩⟩)
  · exact .inr (.inr ⟨[], _, rfl, by simp, by simp, (fun es e => by cases e; simp [zr]; omega), .inl (by
      show (isIntD (.int 11) 0 10 && ((1 :: zr (v - 3)).map PyData.int).all fun d => isIntD d 0 10) = false
      rfl)⟩)
  · exact .inr (.inl ⟨_, rfl, .inr (by show 5 < 6; decide)⟩)
  · exact .inl fun es e => nomatch e
theorem noe68 {s v : Nat} (h0 : Ok68 s v) {d : PyData}
    (h : d = tupD [1, (s : Int)] ∨ d = tupD [2, 1] ∨ d = tupD [0, 0] ∨ d = tupD [(v : Int), 0] ∨ d = tupD [1, -1] ∨ d = .list [.int 1, .int 0] ∨ d = .tuple [.int 1, .bool true, .int 0]) : NoE d (R65 (F68 s v) v) := by
  rcases h with rfl | rfl | rfl | rfl | rfl | rfl | rfl
  · exact .inl ⟨_, rfl, by simp, h0.n1⟩
  · exact .inl ⟨_, rfl, by simp, h0.n2⟩
  · exact .inl ⟨_, rfl, by simp, h0.n3⟩
  · exact .inl ⟨_, rfl, by simp, h0.n4⟩
  · exact .inr ⟨fun es e => by cases e; simp, rfl⟩
  · exact .inr ⟨(fun es e => nomatch e), rfl⟩
  · exact .inr ⟨fun es e => by cases e; simp, rfl⟩
end Lm


/-! the program's own text, by places -/
namespace W
open PySem PySem.Spec PyProof.Rows L2 Lm
def topS (i : Nat) : Stmt := PySem.Challenge.pw_leastmoved_k68_refusals_of_populations.main.body.getD i (.Pass ⟨0, 0, 0, 0⟩)
abbrev s_is_integer : Stmt := topS 8
abbrev n_is_integer : List Str := ["value", "least", "greatest"]
abbrev p_is_integer : List Str := ["value", "least", "greatest"]
theorem sc_is_integer : FnScope n_is_integer p_is_integer (defScope s_is_integer) := ⟨rfl, rfl, rfl, by decide +kernel, rfl, by decide +kernel, by decide +kernel⟩
abbrev s_are_integers : Stmt := topS 9
abbrev n_are_integers : List Str := ["value", "least", "greatest", "part"]
abbrev p_are_integers : List Str := ["value", "least", "greatest"]
theorem sc_are_integers : FnScope n_are_integers p_are_integers (defScope s_are_integers) := ⟨rfl, rfl, rfl, by decide +kernel, rfl, by decide +kernel, by decide +kernel⟩
abbrev s_require : Stmt := topS 10
abbrev n_require : List Str := ["holds", "name"]
abbrev p_require : List Str := ["holds", "name"]
theorem sc_require : FnScope n_require p_require (defScope s_require) := ⟨rfl, rfl, rfl, by decide +kernel, rfl, by decide +kernel, by decide +kernel⟩
abbrev s_check_variants : Stmt := topS 11
abbrev n_check_variants : List Str := ["variants"]
abbrev p_check_variants : List Str := ["variants"]
theorem sc_check_variants : FnScope n_check_variants p_check_variants (defScope s_check_variants) := ⟨rfl, rfl, rfl, by decide +kernel, rfl, by decide +kernel, by decide +kernel⟩
abbrev s_are_lists : Stmt := topS 13
abbrev n_are_lists : List Str := ["value", "variants", "buckets", "row"]
abbrev p_are_lists : List Str := ["value", "variants", "buckets"]
theorem sc_are_lists : FnScope n_are_lists p_are_lists (defScope s_are_lists) := ⟨rfl, rfl, rfl, by decide +kernel, rfl, by decide +kernel, by decide +kernel⟩
abbrev s_is_tuple_of_shares : Stmt := topS 18
abbrev n_is_tuple_of_shares : List Str := ["value", "variants"]
abbrev p_is_tuple_of_shares : List Str := ["value", "variants"]
theorem sc_is_tuple_of_shares : FnScope n_is_tuple_of_shares p_is_tuple_of_shares (defScope s_is_tuple_of_shares) := ⟨rfl, rfl, rfl, by decide +kernel, rfl, by decide +kernel, by decide +kernel⟩
abbrev s_is_family : Stmt := topS 19
abbrev n_is_family : List Str := ["value", "variants", "shares"]
abbrev p_is_family : List Str := ["value", "variants"]
theorem sc_is_family : FnScope n_is_family p_is_family (defScope s_is_family) := ⟨rfl, rfl, rfl, by decide +kernel, rfl, by decide +kernel, by decide +kernel⟩
abbrev s_check_family : Stmt := topS 20
abbrev n_check_family : List Str := ["variants", "family"]
abbrev p_check_family : List Str := ["variants", "family"]
theorem sc_check_family : FnScope n_check_family p_check_family (defScope s_check_family) := ⟨rfl, rfl, rfl, by decide +kernel, rfl, by decide +kernel, by decide +kernel⟩
abbrev s_greatest_shares : Stmt := topS 21
abbrev n_greatest_shares : List Str := ["family", "shares", "place"]
abbrev p_greatest_shares : List Str := ["family"]
theorem sc_greatest_shares : FnScope n_greatest_shares p_greatest_shares (defScope s_greatest_shares) := ⟨rfl, rfl, rfl, by decide +kernel, rfl, by decide +kernel, by decide +kernel⟩
abbrev s_entries_below : Stmt := topS 22
abbrev n_entries_below : List Str := ["numbers", "found", "variant", "number", "place"]
abbrev p_entries_below : List Str := ["numbers"]
theorem sc_entries_below : FnScope n_entries_below p_entries_below (defScope s_entries_below) := ⟨rfl, rfl, rfl, by decide +kernel, rfl, by decide +kernel, by decide +kernel⟩
abbrev s_entries : Stmt := topS 23
abbrev n_entries : List Str := ["variants", "family"]
abbrev p_entries : List Str := ["variants", "family"]
theorem sc_entries : FnScope n_entries p_entries (defScope s_entries) := ⟨rfl, rfl, rfl, by decide +kernel, rfl, by decide +kernel, by decide +kernel⟩
abbrev s_is_entry : Stmt := topS 24
abbrev n_is_entry : List Str := ["value", "places"]
abbrev p_is_entry : List Str := ["value", "places"]
theorem sc_is_entry : FnScope n_is_entry p_is_entry (defScope s_is_entry) := ⟨rfl, rfl, rfl, by decide +kernel, rfl, by decide +kernel, by decide +kernel⟩
abbrev s_is_used : Stmt := topS 25
abbrev n_is_used : List Str := ["shares", "entry", "variant", "place"]
abbrev p_is_used : List Str := ["shares", "entry"]
theorem sc_is_used : FnScope n_is_used p_is_used (defScope s_is_used) := ⟨rfl, rfl, rfl, by decide +kernel, rfl, by decide +kernel, by decide +kernel⟩
abbrev s_are_together : Stmt := topS 26
abbrev n_are_together : List Str := ["family", "one", "two", "shares"]
abbrev p_are_together : List Str := ["family", "one", "two"]
theorem sc_are_together : FnScope n_are_together p_are_together (defScope s_are_together) := ⟨rfl, rfl, rfl, by decide +kernel, rfl, by decide +kernel, by decide +kernel⟩
abbrev s_coexist : Stmt := topS 27
abbrev n_coexist : List Str := ["variants", "family", "first", "second", "places"]
abbrev p_coexist : List Str := ["variants", "family", "first", "second"]
theorem sc_coexist : FnScope n_coexist p_coexist (defScope s_coexist) := ⟨rfl, rfl, rfl, by decide +kernel, rfl, by decide +kernel, by decide +kernel⟩
abbrev s_all_heights : Stmt := topS 28
abbrev n_all_heights : List Str := ["family", "rows", "place", "heights", "shares", "row", "height"]
abbrev p_all_heights : List Str := ["family"]
theorem sc_all_heights : FnScope n_all_heights p_all_heights (defScope s_all_heights) := ⟨rfl, rfl, rfl, by decide +kernel, rfl, by decide +kernel, by decide +kernel⟩
abbrev s_is_clique : Stmt := topS 29
abbrev n_is_clique : List Str := ["family", "heights", "tops", "variant", "height", "one", "two"]
abbrev p_is_clique : List Str := ["family", "heights"]
theorem sc_is_clique : FnScope n_is_clique p_is_clique (defScope s_is_clique) := ⟨rfl, rfl, rfl, by decide +kernel, rfl, by decide +kernel, by decide +kernel⟩
abbrev s_greatest_clique : Stmt := topS 30
abbrev n_greatest_clique : List Str := ["variants", "family", "found", "heights", "best"]
abbrev p_greatest_clique : List Str := ["variants", "family"]
theorem sc_greatest_clique : FnScope n_greatest_clique p_greatest_clique (defScope s_greatest_clique) := ⟨rfl, rfl, rfl, by decide +kernel, rfl, by decide +kernel, by decide +kernel⟩
abbrev s_first_fault : Stmt := topS 31
abbrev n_first_fault : List Str := ["shares", "lists", "variant", "row", "heads", "share", "one", "two", "common", "bucket"]
abbrev p_first_fault : List Str := ["shares", "lists"]
theorem sc_first_fault : FnScope n_first_fault p_first_fault (defScope s_first_fault) := ⟨rfl, rfl, rfl, by decide +kernel, rfl, by decide +kernel, by decide +kernel⟩
abbrev s_fault : Stmt := topS 32
abbrev n_fault : List Str := ["variants", "family", "lists", "index", "shares", "found"]
abbrev p_fault : List Str := ["variants", "family", "lists"]
theorem sc_fault : FnScope n_fault p_fault (defScope s_fault) := ⟨rfl, rfl, rfl, by decide +kernel, rfl, by decide +kernel, by decide +kernel⟩
abbrev s_bits_of : Stmt := topS 35
abbrev n_bits_of : List Str := ["row", "place", "holds"]
abbrev p_bits_of : List Str := ["row"]
theorem sc_bits_of : FnScope n_bits_of p_bits_of (defScope s_bits_of) := ⟨rfl, rfl, rfl, by decide +kernel, rfl, by decide +kernel, by decide +kernel⟩
abbrev s_known_at_root : Stmt := topS 36
abbrev n_known_at_root : List Str := ["family", "places", "apart", "two", "one"]
abbrev p_known_at_root : List Str := ["family", "places"]
theorem sc_known_at_root : FnScope n_known_at_root p_known_at_root (defScope s_known_at_root) := ⟨rfl, rfl, rfl, by decide +kernel, rfl, by decide +kernel, by decide +kernel⟩
abbrev s_known_unlike : Stmt := topS 41
abbrev n_known_unlike : List Str := ["known", "one", "two", "groups", "apart", "rows"]
abbrev p_known_unlike : List Str := ["known", "one", "two"]
theorem sc_known_unlike : FnScope n_known_unlike p_known_unlike (defScope s_known_unlike) := ⟨rfl, rfl, rfl, by decide +kernel, rfl, by decide +kernel, by decide +kernel⟩
abbrev s_known_alike : Stmt := topS 42
abbrev n_known_alike : List Str := ["known", "one", "two", "groups", "apart", "kept", "gone", "rows", "row", "group"]
abbrev p_known_alike : List Str := ["known", "one", "two"]
theorem sc_known_alike : FnScope n_known_alike p_known_alike (defScope s_known_alike) := ⟨rfl, rfl, rfl, by decide +kernel, rfl, by decide +kernel, by decide +kernel⟩
abbrev s_is_right_clique : Stmt := topS 43
abbrev n_is_right_clique : List Str := ["known", "places", "chosen", "few", "entry", "numbers", "one", "two"]
abbrev p_is_right_clique : List Str := ["known", "places", "chosen", "few"]
theorem sc_is_right_clique : FnScope n_is_right_clique p_is_right_clique (defScope s_is_right_clique) := ⟨rfl, rfl, rfl, by decide +kernel, rfl, by decide +kernel, by decide +kernel⟩
abbrev s_is_right_fork : Stmt := topS 44
abbrev n_is_right_fork : List Str := ["known", "places", "first", "second"]
abbrev p_is_right_fork : List Str := ["known", "places", "first", "second"]
theorem sc_is_right_fork : FnScope n_is_right_fork p_is_right_fork (defScope s_is_right_fork) := ⟨rfl, rfl, rfl, by decide +kernel, rfl, by decide +kernel, by decide +kernel⟩
abbrev s_cases_after : Stmt := topS 45
abbrev n_cases_after : List Str := ["known", "places", "node", "few", "one", "two"]
abbrev p_cases_after : List Str := ["known", "places", "node", "few"]
theorem sc_cases_after : FnScope n_cases_after p_cases_after (defScope s_cases_after) := ⟨rfl, rfl, rfl, by decide +kernel, rfl, by decide +kernel, by decide +kernel⟩
abbrev s_is_right_tree : Stmt := topS 46
abbrev n_is_right_tree : List Str := ["family", "places", "few", "tree", "waiting", "nodes", "node", "known", "after"]
abbrev p_is_right_tree : List Str := ["family", "places", "few", "tree"]
theorem sc_is_right_tree : FnScope n_is_right_tree p_is_right_tree (defScope s_is_right_tree) := ⟨rfl, rfl, rfl, by decide +kernel, rfl, by decide +kernel, by decide +kernel⟩
abbrev s_first_buckets : Stmt := topS 50
abbrev n_first_buckets : List Str := ["neighbours", "many", "found", "taken", "place", "bucket", "whole"]
abbrev p_first_buckets : List Str := ["neighbours", "many", "found"]
theorem sc_first_buckets : FnScope n_first_buckets p_first_buckets (defScope s_first_buckets) := ⟨rfl, rfl, rfl, by decide +kernel, rfl, by decide +kernel, by decide +kernel⟩
abbrev s_earlier_neighbours : Stmt := topS 51
abbrev n_earlier_neighbours : List Str := ["family", "places", "found", "number", "entry", "earlier"]
abbrev p_earlier_neighbours : List Str := ["family", "places"]
theorem sc_earlier_neighbours : FnScope n_earlier_neighbours p_earlier_neighbours (defScope s_earlier_neighbours) := ⟨rfl, rfl, rfl, by decide +kernel, rfl, by decide +kernel, by decide +kernel⟩
abbrev s_parted : Stmt := topS 52
abbrev n_parted : List Str := ["family", "buckets", "lists", "begin", "share"]
abbrev p_parted : List Str := ["family", "buckets"]
theorem sc_parted : FnScope n_parted p_parted (defScope s_parted) := ⟨rfl, rfl, rfl, by decide +kernel, rfl, by decide +kernel, by decide +kernel⟩
abbrev s_fewest : Stmt := topS 53
abbrev n_fewest : List Str := ["variants", "family", "places", "many", "heights", "buckets", "tree"]
abbrev p_fewest : List Str := ["variants", "family"]
theorem sc_fewest : FnScope n_fewest p_fewest (defScope s_fewest) := ⟨rfl, rfl, rfl, by decide +kernel, rfl, by decide +kernel, by decide +kernel⟩
abbrev s_accepts_few : Stmt := topS 54
abbrev n_accepts_few : List Str := ["variants", "family", "few", "tree", "places"]
abbrev p_accepts_few : List Str := ["variants", "family", "few", "tree"]
theorem sc_accepts_few : FnScope n_accepts_few p_accepts_few (defScope s_accepts_few) := ⟨rfl, rfl, rfl, by decide +kernel, rfl, by decide +kernel, by decide +kernel⟩
abbrev s_accepts_fewest : Stmt := topS 55
abbrev n_accepts_fewest : List Str := ["variants", "family", "evidence", "places", "many", "lists", "tree"]
abbrev p_accepts_fewest : List Str := ["variants", "family", "evidence"]
theorem sc_accepts_fewest : FnScope n_accepts_fewest p_accepts_fewest (defScope s_accepts_fewest) := ⟨rfl, rfl, rfl, by decide +kernel, rfl, by decide +kernel, by decide +kernel⟩
abbrev s_check_sum : Stmt := topS 56
abbrev n_check_sum : List Str := ["variants", "total"]
abbrev p_check_sum : List Str := ["variants", "total"]
theorem sc_check_sum : FnScope n_check_sum p_check_sum (defScope s_check_sum) := ⟨rfl, rfl, rfl, by decide +kernel, rfl, by decide +kernel, by decide +kernel⟩
abbrev s_needed : Stmt := topS 57
abbrev n_needed : List Str := ["variants", "total"]
abbrev p_needed : List Str := ["variants", "total"]
theorem sc_needed : FnScope n_needed p_needed (defScope s_needed) := ⟨rfl, rfl, rfl, by decide +kernel, rfl, by decide +kernel, by decide +kernel⟩
abbrev s_own_part : Stmt := topS 58
abbrev n_own_part : List Str := ["variants", "total", "variant", "half", "middle"]
abbrev p_own_part : List Str := ["variants", "total", "variant"]
theorem sc_own_part : FnScope n_own_part p_own_part (defScope s_own_part) := ⟨rfl, rfl, rfl, by decide +kernel, rfl, by decide +kernel, by decide +kernel⟩
abbrev s_lists_for : Stmt := topS 59
abbrev n_lists_for : List Str := ["variants", "total", "lists", "variant", "following", "borrowed"]
abbrev p_lists_for : List Str := ["variants", "total"]
theorem sc_lists_for : FnScope n_lists_for p_lists_for (defScope s_lists_for) := ⟨rfl, rfl, rfl, by decide +kernel, rfl, by decide +kernel, by decide +kernel⟩
abbrev s__law_stream : Stmt := topS 61
abbrev n__law_stream : List Str := ["script"]
abbrev p__law_stream : List Str := ["script"]
theorem sc__law_stream : FnScope n__law_stream p__law_stream (defScope s__law_stream) := ⟨rfl, rfl, rfl, by decide +kernel, rfl, by decide +kernel, by decide +kernel⟩
abbrev s__law_next : Stmt := topS 62
abbrev n__law_next : List Str := ["stream", "many", "k", "cell", "digit"]
abbrev p__law_next : List Str := ["stream", "many"]
theorem sc__law_next : FnScope n__law_next p__law_next (defScope s__law_next) := ⟨rfl, rfl, rfl, by decide +kernel, rfl, by decide +kernel, by decide +kernel⟩
abbrev s__law_ask : Stmt := topS 63
abbrev n__law_ask : List Str := ["which", "row"]
abbrev p__law_ask : List Str := ["which", "row"]
theorem sc__law_ask : FnScope n__law_ask p__law_ask (defScope s__law_ask) := ⟨rfl, rfl, rfl, by decide +kernel, rfl, by decide +kernel, by decide +kernel⟩
abbrev s__law_told : Stmt := topS 64
abbrev n__law_told : List Str := ["which", "row", "e"]
abbrev p__law_told : List Str := ["which", "row"]
theorem sc__law_told : FnScope n__law_told p__law_told (defScope s__law_told) := ⟨rfl, rfl, rfl, by decide +kernel, rfl, by decide +kernel, by decide +kernel⟩
abbrev s__law_named : Stmt := topS 65
abbrev n__law_named : List Str := ["stream", "which", "names", "good", "bad", "first", "row", "at"]
abbrev p__law_named : List Str := ["stream", "which", "names", "good", "bad"]
theorem sc__law_named : FnScope n__law_named p__law_named (defScope s__law_named) := ⟨rfl, rfl, rfl, by decide +kernel, rfl, by decide +kernel, by decide +kernel⟩
abbrev s_law : Stmt := topS 66
abbrev n_law : List Str := ["script", "stream", "variants", "shares", "family", "good", "bad", "names", "which", "no_entry", "lists", "no_lists", "few", "no_total"]
abbrev p_law : List Str := ["script"]
theorem sc_law : FnScope n_law p_law (defScope s_law) := ⟨rfl, rfl, rfl, by decide +kernel, rfl, by decide +kernel, by decide +kernel⟩
abbrev s_ini_BadValue : Stmt := inClass (topS 3) 0
-- known_unlike: 'BitOr'
-- known_alike: 'BitOr'
-- _law_told: stmt Try
structure Txt (mg : Str → Option Value) : Prop where
  b_ValueError : mg "ValueError" = none
  b_abs : mg "abs" = none
  b_all : mg "all" = none
  b_any : mg "any" = none
  b_bool : mg "bool" = none
  b_enumerate : mg "enumerate" = none
  b_int : mg "int" = none
  b_isinstance : mg "isinstance" = none
  b_len : mg "len" = none
  b_list : mg "list" = none
  b_max : mg "max" = none
  b_min : mg "min" = none
  b_range : mg "range" = none
  b_set : mg "set" = none
  b_sorted : mg "sorted" = none
  b_sum : mg "sum" = none
  b_tuple : mg "tuple" = none
  b_zip : mg "zip" = none
  k_MOST_VARIANTS : ∃ t, mg "MOST_VARIANTS" = some (.int 5 t)
  k_MOST_BUCKETS : ∃ t, mg "MOST_BUCKETS" = some (.int 20 t)
  k_MOST_TUPLES : ∃ t, mg "MOST_TUPLES" = some (.int 5 t)
  k_GREATEST_SUM : ∃ t, mg "GREATEST_SUM" = some (.int 10 t)
  k_GREATEST_BUCKET : ∃ t, mg "GREATEST_BUCKET" = some (.int 1000 t)
  k_MOST_NODES : ∃ t, mg "MOST_NODES" = some (.int 2000 t)
  k_MOST_ENTRIES : ∃ t, mg "MOST_ENTRIES" = some (.int 9 t)
  k_MOST_FEW : ∃ t, mg "MOST_FEW" = some (.int 100 t)
  i_combinations : mg "combinations" = some (.type "itertools.combinations")
end W

namespace W
open PySem PySem.Spec PyProof.Rows L2 Lm
theorem ok_is_integer {P : Program} {w : World} {K : PySem.W.Frag} {mg : Str → Option Value} {base : Heap} {f : Addr} {fd : FuncData} (F : Fun K "is_integer" "is_integer" s_is_integer f fd) (T : Txt mg) :
    FnOk P w K mg base CX0 1 f fd p_is_integer (sp_is_integer K) := by
  refine F.ok sc_is_integer (fun vs H Q E h => spD_len h (by rintro ds k d ⟨x, lo, hi, rfl, _⟩; rfl)) (fun cdv A outer s H vs Q E hr h => ⟨_, (pss_cons (ps_if (PW.pt (pw_or (pt_not (pt_val (pe_callB (k_isi (K := K) rfl) rfl T.b_isinstance (by decide +kernel) (pa_cons (pv 0) (pa_cons (pe_ty (n := "int") rfl T.b_int (by decide +kernel)) pa_nil))))) (pw_or1 (pt_val (pe_callB (k_isi (K := K) rfl) rfl T.b_isinstance (by decide +kernel) (pa_cons (pv 0) (pa_cons (pe_ty (n := "bool") rfl T.b_bool (by decide +kernel)) pa_nil))))))) (pss_one (ps_ret pe_bl)) pss_nil)
      (pss_one (ps_ret (pe_chain op_le op_le (pv 1) (pv 0) (pv 2))))), run_pure (N := n_is_integer) (fun ds k d hp => ?_) h⟩)
  obtain ⟨x, lo, hi, rfl, rfl, rfl⟩ := hp
  refine q_if (t_or (t_not (t_B (e_isi (d_var rfl) (kit_int x)))) fun _ => t_B (e_isi (d_var rfl) (kit_bool x))) (fun h => ?_) fun h => q_next ?_
  · refine q_ret d_bl (.inr ⟨rfl, rfl⟩) (.inl ?_)
    cases x <;> first | rfl | (simp [isIntTy, isBoolTy] at h)
  · cases x with
    | int i => exact s_ret (d_chain (d_var rfl) (d_var rfl) fun _ => d_var rfl) (.inr ⟨rfl, rfl⟩) (.inl rfl)
    | _ => simp [isIntTy, isBoolTy] at h

theorem ok_are_integers {P : Program} {w : World} {K : PySem.W.Frag} {mg : Str → Option Value} {base : Heap} {f : Addr} {fd : FuncData} (F : Fun K "are_integers" "are_integers" s_are_integers f fd) (T : Txt mg) (c_is_integer : Cal P w K mg base CX0 1 "is_integer" p_is_integer (sp_is_integer K)) :
    FnOk P w K mg base CX0 2 f fd p_are_integers (sp_are_integers K) := by
  refine F.ok sc_are_integers (fun vs H Q E h => spD_len h (by rintro ds k d ⟨x, lo, hi, rfl, _⟩; rfl)) (fun cdv A outer s H vs Q E hr h => ⟨_, (pss_one (ps_ret (pe_and (pe_callB (k_isi (K := K) rfl) rfl T.b_isinstance (by decide +kernel) (pa_cons (pv 0) (pa_cons (pe_ty (n := "tuple") rfl T.b_tuple (by decide +kernel)) pa_nil))) (pe_one (pe_callB (k_all (K := K) rfl rfl) rfl T.b_all (by decide +kernel) (pa_cons (pe_lc rfl sc_are_integers.nd (k_seq (K := K) rfl (pv 0)) (blkOk_by (own := [("part", 3)]) (N := n_are_integers) (sc := defScope s_are_integers) (by decide +kernel)) (fun _ _ _ _ _ => by exact (pg_name (i := 3) sc_are_integers.nd rfl (Or.inl rfl))) (fun _ _ _ _ _ => by exact pts_nil) (fun _ _ _ _ _ => by exact (pe_cal c_is_integer (hr.mono (by decide)) rfl pass0 (pa_cons (pv 3) (pa_cons (pv 1) (pa_cons (pv 2) pa_nil)))))) pa_nil)))))), run_pure (N := n_are_integers) (fun ds k d hp => ?_) h⟩)
  obtain ⟨x, lo, hi, rfl, hx, rfl, rfl⟩ := hp
  refine s_ret ((d_andV (b := areInts x lo hi) (e_isi (d_var rfl) (kit_tuple x)) fun hx' => ?_).to ?_) (.inr ⟨rfl, rfl⟩) (.inl rfl)
  · cases x with
    | tuple es =>
      refine (d_all (d_lcB (fun d => isIntD d lo hi) (i_seqT (d_var rfl) (by intro h; cases h)) (hx es rfl) fun a _ => ⟨_, _, g_name, fun j hj => hj, _, d_call (a_cons (d_var rfl) (a_cons (d_var rfl) (a_cons (d_var rfl) a_nil))) ⟨a, lo, hi, rfl, rfl, rfl⟩⟩)).to ?_
      show PyData.bool _ = .bool (es.all fun d => isIntD d lo hi)
      rw [List.all_map]
      rfl
    | _ => simp [isTupTy] at hx'
  · cases x <;> simp [isTupTy, areInts]

theorem ok_require {P : Program} {w : World} {K : PySem.W.Frag} {mg : Str → Option Value} {base : Heap} {f : Addr} {fd : FuncData} (F : Fun K "require" "require" s_require f fd) (T : Txt mg) :
    FnOk P w K mg base CX0 1 f fd p_require (sp_require K) := by
  refine F.ok sc_require (fun vs H Q E h => spD_len h (by rintro ds k d ⟨nm, rfl, _⟩; rfl)) (fun cdv A outer s H vs Q E hr h => ⟨_, (pss_one (ps_if (pt_not (pt_val (pv 0))) (pss_one ps_never) pss_nil)), run_pure (N := n_require) (fun ds k d hp => ?_) h⟩)
  obtain ⟨nm, rfl, rfl, rfl⟩ := hp
  exact s_no ((t_not (t_B (d_var (d := .bool true) rfl))).to rfl) (s_next (.inr ⟨rfl, rfl, _, rfl⟩))

theorem ok_check_variants {P : Program} {w : World} {K : PySem.W.Frag} {mg : Str → Option Value} {base : Heap} {f : Addr} {fd : FuncData} (F : Fun K "check_variants" "check_variants" s_check_variants f fd) (T : Txt mg) (c_require : Cal P w K mg base CX0 1 "require" p_require (sp_require K)) (c_is_integer : Cal P w K mg base CX0 1 "is_integer" p_is_integer (sp_is_integer K)) :
    FnOk P w K mg base CX0 2 f fd p_check_variants (sp_check_variants K) := by
  refine F.ok sc_check_variants (fun vs H Q E h => spD_len h (by rintro ds k d ⟨v, rfl, _⟩; rfl)) (fun cdv A outer s H vs Q E hr h => ⟨_, (pss_one (ps_expr (pe_cal c_require (hr.mono (by decide)) rfl pass0 (pa_cons (pe_cal c_is_integer (hr.mono (by decide)) rfl pass0 (pa_cons (pv 0) (pa_cons pe_int (pa_cons (pe_const rfl T.k_MOST_VARIANTS) pa_nil)))) (pa_cons pe_str pa_nil))))), run_pure (N := n_check_variants) (fun ds k d hp => ?_) h⟩)
  obtain ⟨v, rfl, h1, h5, rfl, rfl⟩ := hp
  refine s_drop (d_call (a_cons (d_call (a_cons (d_var rfl) (a_cons d_int (a_cons d_int a_nil))) ⟨.int v, 1, 5, rfl, rfl, rfl⟩) (a_cons d_str a_nil)) ⟨"variants", ?_, rfl, rfl⟩) (.inr ⟨rfl, rfl, _, rfl⟩)
  simp [isIntD, h1, h5]

theorem ok_are_lists {P : Program} {w : World} {K : PySem.W.Frag} {mg : Str → Option Value} {base : Heap} {f : Addr} {fd : FuncData} (F : Fun K "are_lists" "are_lists" s_are_lists f fd) (T : Txt mg) (c_are_integers : Cal P w K mg base CX0 2 "are_integers" p_are_integers (sp_are_integers K)) :
    FnOk P w K mg base CX0 3 f fd p_are_lists (sp_are_lists68 K) := by
  refine F.ok sc_are_lists (fun vs H Q E h => spD_len h (by rintro ds k d ⟨x, v, b, rfl, _⟩; rfl)) (fun cdv A outer s H vs Q E hr h => ⟨_, (pss_cons (ps_if (PW.pt (pw_or (pt_not (pt_val (pe_callB (k_isi (K := K) rfl) rfl T.b_isinstance (by decide +kernel) (pa_cons (pv 0) (pa_cons (pe_ty (n := "tuple") rfl T.b_tuple (by decide +kernel)) pa_nil))))) (pw_or1 (pt_cmpR (k_ne (K := K) rfl (rUnits hr)) (pe_callB (k_len (K := K) rfl) rfl T.b_len (by decide +kernel) (pa_cons (pv 0) pa_nil)) (pv 1) (nomark _))))) (pss_one (ps_ret pe_bl)) pss_nil)
      (pss_one (ps_ret (pe_callB (k_all (K := K) rfl rfl) rfl T.b_all (by decide +kernel) (pa_cons (pe_lc rfl sc_are_lists.nd (k_seq (K := K) rfl (pv 0)) (blkOk_by (own := [("row", 3)]) (N := n_are_lists) (sc := defScope s_are_lists) (by decide +kernel)) (fun _ _ _ _ _ => by exact (pg_name (i := 3) sc_are_lists.nd rfl (Or.inl rfl))) (fun _ _ _ _ _ => by exact pts_nil) (fun _ _ _ _ _ => by exact (pe_and (pe_cal c_are_integers (hr.mono (by decide)) rfl pass0 (pa_cons (pv 3) (pa_cons pe_int (pa_cons (pe_op op_sub (pv 2) pe_int) pa_nil)))) (pe_one (pe_cmpR (k_eq (K := K) rfl (rUnits hr)) (k_lenSet (K := K) rfl rfl T.b_len rfl T.b_set (pv 3)) (pe_callB (k_len (K := K) rfl) rfl T.b_len (by decide +kernel) (pa_cons (pv 3) pa_nil)) (nomark _)))))) pa_nil))))), run_pure (N := n_are_lists) (fun ds k d hp => ?_) h⟩)
  obtain ⟨x, v, b, rfl, rfl, ⟨L, rfl, h, rfl⟩ | ⟨hs, ha, rfl⟩⟩ := hp
  · skip
    have hl := h.len
    have v4 := h.v4
    refine q_no ((t_or (t_not (t_B (e_isi (d_var rfl) rfl))) fun _ => t_test (e_neI (d_lenT (d_var rfl)) (d_var rfl))).to ?_) ?_
    · simp [hl]
    refine s_ret ((d_all (d_lcB (l := L) (en := tupI) (fun _ => true) (i_rowsT (d_var rfl) kv_ne) (by omega) fun r hr => ⟨_, _, g_name, fun j hj => hj, .v, ?_⟩)).to ?_) (.inr ⟨rfl, rfl⟩) (.inl rfl)
    · refine (d_andV (a := true) (b := true) (d_call (k := .v) (d := .bool true) (a_cons (d_var rfl) (a_cons d_int (a_cons (d_sub (d_var rfl) d_int) a_nil))) ⟨tupD r, 0, b - 1, rfl, small_ints (by have := h.small r hr; omega), rfl, by rw [areInts_of fun x hx => ⟨(h.rng r hr x hx).1, by have := (h.rng r hr x hx).2; omega⟩]⟩) fun _ => ?_).to rfl
      exact (e_eqI (e_lenSet (ks := r) (d_var rfl) (by have := h.small r hr; omega) (h.nd r hr) fun _ => Iff.rfl) (d_lenT (d_var rfl))).to (by simp)
    · simp
  · rw [← ha]
    cases x with
    | tuple es =>
      obtain ⟨le, sm⟩ := hs es rfl
      have e0 : alB (.tuple es) v b = (decide ((es.length : Int) = v) && es.all (rwB b)) := rfl
      rw [e0]
      refine q_if (a := !decide ((es.length : Int) = v)) (EvT.to (t_or (a := false) (b := !decide ((es.length : Int) = v)) (EvT.to (t_not (t_B (e_isi (d_var rfl) rfl))) rfl) fun _ => t_test (e_neI (d_lenT (d_var rfl)) (d_var rfl))) rfl) (fun z => ?_) fun z => q_next ?_
      · refine q_ret (d_bl.to ?_) (.inr ⟨rfl, rfl⟩) (.inl rfl)
        all_goals rw [Bool.not_eq_true'] at z
        all_goals (rw [z]; try rfl)
      · rw [Bool.not_eq_false'] at z
        rw [z, Bool.true_and]
        refine s_ret ((d_all (d_lcB (l := es) (en := Im.d) (rwB b) (i_seqT (d_var rfl) kv_ne) (by omega) fun r hr => ⟨_, _, g_name, fun j hj => hj, .v, (d_andV (a := areInts r 0 (b - 1)) (b := decide (((sdI (intsD r)).length : Int) = ((intsD r).length : Int))) (d_call (k := .v) (a_cons (d_var rfl) (a_cons d_int (a_cons (d_sub (d_var rfl) d_int) a_nil))) ⟨r, 0, b - 1, rfl, (sm r hr).t, rfl, rfl⟩) fun ha => ?_).to rfl⟩)).to (by rw [List.all_map]; rfl)) (.inr ⟨rfl, rfl⟩) (.inl rfl)
        obtain ⟨ns, rfl, _⟩ := areInts_ints ha
        have l1 : ns.length < 64 := by have := sm _ hr _ rfl; simpa using this
        rw [show intsD (.tuple (ns.map .int)) = ns from intsD_tup ns]
        exact (e_eqI (e_lenSet (ks := sdI ns) (d_var rfl) (by omega) ((sd_pw ns).imp fun w e => by omega) fun k => mem_sd) (d_lenT (d_var rfl))).to (by rw [List.length_map])
    | _ => exact q_if (a := true) (EvT.to (t_or (a := true) (b := true) (EvT.to (t_not (t_B (e_isi (d_var rfl) (kit_tuple _)))) rfl) fun w => by cases w) rfl) (fun _ => q_ret d_bl (.inr ⟨rfl, rfl⟩) (.inl rfl)) fun z => by cases z

theorem ok_is_tuple_of_shares {P : Program} {w : World} {K : PySem.W.Frag} {mg : Str → Option Value} {base : Heap} {f : Addr} {fd : FuncData} (F : Fun K "is_tuple_of_shares" "is_tuple_of_shares" s_is_tuple_of_shares f fd) (T : Txt mg) (c_are_integers : Cal P w K mg base CX0 2 "are_integers" p_are_integers (sp_are_integers K)) :
    FnOk P w K mg base CX0 3 f fd p_is_tuple_of_shares (sp_is_tuple_of_sharesX K) := by
  refine F.ok sc_is_tuple_of_shares (fun vs H Q E h => spD_len h (by rintro ds k d ⟨x, v, rfl, _⟩; rfl)) (fun cdv A outer s H vs Q E hr h => ⟨_, (pss_one (ps_ret (pe_and (pe_cal c_are_integers (hr.mono (by decide)) rfl pass0 (pa_cons (pv 0) (pa_cons pe_int (pa_cons (pe_const rfl T.k_GREATEST_SUM) pa_nil)))) (pe_and (pe_cmpR (k_eq (K := K) rfl (rUnits hr)) (pe_callB (k_len (K := K) rfl) rfl T.b_len (by decide +kernel) (pa_cons (pv 0) pa_nil)) (pe_op op_sub (pv 1) pe_int) (nomark _)) (pe_one (pe_cmpR op_le (pe_callB (k_sum (K := K) rfl rfl) rfl T.b_sum (by decide +kernel) (pa_cons (pv 0) pa_nil)) (pe_const rfl T.k_GREATEST_SUM) (nomark _))))))), run_pure (N := n_is_tuple_of_shares) (fun ds k d hp => ?_) h⟩)
  obtain ⟨x, v, rfl, v1, v5, rfl, hx⟩ := hp
  rcases hx with ⟨r, rfl, h, rfl⟩ | ⟨⟨sx, no⟩, rfl⟩
  · have hl := h.len
    refine s_ret ((d_andV (a := true) (b := true) (d_call (k := .v) (d := .bool true) (a_cons (d_var rfl) (a_cons d_int (a_cons d_int a_nil))) ⟨tupD r, 0, 10, rfl, small_ints (by omega), rfl, by rw [areInts_of fun x hx => ⟨h.nn x hx, h.le x hx⟩]⟩) fun _ => d_andV (a := true) (b := true) ((e_eqI (d_lenT (d_var rfl)) (d_sub (d_var rfl) d_int)).to (by rw [List.length_map, hl]; simp)) fun _ => (d_le (e_sumT (d_var rfl)) d_int).to (by simp [h.sum])).to rfl) (.inr ⟨rfl, rfl⟩) (.inl rfl)
  · rcases no with no | ⟨r, rfl, hl⟩
    · exact s_ret (Ev.to (d_andV (a := false) (b := false) (d_call (k := .v) (d := .bool false) (a_cons (d_var rfl) (a_cons d_int (a_cons d_int a_nil))) ⟨x, 0, 10, rfl, sx, rfl, by rw [no]⟩) fun e => nomatch e) rfl) (.inr ⟨rfl, rfl⟩) (.inl rfl)
    · refine s_ret (Ev.to (d_andV (b := false) (d_call (k := .v) (d := .bool (areInts (tupD r) 0 10)) (a_cons (d_var rfl) (a_cons d_int (a_cons d_int a_nil))) ⟨tupD r, 0, 10, rfl, sx, rfl, rfl⟩) fun _ => Ev.to (d_andV (a := false) (b := false) ((e_eqI (d_lenT (d_var rfl)) (d_sub (d_var rfl) d_int)).to (by rw [List.length_map, decide_eq_false hl])) fun e => nomatch e) rfl) (by rw [Bool.and_false])) (.inr ⟨rfl, rfl⟩) (.inl rfl)

theorem ok_is_family {P : Program} {w : World} {K : PySem.W.Frag} {mg : Str → Option Value} {base : Heap} {f : Addr} {fd : FuncData} (F : Fun K "is_family" "is_family" s_is_family f fd) (T : Txt mg) (c_check_variants : Cal P w K mg base CX0 2 "check_variants" p_check_variants (sp_check_variants K)) (c_is_tuple_of_shares : Cal P w K mg base CX0 3 "is_tuple_of_shares" p_is_tuple_of_shares (sp_is_tuple_of_sharesX K)) :
    FnOk P w K mg base CX0 4 f fd p_is_family (sp_is_familyX K) := by
  refine F.ok sc_is_family (fun vs H Q E h => spD_len h (by rintro ds k d ⟨x, v, rfl, _⟩; rfl)) (fun cdv A outer s H vs Q E hr h => ⟨_, (pss_cons (ps_expr (pe_cal c_check_variants (hr.mono (by decide)) rfl pass0 (pa_cons (pv 1) pa_nil)))
      (pss_cons (ps_if (PW.pt (pw_or (pt_not (pt_val (pe_callB (k_isi (K := K) rfl) rfl T.b_isinstance (by decide +kernel) (pa_cons (pv 0) (pa_cons (pe_ty (n := "tuple") rfl T.b_tuple (by decide +kernel)) pa_nil))))) (pw_or1 (pt_not (pt_chain op_le op_le pe_int (pe_callB (k_len (K := K) rfl) rfl T.b_len (by decide +kernel) (pa_cons (pv 0) pa_nil)) (pe_const rfl T.k_MOST_TUPLES)))))) (pss_one (ps_ret pe_bl)) pss_nil)
      (pss_one (ps_ret (pe_callB (k_all (K := K) rfl rfl) rfl T.b_all (by decide +kernel) (pa_cons (pe_lc rfl sc_is_family.nd (k_seq (K := K) rfl (pv 0)) (blkOk_by (own := [("shares", 2)]) (N := n_is_family) (sc := defScope s_is_family) (by decide +kernel)) (fun _ _ _ _ _ => by exact (pg_name (i := 2) sc_is_family.nd rfl (Or.inl rfl))) (fun _ _ _ _ _ => by exact pts_nil) (fun _ _ _ _ _ => by exact (pe_cal c_is_tuple_of_shares (hr.mono (by decide)) rfl pass0 (pa_cons (pv 2) (pa_cons (pv 1) pa_nil))))) pa_nil)))))), run_pure (N := n_is_family) (fun ds k d hp => ?_) h⟩)
  obtain ⟨x, v, rfl, v1, v5, rfl, hx⟩ := hp
  refine q_drop (d_call (k := .v) (d := .none) (a_cons (d_var rfl) a_nil) ⟨v, rfl, by omega, by omega, rfl, rfl⟩) ?_
  rcases hx with ⟨F, rfl, h, rfl⟩ | ⟨no, rfl⟩
  · have h1 := h.l1
    have h5 := h.l5
    refine q_no ((t_or (t_not (t_B (e_isi (d_var rfl) rfl))) fun _ => t_not (t_test (d_chain d_int (d_lenT (d_var rfl)) fun _ => d_int))).to ?_) ?_
    · simp; omega
    refine s_ret ((d_all (d_lcB (l := F) (en := tupI) (fun _ => true) (i_rowsT (d_var rfl) kv_ne) (by omega) fun r hr => ⟨_, _, g_name, fun j hj => hj, .v, d_call (k := .v) (a_cons (d_var rfl) (a_cons (d_var rfl) a_nil)) ⟨tupD r, v, rfl, v1, v5, rfl, .inl ⟨r, rfl, h.shr r hr, rfl⟩⟩⟩)).to ?_) (.inr ⟨rfl, rfl⟩) (.inl rfl)
    simp
  · rcases no with nt | ⟨es, rfl, hl⟩ | ⟨G, y, rfl, hG, hs, ny⟩
    · have it : isTupTy x = false := by
        cases x <;> first | rfl | exact absurd rfl (nt _)
      exact q_if (a := true) (EvT.to (t_or (a := true) (b := true) (EvT.to (t_not (t_B (e_isi (d_var rfl) (kit_tuple x)))) (by rw [it]; rfl)) fun e => nomatch e) rfl) (fun _ => q_ret (d_bl (a := false)) (.inr ⟨rfl, rfl⟩) (.inl rfl)) fun e => nomatch e
    · refine q_if (a := true) ((t_or (t_not (t_B (e_isi (d_var rfl) rfl))) fun _ => t_not (t_test (d_chain d_int (d_lenT (d_var rfl)) fun _ => d_int))).to ?_) (fun _ => q_ret (d_bl (a := false)) (.inr ⟨rfl, rfl⟩) (.inl rfl)) fun e => nomatch e
      simp
      omega
    · refine q_no ((t_or (t_not (t_B (e_isi (d_var rfl) rfl))) fun _ => t_not (t_test (d_chain d_int (d_lenT (d_var rfl)) fun _ => d_int))).to ?_) ?_
      · simp; omega
      have bools : ∀ d ∈ G.map tupD ++ [y], (∃ r, d = tupD r ∧ Shr r (v : Int)) ∨ NoS d v := fun d hd => by
        rcases List.mem_append.mp hd with w | w
        · obtain ⟨r, hr, rfl⟩ := List.mem_map.mp w
          exact .inl ⟨r, rfl, hs r hr⟩
        · rw [List.mem_singleton.mp w]; exact .inr ny
      refine s_ret (Ev.to (d_all (d_lcB (l := G.map tupD ++ [y]) (en := Im.d) (fun d => @decide (∃ r, d = tupD r ∧ Shr r (v : Int)) (Classical.propDecidable _)) (i_seqT (d_var rfl) kv_ne) (by simp; omega) fun d hd => ⟨_, _, g_name, fun j hj => hj, .v, d_call (k := .v) (a_cons (d_var rfl) (a_cons (d_var rfl) a_nil)) ⟨d, v, rfl, v1, v5, rfl, ?_⟩⟩)) ?_) (.inr ⟨rfl, rfl⟩) (.inl rfl)
      · by_cases w : ∃ r, d = tupD r ∧ Shr r (v : Int)
        · obtain ⟨r, e, h⟩ := w
          exact .inl ⟨r, e, h, by rw [@decide_eq_true _ (Classical.propDecidable _) ⟨r, e, h⟩]⟩
        · rcases bools d hd with h | h
          · exact absurd h w
          · exact .inr ⟨h, by rw [@decide_eq_false _ (Classical.propDecidable _) w]⟩
      · have last : ¬ ∃ r, y = tupD r ∧ Shr r (v : Int) := by
          rintro ⟨r, e, h⟩
          rcases ny.2 with n | ⟨r', e', n⟩
          · rw [e, areInts_of fun x hx => ⟨h.nn x hx, h.le x hx⟩] at n
            cases n
          · rw [e] at e'
            have ll : r.length = r'.length := by
              have := congrArg lenT e'
              rwa [lenT_ints, lenT_ints] at this
            exact n (by rw [← ll]; exact h.len)
        rw [List.map_append, List.all_append]
        simp [last]

theorem ok_check_family {P : Program} {w : World} {K : PySem.W.Frag} {mg : Str → Option Value} {base : Heap} {f : Addr} {fd : FuncData} (F : Fun K "check_family" "check_family" s_check_family f fd) (T : Txt mg) (c_require : Cal P w K mg base CX0 1 "require" p_require (sp_require K)) (c_is_family : Cal P w K mg base CX0 4 "is_family" p_is_family (sp_is_familyX K)) :
    FnOk P w K mg base CX0 5 f fd p_check_family (sp_check_family K) := by
  refine F.ok sc_check_family (fun vs H Q E h => spD_len h (by rintro ds k d ⟨F, v, rfl, _⟩; rfl)) (fun cdv A outer s H vs Q E hr h => ⟨_, (pss_one (ps_expr (pe_cal c_require (hr.mono (by decide)) rfl pass0 (pa_cons (pe_cal c_is_family (hr.mono (by decide)) rfl pass0 (pa_cons (pv 1) (pa_cons (pv 0) pa_nil))) (pa_cons pe_str pa_nil))))), run_pure (N := n_check_family) (fun ds k d hp => ?_) h⟩)
  obtain ⟨F, v, rfl, h, rfl, rfl⟩ := hp
  have v1 := h.v1
  have v5 := h.v5
  obtain ⟨v, rfl⟩ := Int.eq_ofNat_of_zero_le (show 0 ≤ v by omega)
  exact s_drop (d_call (k := .v) (d := .none) (a_cons (d_call (k := .v) (d := .bool true) (a_cons (d_var rfl) (a_cons (d_var rfl) a_nil)) ⟨.tuple (F.map tupD), v, rfl, by omega, by omega, rfl, .inl ⟨F, rfl, h, rfl⟩⟩) (a_cons d_str a_nil)) ⟨_, rfl, rfl, rfl⟩) (.inr ⟨rfl, rfl, _, rfl⟩)

theorem ok_greatest_shares {P : Program} {w : World} {K : PySem.W.Frag} {mg : Str → Option Value} {base : Heap} {f : Addr} {fd : FuncData} (F : Fun K "greatest_shares" "greatest_shares" s_greatest_shares f fd) (T : Txt mg) :
    FnOk P w K mg base CX0 1 f fd p_greatest_shares (sp_greatest_shares K) := by
  refine F.ok sc_greatest_shares (fun vs H Q E h => spD_len h (by rintro ds k d ⟨F, v, rfl, _⟩; rfl)) (fun cdv A outer s H vs Q E hr h => ⟨_, (pss_one (ps_ret (pe_lc rfl sc_greatest_shares.nd (pi_range1 rfl T.b_range (pa_cons (pe_callB (k_len (K := K) rfl) rfl T.b_len (by decide +kernel) (pa_cons (pe_ix (k_ix (K := K) rfl) (pv 0) pe_int (fun _ _ => rfl)) pa_nil)) pa_nil)) (blkOk_by (own := [("place", 2)]) (N := n_greatest_shares) (sc := defScope s_greatest_shares) (by decide +kernel)) (fun _ _ _ _ _ => by exact (pg_name (i := 2) sc_greatest_shares.nd rfl (Or.inr rfl))) (fun _ _ _ _ _ => by exact pts_nil) (fun _ _ _ _ _ => by exact (pe_callB (k_max (K := K) rfl rfl) rfl T.b_max (by decide +kernel) (pa_cons (pe_lc rfl sc_greatest_shares.nd (k_seq (K := K) rfl (pv 0)) (show BlkOk n_greatest_shares (L2.relS _ (defScope s_greatest_shares)) _ [("shares", 1)] from blkOk_by (by decide +kernel)) (fun _ _ _ _ _ => by exact (pg_name (i := 1) sc_greatest_shares.nd rfl (Or.inl rfl))) (fun _ _ _ _ _ => by exact pts_nil) (fun _ _ _ _ _ => by exact (pe_ix (k_ix (K := K) rfl) (pv 1) (pv 2) (fun _ _ => rfl)))) pa_nil)))))), run_pure (N := n_greatest_shares) (fun ds k d hp => ?_) h⟩)
  obtain ⟨F, v, rfl, h, rfl, rfl⟩ := hp
  have v1 := h.v1
  have v5 := h.v5
  have l1 := h.l1
  have l5 := h.l5
  have hs := h.shr _ (gL_mem (Ls := F) (i := 0) (by omega))
  have sl := hs.len
  refine s_ret (d_lcI (l := List.range (v - 1)) (en := fun (i : Nat) => Im.d (.int (i : Int))) (fun p => mxL (F.map fun r => r.getD p 0)) (i_rngN (n := v - 1) (a_cons (Ev.to (d_lenT (e_ixT (d_var rfl) d_int (at_tup (A := F) (j := 0) (by omega)) (flatT _))) (by rw [List.length_map]; congr 1; omega)) a_nil) (by omega)) (by simp; omega) fun p hp => ⟨_, _, g_name, fun j hj => hj, .v, e_maxL (d_lcI (l := F) (en := tupI) (fun r => r.getD p 0) (i_rowsT (d_var rfl) kv_ne) (by omega) fun r hr => ⟨_, _, g_name, fun j hj => hj, .v, e_ixT (d_var rfl) (d_var rfl) (at_ints (by have := (h.shr r hr).len; have := List.mem_range.mp hp; omega)) rfl⟩) (by rw [List.length_map]; omega)⟩) (.inl rfl) (.inl rfl)

theorem ok_entries_below {P : Program} {w : World} {K : PySem.W.Frag} {mg : Str → Option Value} {base : Heap} {f : Addr} {fd : FuncData} (F : Fun K "entries_below" "entries_below" s_entries_below f fd) (T : Txt mg) :
    FnOk P w K mg base CX0 1 f fd p_entries_below (sp_entries_belowX K) := by
  refine F.ok sc_entries_below (fun vs H Q E h => spD_len h (by rintro ds k d ⟨d0, ns, rfl, _⟩; rfl)) (fun cdv A outer s H vs Q E hr h => ⟨_, (pss_cons (ps_set (i := 1) sc_entries_below.nd rfl (Or.inl rfl) (pe_lst pa_nil))
      (pss_cons (ps_for PassesOwn.never rfl (k_enumX (K := K) (m := 1) rfl rfl rfl T.b_enumerate (by decide) (pa_cons (pv 0) pa_nil) pe_int) (k_tup (K := K) (n := 2) rfl rfl (pgs_cons (pg_name (i := 2) sc_entries_below.nd rfl (Or.inr rfl)) (pgs_cons (pg_name (i := 3) sc_entries_below.nd rfl (Or.inl rfl)) pgs_nil))) (pss_one (ps_expr (k_bm (K := K) rfl PySem.F.plainAttrs_list PySem.F.slot_list_extend PySem.F.type_list_extend mt_extend (pv 1) (pa_cons (pe_lc rfl sc_entries_below.nd (pi_range1 rfl T.b_range (pa_cons (pv 3) pa_nil)) (blkOk_by (own := [("place", 4)]) (N := n_entries_below) (sc := defScope s_entries_below) (by decide +kernel)) (fun _ _ _ _ _ => by exact (pg_name (i := 4) sc_entries_below.nd rfl (Or.inl rfl))) (fun _ _ _ _ _ => by exact pts_nil) (fun _ _ _ _ _ => by exact (pe_tupN (pa_cons (pv 2) (pa_cons (pv 4) pa_nil))))) pa_nil)))))
      (pss_one (ps_ret (pv 1))))), run_pure (N := n_entries_below) (fun ds k d hp => ?_) h⟩)
  obtain ⟨d0, ns, rfl, hd0, hl, hr, rfl, rfl⟩ := hp
  refine q_asgO (d := .list (([] : List (List Int)).map tupD)) (d_lst (kv := false) (ds := []) a_nil rfl (by decide)) ?_
  refine q_for (i_enumX rfl (m := 1) (ds := ns.map .int) hd0 rfl)
    (fun n Γ1 => ∃ t2 t3, Γ1 = [some (.v d0), some (.o (.list (((List.range n).flatMap fun i => entI i (ns.getD i 0)).map tupD))), t2, t3, none]) ⟨_, _, rfl⟩ (fun n a Γ1 hn' hI => ?_) (fun Γ1 hI => ?_)
  · obtain ⟨t2, t3, rfl⟩ := hI
    have hn : n < ns.length := by have := (List.getElem?_eq_some_iff.mp hn').1; simpa [enumS] using this
    have ea : a = .t [.d (.int ((n + 1 : Nat) : Int)), .d (.int (ns.getD n 0))] := by
      have := hn'
      simp [enumS, hn] at this
      rw [List.getD_eq_getElem?_getD, List.getElem?_eq_getElem hn]
      exact this.symm
    subst ea
    have el := ent_len (fun x hx => (hr x hx).2) n (by omega)
    have e10 := entI_len (i := n) (hr _ (gd_mem hn)).2
    have n10 := hr _ (gd_mem hn)
    refine ⟨_, _, g_tup rfl (g_cons g_name (g_cons g_name g_nil)), s_ext rfl (es := (entI n (ns.getD n 0)).map tupD) (Ev.to (d_lcA (l := upI 0 (ns.getD n 0).toNat) (en := imI) (fun p => tupD [((n + 1 : Nat) : Int), p]) (i_rng1 (a_cons (d_var rfl) a_nil) (by omega) ?_) (by unfold upI; rw [List.length_map, List.length_range]; omega) fun p hp => ⟨_, _, g_name, fun j hj => hj, (d_tup (a_consV (d_var rfl) (a_consV (d_var rfl) a_nil)) (by simp)).fo (flatT [((n + 1 : Nat) : Int), p])⟩) ?_) (fl_rows _) ?_ (.inl ⟨_, .inl rfl, some (.v (.int ((n + 1 : Nat) : Int))), some (.v (.int (ns.getD n 0))), ?_⟩)⟩
    · omega
    · unfold upI entI
      rw [List.map_map, List.map_map]
      congr 1
      refine List.map_congr_left fun i _ => ?_
      simp
    · rw [List.length_map, List.length_map]
      omega
    · rw [ent_take, List.map_append]
      rfl
  · obtain ⟨t2, t3, rfl⟩ := hI
    have : (enumS 1 (ns.map PyData.int)).length = ns.length := by simp [enumS]
    rw [this]
    exact s_retO rfl (.inl rfl)

theorem ok_entries {P : Program} {w : World} {K : PySem.W.Frag} {mg : Str → Option Value} {base : Heap} {f : Addr} {fd : FuncData} (F : Fun K "entries" "entries" s_entries f fd) (T : Txt mg) (c_check_family : Cal P w K mg base CX0 5 "check_family" p_check_family (sp_check_family K)) (c_entries_below : Cal P w K mg base CX0 1 "entries_below" p_entries_below (sp_entries_belowX K)) (c_greatest_shares : Cal P w K mg base CX0 1 "greatest_shares" p_greatest_shares (sp_greatest_shares K)) :
    FnOk P w K mg base CX0 6 f fd p_entries (sp_entries K) := by
  refine F.ok sc_entries (fun vs H Q E h => spD_len h (by rintro ds k d ⟨F, v, rfl, _⟩; rfl)) (fun cdv A outer s H vs Q E hr h => ⟨_, (pss_cons (ps_expr (pe_cal c_check_family (hr.mono (by decide)) rfl pass0 (pa_cons (pv 0) (pa_cons (pv 1) pa_nil))))
      (pss_one (ps_ret (pe_cal c_entries_below (hr.mono (by decide)) rfl pass0 (pa_cons (pe_cal c_greatest_shares (hr.mono (by decide)) rfl pass0 (pa_cons (pv 1) pa_nil)) pa_nil))))), run_pure (N := n_entries) (fun ds k d hp => ?_) h⟩)
  obtain ⟨F, v, rfl, h, rfl, rfl⟩ := hp
  have v5 := h.v5
  refine q_drop (d_call (k := .v) (d := .none) (a_cons (d_var rfl) (a_cons (d_var rfl) a_nil)) ⟨F, v, rfl, h, rfl, rfl⟩) ?_
  refine s_ret (d_call (k := .o) (a_cons (d_call (k := .o) (d := .list ((gsL F (v - 1)).map .int)) (a_cons (d_var rfl) a_nil) ⟨F, v, rfl, h, rfl, rfl⟩) a_nil) ⟨_, gsL F (v - 1), rfl, .inl rfl, by rw [gs_len]; omega, fun x hx => ?_, rfl, rfl⟩) (.inl rfl) (.inl rfl)
  obtain ⟨p, hp, rfl⟩ := List.mem_map.mp hx
  obtain ⟨r, hr, e⟩ := List.mem_map.mp (mxL_mem (ns := F.map fun r => r.getD p 0) (by rw [List.length_map]; have := h.l1; omega))
  rw [← e]
  have m := gd_mem (l := r) (j := p) (by have := (h.shr r hr).len; have := List.mem_range.mp hp; omega)
  exact ⟨(h.shr r hr).nn _ m, (h.shr r hr).le _ m⟩

theorem ok_is_entry {P : Program} {w : World} {K : PySem.W.Frag} {mg : Str → Option Value} {base : Heap} {f : Addr} {fd : FuncData} (F : Fun K "is_entry" "is_entry" s_is_entry f fd) (T : Txt mg) (c_are_integers : Cal P w K mg base CX0 2 "are_integers" p_are_integers (sp_are_integers K)) :
    FnOk P w K mg base CX0 3 f fd p_is_entry (sp_is_entry68 K) := by
  refine F.ok sc_is_entry (fun vs H Q E h => spD_len h (by rintro ds k d ⟨x, E, rfl, _⟩; rfl)) (fun cdv A outer s H vs Q E hr h => ⟨_, (pss_one (ps_ret (pe_and (pe_cal c_are_integers (hr.mono (by decide)) rfl pass0 (pa_cons (pv 0) (pa_cons pe_int (pa_cons (pe_const rfl T.k_GREATEST_SUM) pa_nil)))) (pe_one (pe_cmpR (k_inU (K := K) rfl (rUnits5 hr)) (pv 0) (pv 1) (by with_unfolding_all rfl)))))), run_pure (N := n_is_entry) (fun ds k d hp => ?_) h⟩)
  obtain ⟨x, E, rfl, rfl, ⟨e, rfl, hl, rfl⟩ | ⟨⟨e, rfl, hl, no⟩ | ⟨sm, ha⟩, rfl⟩⟩ := hp
  · exact s_ret (d_andV (d_call (k := .v) (a_cons (d_var rfl) (a_cons d_int (a_cons d_int a_nil))) ⟨tupD e, 0, 10, rfl, small_ints (by omega), rfl, rfl⟩) fun _ => e_inRL (d_var rfl) (d_var rfl)) (.inr ⟨rfl, rfl⟩) (.inl rfl)
  · exact s_ret (Ev.to (d_andV (d_call (k := .v) (a_cons (d_var rfl) (a_cons d_int (a_cons d_int a_nil))) ⟨tupD e, 0, 10, rfl, small_ints (by omega), rfl, rfl⟩) fun _ => e_inRL (d_var rfl) (d_var rfl)) (by rw [decide_eq_false no, Bool.and_false])) (.inr ⟨rfl, rfl⟩) (.inl rfl)
  · exact s_ret (Ev.to (d_andV (a := false) (b := true) (d_call (k := .v) (a_cons (d_var rfl) (a_cons d_int (a_cons d_int a_nil))) ⟨x, 0, 10, rfl, sm, rfl, by rw [ha]⟩) fun e => nomatch e) rfl) (.inr ⟨rfl, rfl⟩) (.inl rfl)

theorem ok_is_used {P : Program} {w : World} {K : PySem.W.Frag} {mg : Str → Option Value} {base : Heap} {f : Addr} {fd : FuncData} (F : Fun K "is_used" "is_used" s_is_used f fd) (T : Txt mg) :
    FnOk P w K mg base CX0 1 f fd p_is_used (sp_is_used K) := by
  refine F.ok sc_is_used (fun vs H Q E h => spD_len h (by rintro ds k d ⟨r, x, y, rfl, _⟩; rfl)) (fun cdv A outer s H vs Q E hr h => ⟨_, (pss_cons (ps_asg (pv 1) (k_tupA (K := K) (n := 2) rfl rfl (pgs_cons (pg_name (i := 2) sc_is_used.nd rfl (Or.inl rfl)) (pgs_cons (pg_name (i := 3) sc_is_used.nd rfl (Or.inl rfl)) pgs_nil))))
      (pss_one (ps_ret (pe_cmpR op_gt (pe_ix (k_ix (K := K) rfl) (pv 0) (pe_op op_sub (pv 2) pe_int) (fun _ _ => rfl)) (pv 3) (nomark _))))), run_pure (N := n_is_used) (fun ds k d hp => ?_) h⟩)
  obtain ⟨r, x, y, rfl, hx, rfl, rfl⟩ := hp
  refine q_unp (fun d => d = tupD [((x + 1 : Nat) : Int), (y : Int)]) (d_var rfl).n ?_
  rintro d rfl
  refine ⟨_, _, _, .inl rfl, rfl, rfl, g_cons g_name (g_cons g_name g_nil), ?_⟩
  exact s_ret (Ev.to (d_gt (e_ixT (d_var rfl) ((d_sub (d_var rfl) d_int).to (y := .int (x : Int)) (by congr 1; omega)) (at_ints hx) rfl) (d_var rfl)) (by unfold usB; simp)) (.inr ⟨rfl, rfl⟩) (.inl rfl)

theorem ok_are_together {P : Program} {w : World} {K : PySem.W.Frag} {mg : Str → Option Value} {base : Heap} {f : Addr} {fd : FuncData} (F : Fun K "are_together" "are_together" s_are_together f fd) (T : Txt mg) (c_is_used : Cal P w K mg base CX0 1 "is_used" p_is_used (sp_is_used K)) :
    FnOk P w K mg base CX0 2 f fd p_are_together (sp_are_together K) := by
  refine F.ok sc_are_together (fun vs H Q E h => spD_len h (by rintro ds k d ⟨F, v, x, y, x', y', rfl, _⟩; rfl)) (fun cdv A outer s H vs Q E hr h => ⟨_, (pss_one (ps_ret (pe_and (pe_cmpR (k_ne (K := K) rfl (rUnits hr)) (pv 1) (pv 2) (nomark _)) (pe_one (pe_callB (k_any (K := K) rfl rfl) rfl T.b_any (by decide +kernel) (pa_cons (pe_lc rfl sc_are_together.nd (k_seq (K := K) rfl (pv 0)) (blkOk_by (own := [("shares", 3)]) (N := n_are_together) (sc := defScope s_are_together) (by decide +kernel)) (fun _ _ _ _ _ => by exact (pg_name (i := 3) sc_are_together.nd rfl (Or.inl rfl))) (fun _ _ _ _ _ => by exact pts_nil) (fun _ _ _ _ _ => by exact (pe_and (pe_cal c_is_used (hr.mono (by decide)) rfl pass0 (pa_cons (pv 3) (pa_cons (pv 1) pa_nil))) (pe_one (pe_cal c_is_used (hr.mono (by decide)) rfl pass0 (pa_cons (pv 3) (pa_cons (pv 2) pa_nil))))))) pa_nil)))))), run_pure (N := n_are_together) (fun ds k d hp => ?_) h⟩)
  obtain ⟨F, v, x, y, x', y', rfl, h, hx, hx', rfl, rfl⟩ := hp
  have l5 := h.l5
  refine s_ret (d_andV (e_neTT (ns := [((x + 1 : Nat) : Int), (y : Int)]) (ms := [((x' + 1 : Nat) : Int), (y' : Int)]) (d_var rfl) (d_var rfl)) fun _ => d_any (d_lcB (l := F) (en := tupI) (fun r => usB r [((x + 1 : Nat) : Int), (y : Int)] && usB r [((x' + 1 : Nat) : Int), (y' : Int)]) (i_rowsT (d_var rfl) kv_ne) (by omega) fun r hr => ⟨_, _, g_name, fun j hj => hj, .v, d_andV (d_call (k := .v) (a_cons (d_var rfl) (a_cons (d_var rfl) a_nil)) ⟨r, x, y, rfl, by have := (h.shr r hr).len; omega, rfl, rfl⟩) fun _ => d_call (k := .v) (a_cons (d_var rfl) (a_cons (d_var rfl) a_nil)) ⟨r, x', y', rfl, by have := (h.shr r hr).len; omega, rfl, rfl⟩⟩)) (.inr ⟨rfl, rfl⟩) (.inl rfl)

theorem ok_coexist {P : Program} {w : World} {K : PySem.W.Frag} {mg : Str → Option Value} {base : Heap} {f : Addr} {fd : FuncData} (F : Fun K "coexist" "coexist" s_coexist f fd) (T : Txt mg) (c_entries : Cal P w K mg base CX0 6 "entries" p_entries (sp_entries K)) (c_require : Cal P w K mg base CX0 1 "require" p_require (sp_require K)) (c_are_together : Cal P w K mg base CX0 2 "are_together" p_are_together (sp_are_together K)) (c_is_entry : Cal P w K mg base CX0 3 "is_entry" p_is_entry (sp_is_entry68 K)) :
    FnOk P w K mg base CX0 7 f fd p_coexist (sp_coexist K) := by
  refine F.ok sc_coexist (fun vs H Q E h => spD_len h (by rintro ds k d ⟨F, v, e, f, rfl, _⟩; rfl)) (fun cdv A outer s H vs Q E hr h => ⟨_, (pss_cons (ps_set (i := 4) sc_coexist.nd rfl (Or.inl rfl) (pe_cal c_entries (hr.mono (by decide)) rfl pass0 (pa_cons (pv 0) (pa_cons (pv 1) pa_nil))))
      (pss_cons (ps_expr (pe_cal c_require (hr.mono (by decide)) rfl pass0 (pa_cons (pe_cal c_is_entry (hr.mono (by decide)) rfl pass0 (pa_cons (pv 2) (pa_cons (pv 4) pa_nil))) (pa_cons pe_str pa_nil))))
      (pss_cons (ps_expr (pe_cal c_require (hr.mono (by decide)) rfl pass0 (pa_cons (pe_cal c_is_entry (hr.mono (by decide)) rfl pass0 (pa_cons (pv 3) (pa_cons (pv 4) pa_nil))) (pa_cons pe_str pa_nil))))
      (pss_one (ps_ret (pe_cal c_are_together (hr.mono (by decide)) rfl pass0 (pa_cons (pv 1) (pa_cons (pv 2) (pa_cons (pv 3) pa_nil))))))))), run_pure (N := n_coexist) (fun ds k d hp => ?_) h⟩)
  obtain ⟨F, v, e, f, rfl, h, he, hf, rfl, rfl⟩ := hp
  have ten : ∀ e ∈ entL (gsL F (v - 1)), ∃ x y : Nat, e = [((x + 1 : Nat) : Int), (y : Int)] ∧ x < v - 1 ∧ y ≤ 9 := fun e he => by
    obtain ⟨x, y, rfl, hx, hy⟩ := mem_ent.mp he
    rw [gs_len] at hx
    rw [gs_at hx] at hy
    obtain ⟨r, hr, e⟩ := List.mem_map.mp (mxL_mem (ns := F.map fun r => r.getD x 0) (by rw [List.length_map]; have := h.l1; omega))
    have := (h.shr r hr).le _ (gd_mem (l := r) (j := x) (by have := (h.shr r hr).len; omega))
    exact ⟨x, y, rfl, hx, by omega⟩
  have v5 := h.v5
  have isE : ∀ e ∈ entL (gsL F (v - 1)), (areInts (tupD e) 0 10 && decide (e ∈ entL (gsL F (v - 1)))) = true ∧ e.length ≤ 1000 := fun e he => by
    obtain ⟨x, y, rfl, hx, hy⟩ := ten e he
    refine ⟨?_, by simp⟩
    rw [decide_eq_true he, Bool.and_true]
    exact areInts_of fun n hn => by
      simp only [List.mem_cons, List.not_mem_nil, or_false] at hn
      rcases hn with rfl | rfl <;> omega
  refine q_asgO (d := .list ((entL (gsL F (v - 1))).map tupD)) (d_call (k := .o) (a_cons (d_var rfl) (a_cons (d_var rfl) a_nil)) ⟨F, v, rfl, h, rfl, rfl⟩) ?_
  refine q_drop (d_call (k := .v) (d := .none) (a_cons (d_call (k := .v) (d := .bool true) (a_cons (d_var rfl) (a_cons (d_varO rfl) a_nil)) ⟨_, entL (gsL F (v - 1)), rfl, rfl, .inl ⟨e, rfl, (isE e he).2, by rw [(isE e he).1]⟩⟩) (a_cons d_str a_nil)) ⟨_, rfl, rfl, rfl⟩) ?_
  refine q_drop (d_call (k := .v) (d := .none) (a_cons (d_call (k := .v) (d := .bool true) (a_cons (d_var rfl) (a_cons (d_varO rfl) a_nil)) ⟨_, entL (gsL F (v - 1)), rfl, rfl, .inl ⟨f, rfl, (isE f hf).2, by rw [(isE f hf).1]⟩⟩) (a_cons d_str a_nil)) ⟨_, rfl, rfl, rfl⟩) ?_
  obtain ⟨x, y, rfl, hx, hy⟩ := ten e he
  obtain ⟨x', y', rfl, hx', hy'⟩ := ten f hf
  exact s_ret (d_call (k := .v) (a_cons (d_var rfl) (a_cons (d_var rfl) (a_cons (d_var rfl) a_nil))) ⟨F, v, x, y, x', y', rfl, h, hx, hx', rfl, rfl⟩) (.inr ⟨rfl, rfl⟩) (.inl rfl)

theorem ok_all_heights {P : Program} {w : World} {K : PySem.W.Frag} {mg : Str → Option Value} {base : Heap} {f : Addr} {fd : FuncData} (F : Fun K "all_heights" "all_heights" s_all_heights f fd) (T : Txt mg) :
    FnOk P w K mg base CX0 1 f fd p_all_heights (sp_all_heights K) := by
  refine F.ok sc_all_heights (fun vs H Q E h => spD_len h (by rintro ds k d ⟨F, v, rfl, _⟩; rfl)) (fun cdv A outer s H vs Q E hr h => ⟨_, (pss_cons (ps_set (i := 1) sc_all_heights.nd rfl (Or.inl rfl) (pe_lst (pa_cons (pe_tupN pa_nil) pa_nil)))
      (pss_cons (ps_for PassesOwn.never rfl (pi_range1 rfl T.b_range (pa_cons (pe_callB (k_len (K := K) rfl) rfl T.b_len (by decide +kernel) (pa_cons (pe_ix (k_ix (K := K) rfl) (pv 0) pe_int (fun _ _ => rfl)) pa_nil)) pa_nil)) (pg_name (i := 2) sc_all_heights.nd rfl (Or.inr rfl)) (pss_cons (ps_set (i := 3) sc_all_heights.nd rfl (Or.inr rfl) (pe_callB (cr_sortedSet rfl) rfl T.b_sorted (by decide +kernel) (pa_cons (pe_callTy (k_setLI (K := K) rfl rfl) rfl T.b_set (by decide +kernel) (pa_cons (pe_op (k_add (K := K) rfl) (pe_lst (pa_cons pe_int pa_nil)) (pe_lc rfl sc_all_heights.nd (k_seq (K := K) rfl (pv 0)) (blkOk_by (own := [("shares", 4)]) (N := n_all_heights) (sc := defScope s_all_heights) (by decide +kernel)) (fun _ _ _ _ _ => by exact (pg_name (i := 4) sc_all_heights.nd rfl (Or.inl rfl))) (fun _ _ _ _ _ => by exact pts_nil) (fun _ _ _ _ _ => by exact (pe_ix (k_ix (K := K) rfl) (pv 4) (pv 2) (fun _ _ => rfl))))) pa_nil)) pa_nil)))
      (pss_one (ps_setLc2 (vs1 := [6]) (i := 1) rfl sc_all_heights.nd rfl rfl (sw_true rfl rfl rfl (by decide +kernel)) (k_seq (K := K) rfl (pv 1)) (blkOk_by (own := [("row", 5), ("height", 6)]) (N := n_all_heights) (sc := defScope s_all_heights) (by decide +kernel)) (by decide) (fun _ _ _ _ _ => by exact (pg_name (i := 5) sc_all_heights.nd rfl (Or.inl rfl))) (fun _ _ _ _ _ => by exact pts_nil) (fun _ _ _ _ _ => by exact (k_seq (K := K) rfl (pv 3))) (fun _ _ _ _ _ => by exact (pg_name (i := 6) sc_all_heights.nd rfl (Or.inl rfl))) (fun _ _ _ _ _ => by exact pts_nil) (fun _ _ _ _ _ => by exact (pe_op (k_add (K := K) rfl) (pv 5) (pe_tupN (pa_cons (pv 6) pa_nil))))))))
      (pss_one (ps_ret (pv 1))))), run_pure (N := n_all_heights) (fun ds k d hp => ?_) h⟩)
  obtain ⟨F, v, rfl, h, rfl, rfl⟩ := hp
  have v1 := h.v1
  have v5 := h.v5
  have l1 := h.l1
  have l5 := h.l5
  have hs := h.shr _ (gL_mem (Ls := F) (i := 0) (by omega))
  have sl := hs.len
  obtain ⟨lM, hM, hMx, hMl⟩ := fam_box h
  obtain ⟨M, eM⟩ : ∃ M, M = gsL F (v - 1) := ⟨_, rfl⟩
  rw [← eM] at lM hM hMx hMl
  have sub : ∀ n ≤ M.length, (prdF n (hgtL F M)).length ≤ 14641 := fun n hn => by
    have e1 : prdF n (hgtL F M) = prdF n fun i => (upI 0 ((M.take n).getD i 0 + 1).toNat).filter (shrB F i) := by
      unfold prdF
      congr 1
      refine List.map_congr_left fun i hi => ?_
      have hi := List.mem_range.mp hi
      unfold hgtL
      rw [List.getD_eq_getElem?_getD (l := M.take n), List.getElem?_take, if_pos hi, ← List.getD_eq_getElem?_getD]
    have hl : (M.take n).length = n := by rw [List.length_take]; omega
    have e2 := box_prd (M := M.take n)
    rw [hl] at e2
    rw [e1, prdF_filter, ← e2]
    exact Nat.le_trans (List.length_filter_le _ _) (box_len (fun m hm => hM m (List.mem_of_mem_take hm)) (by omega))
  rw [← eM]
  refine q_asgO (d := .list ((prdF 0 (hgtL F M)).map tupD)) (d_lst (kv := false) (a_cons (d_tup a_nil (by simp)) a_nil) rfl (by simp [prdF, prodL])) ?_
  refine q_for (i_rngN (n := v - 1) (a_cons (Ev.to (d_lenT (e_ixT (d_var rfl) d_int (at_tup (A := F) (j := 0) (by omega)) (flatT _))) (by rw [List.length_map]; congr 1; omega)) a_nil) (by omega))
    (fun n Γ1 => ∃ t2 t3, Γ1 = [some (.v (.tuple (F.map tupD))), some (.o (.list ((prdF n (hgtL F M)).map tupD))), t2, t3, none, none, none]) ⟨_, _, rfl⟩ (fun n a Γ1 hn' hI => ?_) (fun Γ1 hI => ?_)
  · obtain ⟨t2, t3, rfl⟩ := hI
    have hn : n < v - 1 := by have := (List.getElem?_eq_some_iff.mp hn').1; simpa using this
    have ea : a = .d (.int (n : Int)) := by
      rw [List.getElem?_map, List.getElem?_range hn] at hn'
      exact (Option.some.inj hn').symm
    subst ea
    have s0 := sub n (by omega)
    have s1 := sub (n + 1) (by omega)
    have eH : hgtL F M n = sdI (0 :: F.map fun r => r.getD n 0) := by rw [eM]; exact hgtL_sd h hn
    refine ⟨_, _, g_name, ?_⟩
    refine q_asgO (d := .list ((hgtL F M n).map .int)) ((e_sortSetL (ns := 0 :: F.map fun r => r.getD n 0) (Ev.to (e_catL (ds := [.int 0]) (es := (F.map fun r => r.getD n 0).map .int) (d_lst (kv := false) (a_cons d_int a_nil) rfl (by decide)) rfl (d_lcI (l := F) (en := tupI) (fun r => r.getD n 0) (i_rowsT (d_var rfl) kv_ne) (by omega) fun r hr => ⟨_, _, g_name, fun j hj => hj, .v, e_ixT (d_var rfl) (d_var rfl) (at_ints (by have := (h.shr r hr).len; omega)) rfl⟩) (flatAll_ints _) (by simp; omega)) rfl) (by simp; omega)).to (by rw [eH])) ?_
    refine s_freeze (n := 3) rfl ?_
    refine s_freeze (n := 1) rfl ?_
    have em : ((prdF n (hgtL F M)).flatMap fun r => (hgtL F M n).map fun x => tupD (r ++ [x])) = (prdF (n + 1) (hgtL F M)).map tupD := by
      rw [prdF_succ, List.map_flatMap]
      congr 1
      funext t
      rw [List.map_map]
      rfl
    refine s_asgO (d := .list ((prdF (n + 1) (hgtL F M)).map tupD)) ((d_lc2 (l := prdF n (hgtL F M)) (en := tupI) (l2 := fun _ => hgtL F M n) (en2 := imI) (fun r x => tupD (r ++ [x])) (i_rows (d_var rfl) kv_ne) (by rw [em, List.length_map]; omega) (by rw [em]; exact fl_rows _) fun r hr => ⟨_, _, g_name, fun j hj => by simp at hj ⊢; omega, rfl, i_seqLI (d_var rfl) kv_ne, fun x hx => ⟨_, _, g_name, fun j hj => by simp at hj ⊢; omega, (e_catT (d_var rfl) (d_tup (a_consV (d_var rfl) a_nil) (by simp)) ?_).to (by simp)⟩⟩).to (by rw [em])) (.inl ⟨_, .inl rfl, _, _, rfl⟩)
    have := prdF_mem hr
    rw [List.length_map]
    simp
    omega
  · obtain ⟨t2, t3, rfl⟩ := hI
    rw [List.length_map, List.length_range, show v - 1 = M.length by omega]
    exact s_retO rfl (.inl rfl)

theorem ok_is_clique {P : Program} {w : World} {K : PySem.W.Frag} {mg : Str → Option Value} {base : Heap} {f : Addr} {fd : FuncData} (F : Fun K "is_clique" "is_clique" s_is_clique f fd) (T : Txt mg) (c_are_together : Cal P w K mg base CX0 2 "are_together" p_are_together (sp_are_together K)) :
    FnOk P w K mg base CX0 3 f fd p_is_clique (sp_is_clique K) := by
  refine F.ok sc_is_clique (fun vs H Q E h => spD_len h (by rintro ds k d ⟨F, v, h, rfl, _⟩; rfl)) (fun cdv A outer s H vs Q E hr h => ⟨_, (pss_cons (ps_setLc (i := 2) rfl sc_is_clique.nd rfl rfl (sw_true rfl rfl rfl (by decide +kernel)) (k_enumS (K := K) (m := 1) rfl rfl T.b_enumerate (by decide) (pa_cons (pv 1) pa_nil) pe_int) (blkOk_by (own := [("variant", 3), ("height", 4)]) (N := n_is_clique) (sc := defScope s_is_clique) (by decide +kernel)) (fun _ _ _ _ _ => by exact (k_tup (K := K) (n := 2) rfl rfl (pgs_cons (pg_name (i := 3) sc_is_clique.nd rfl (Or.inl rfl)) (pgs_cons (pg_name (i := 4) sc_is_clique.nd rfl (Or.inl rfl)) pgs_nil)))) (fun _ _ _ _ _ => by exact (pts_one (pt_cmpR op_gt (pv 4) pe_int (nomark _)))) (fun _ _ _ _ _ => by exact (pe_tupN (pa_cons (pv 3) (pa_cons (pe_op op_sub (pv 4) pe_int) pa_nil)))))
      (pss_one (ps_ret (pe_callB (k_all (K := K) rfl rfl) rfl T.b_all (by decide +kernel) (pa_cons (pe_lc rfl sc_is_clique.nd (pk_comb (K := K) rfl rfl rfl T.i_combinations (pa_cons (pv 2) (pa_cons pe_int pa_nil))) (blkOk_by (own := [("one", 5), ("two", 6)]) (N := n_is_clique) (sc := defScope s_is_clique) (by decide +kernel)) (fun _ _ _ _ _ => by exact (k_tup (K := K) (n := 2) rfl rfl (pgs_cons (pg_name (i := 5) sc_is_clique.nd rfl (Or.inl rfl)) (pgs_cons (pg_name (i := 6) sc_is_clique.nd rfl (Or.inl rfl)) pgs_nil)))) (fun _ _ _ _ _ => by exact pts_nil) (fun _ _ _ _ _ => by exact (pe_cal c_are_together (hr.mono (by decide)) rfl pass0 (pa_cons (pv 0) (pa_cons (pv 5) (pa_cons (pv 6) pa_nil)))))) pa_nil))))), run_pure (N := n_is_clique) (fun ds k d hp => ?_) h⟩)
  obtain ⟨F, v, h, rfl, hF, hl, hn, rfl, rfl⟩ := hp
  have v5 := hF.v5
  have tl : (topsL h).length ≤ 4 := by
    unfold topsL
    have := List.length_filter_le (fun i => decide (0 < h.getD i 0)) (List.range h.length)
    rw [List.length_map]
    rw [List.length_range] at this
    omega
  refine q_asgO (d := .list ((topsL h).map tupD)) (Ev.to (d_lc (l := List.range h.length) (en := fun i => Im.t [.d (.int ((i + 1 : Nat) : Int)), .d (.int (h.getD i 0))]) (fun i => decide (0 < h.getD i 0)) (fun i => tupD (topI h i)) (enumS_at ▸ i_enumS (m := 1) (a_consV (d_var rfl) a_nil)) (by simp; omega) fun i hi => ⟨_, _, g_tup rfl (g_cons g_name (g_cons g_name g_nil)), fun j hj => hj, t_test (d_gt (d_var rfl) d_int), fun _ => (d_tup (a_consV (d_var rfl) (a_consV (d_sub (d_var rfl) d_int) a_nil)) (by simp)).fo rfl⟩) (by unfold topsL; rw [List.map_map]; rfl)) ?_
  have pl : (pairL (topsL h).length).length ≤ 1000000 := by
    have : ∀ n < 5, (pairL n).length ≤ 1000000 := by decide
    exact this _ (by omega)
  have it : EvI (pc K) (iCombL K (tCons (tVar 2) (tCons (tC (.int ((2 : Nat) : Int))) tNil))) [some (.v (.tuple (F.map tupD))), some (.v (tupD h)), some (.o (.list ((topsL h).map tupD))), none, none, none, none] true ((pairL (topsL h).length).map fun ks => .d (pickD ((topsL h).map tupD) ks)) := by
    rw [← cmb_pairs (topsL h).length (by omega)]
    exact i_combL (k := 2) (d_varO rfl) (fl_rows _) (by rw [List.length_map]; omega) (by decide) (by rw [List.length_map]; exact cmb_ok2 (by omega))
  refine s_ret (Ev.to (d_all (d_lcB (l := pairL (topsL h).length) (en := fun ks => .d (pickD ((topsL h).map tupD) ks)) (fun ks => togB F ((topsL h).getD (ks.getD 0 0) []) ((topsL h).getD (ks.getD 1 0) [])) it pl fun ks hk => ?_)) ?_) (.inr ⟨rfl, rfl⟩) (.inl rfl)
  · obtain ⟨i, j, rfl, hi, hj⟩ := pair_ty hk
    obtain ⟨x, y, e1, hx, _⟩ := mem_tops (h := h) (e := (topsL h).getD i []) (gL_mem hi) hn
    obtain ⟨x', y', e2, hx', _⟩ := mem_tops (h := h) (e := (topsL h).getD j []) (gL_mem hj) hn
    have ep : pickD ((topsL h).map tupD) [i, j] = .tuple [tupD ((topsL h).getD i []), tupD ((topsL h).getD j [])] := by
      unfold pickD
      simp [List.getD_eq_getElem?_getD, List.getElem?_eq_getElem hi, List.getElem?_eq_getElem hj]
    rw [ep]
    refine ⟨_, _, g_tupD rfl (g_cons g_name (g_cons g_name g_nil)), fun j hj => hj, .v, ?_⟩
    show Ev _ _ _ _ (.bool (togB F ((topsL h).getD i []) ((topsL h).getD j [])))
    rw [e1, e2]
    exact d_call (k := .v) (a_cons (d_var rfl) (a_cons (d_var rfl) (a_cons (d_var rfl) a_nil))) ⟨F, v, x, y, x', y', rfl, hF, by omega, by omega, rfl, rfl⟩
  · unfold cliqB prsB
    rw [List.all_map]
    rfl

theorem ok_greatest_clique {P : Program} {w : World} {K : PySem.W.Frag} {mg : Str → Option Value} {base : Heap} {f : Addr} {fd : FuncData} (F : Fun K "greatest_clique" "greatest_clique" s_greatest_clique f fd) (T : Txt mg) (c_check_family : Cal P w K mg base CX0 5 "check_family" p_check_family (sp_check_family K)) (c_all_heights : Cal P w K mg base CX0 1 "all_heights" p_all_heights (sp_all_heights K)) (c_is_clique : Cal P w K mg base CX0 3 "is_clique" p_is_clique (sp_is_clique K)) :
    FnOk P w K mg base CX0 6 f fd p_greatest_clique (sp_greatest_clique K) := by
  refine F.ok sc_greatest_clique (fun vs H Q E h => spD_len h (by rintro ds k d ⟨F, v, rfl, _⟩; rfl)) (fun cdv A outer s H vs Q E hr h => ⟨_, (pss_cons (ps_expr (pe_cal c_check_family (hr.mono (by decide)) rfl pass0 (pa_cons (pv 0) (pa_cons (pv 1) pa_nil))))
      (pss_cons (ps_setLc (i := 2) rfl sc_greatest_clique.nd rfl rfl (sw_true rfl rfl rfl (by decide +kernel)) (k_seq (K := K) rfl (pe_cal c_all_heights (hr.mono (by decide)) rfl pass0 (pa_cons (pv 1) pa_nil))) (blkOk_by (own := [("heights", 3)]) (N := n_greatest_clique) (sc := defScope s_greatest_clique) (by decide +kernel)) (fun _ _ _ _ _ => by exact (pg_name (i := 3) sc_greatest_clique.nd rfl (Or.inl rfl))) (fun _ _ _ _ _ => by exact (pts_one (pt_val (pe_cal c_is_clique (hr.mono (by decide)) rfl pass0 (pa_cons (pv 1) (pa_cons (pv 3) pa_nil)))))) (fun _ _ _ _ _ => by exact (pv 3)))
      (pss_cons (ps_set (i := 4) sc_greatest_clique.nd rfl (Or.inl rfl) (k_maxSum (K := K) rfl rfl rfl T.b_max rfl T.b_sum (pa_cons (pv 2) pa_nil)))
      (pss_one (ps_ret (pe_tupN (pa_cons (pe_callB (k_sum (K := K) rfl rfl) rfl T.b_sum (by decide +kernel) (pa_cons (pv 4) pa_nil)) (pa_cons (pv 4) pa_nil)))))))), run_pure (N := n_greatest_clique) (fun ds k d hp => ?_) h⟩)
  obtain ⟨F, v, rfl, h, rfl, rfl⟩ := hp
  have v5 := h.v5
  obtain ⟨lM, hM, hMx, hMl⟩ := fam_box h
  obtain ⟨M, eM⟩ : ∃ M, M = gsL F (v - 1) := ⟨_, rfl⟩
  rw [← eM] at lM hM hMx hMl
  obtain ⟨lp, best⟩ := greatest_is (fun m hm => (hM m hm).1) hMx hMl
  have sub : (prdF M.length (hgtL F M)).length ≤ 14641 := by
    rw [show hgtL F M = fun i => (upI 0 (M.getD i 0 + 1).toNat).filter (shrB F i) from rfl, prdF_filter, ← box_prd]
    exact Nat.le_trans (List.length_filter_le _ _) (box_len hM (by omega))
  have inB : ∀ r ∈ prdF M.length (hgtL F M), r ∈ boxL M := fun r hr => by
    rw [show hgtL F M = fun i => (upI 0 (M.getD i 0 + 1).toNat).filter (shrB F i) from rfl, prdF_filter, ← box_prd] at hr
    exact (List.mem_filter.mp hr).1
  rw [← eM]
  refine q_drop (d_call (k := .v) (d := .none) (a_cons (d_var rfl) (a_cons (d_var rfl) a_nil)) ⟨F, (v : Int), rfl, h, rfl, rfl⟩) ?_
  refine q_asgO (d := .list ((clqL F M).map tupD)) (d_lc (l := prdF M.length (hgtL F M)) (en := fun r => .d (tupD r)) (cliqB F) tupD (i_rows (d_call (k := .o) (a_cons (d_var rfl) a_nil) ⟨F, v, rfl, h, rfl, by rw [eM]⟩) (fun w => nomatch w)) (by omega) fun r hr => ⟨_, _, g_name, fun j hj => hj, t_B (d_call (k := .v) (a_cons (d_var rfl) (a_cons (d_var rfl) a_nil)) ⟨F, v, r, rfl, h, ?_, ?_, rfl, rfl⟩), fun _ => (d_var rfl).fo (flatT _)⟩) ?_
  · have := ((mem_box fun m hm => (hM m hm).1).mp (inB r hr)).1
    omega
  · intro x hx
    obtain ⟨a, b⟩ := (mem_box fun m hm => (hM m hm).1).mp (inB r hr)
    obtain ⟨i, hi, rfl⟩ := List.getElem_of_mem hx
    have c := b i (by omega)
    rw [List.getD_eq_getElem?_getD, List.getElem?_eq_getElem hi, Option.getD_some] at c
    have := hM _ (gd_mem (l := M) (j := i) (by omega))
    omega
  · have lt := (bestI_first (f := fun j => ((clqL F M).getD j []).sum) (lt := sumLt (clqL F M)) (fun j i => rfl) ((clqL F M).length - 1) 1 0 (by decide) (fun m hm => by
      have : m = 0 := by omega
      subst this
      exact ⟨Int.le_refl _, fun w => absurd w (Nat.lt_irrefl _)⟩)).1
    obtain ⟨r, hr⟩ : ∃ r, (clqL F M)[bestI (sumLt (clqL F M)) ((clqL F M).length - 1) 1 0]? = some r := ⟨_, List.getElem?_eq_getElem (by omega)⟩
    obtain ⟨b1, b2⟩ := best r hr
    refine q_asg (e_maxSum (d_varO rfl) lp hr) ?_
    exact s_ret (Ev.to (d_tup (a_consV (e_sumT (d_var rfl)) (a_consV (d_var rfl) a_nil)) (by simp)) (by rw [b1, b2]; rfl)) (.inr ⟨rfl, by rw [b2]; simp [flatD, flatAll, hgtD, flatAll_ints]⟩) (.inl rfl)

theorem ok_first_fault {P : Program} {w : World} {K : PySem.W.Frag} {mg : Str → Option Value} {base : Heap} {f : Addr} {fd : FuncData} (F : Fun K "first_fault" "first_fault" s_first_fault f fd) (T : Txt mg) :
    FnOk P w K mg base CX0 1 f fd p_first_fault (sp_first_fault K) := by
  refine F.ok sc_first_fault (fun vs H Q E h => spD_len h (by rintro ds k d ⟨L, r, v, b, rfl, _⟩; rfl)) (fun cdv A outer s H vs Q E hr h => ⟨_, (pss_cons (ps_for PassesOwn.never rfl (k_enumS (K := K) (m := 1) rfl rfl T.b_enumerate (by decide) (pa_cons (pv 1) pa_nil) pe_int) (k_tup (K := K) (n := 2) rfl rfl (pgs_cons (pg_name (i := 2) sc_first_fault.nd rfl (Or.inl rfl)) (pgs_cons (pg_name (i := 3) sc_first_fault.nd rfl (Or.inl rfl)) pgs_nil))) (pss_one (ps_if (pt_cmpR op_lt (pe_callB (k_len (K := K) rfl) rfl T.b_len (by decide +kernel) (pa_cons (pv 3) pa_nil)) (pe_ix (k_ix (K := K) rfl) (pv 0) (pe_op op_sub (pv 2) pe_int) (fun _ _ => rfl)) (nomark _)) (pss_one (ps_ret (pe_tupN (pa_cons (pe_tupN (pa_cons (pv 2) pa_nil)) (pa_cons pe_non pa_nil))))) pss_nil)))
      (pss_cons (ps_set (i := 4) sc_first_fault.nd rfl (Or.inr rfl) (pe_lc rfl sc_first_fault.nd (k_zip (K := K) rfl rfl T.b_zip (pa_cons (pv 1) (pa_cons (pv 0) pa_nil))) (blkOk_by (own := [("row", 3), ("share", 5)]) (N := n_first_fault) (sc := defScope s_first_fault) (by decide +kernel)) (fun _ _ _ _ _ => by exact (k_tup (K := K) (n := 2) rfl rfl (pgs_cons (pg_name (i := 3) sc_first_fault.nd rfl (Or.inl rfl)) (pgs_cons (pg_name (i := 5) sc_first_fault.nd rfl (Or.inl rfl)) pgs_nil)))) (fun _ _ _ _ _ => by exact pts_nil) (fun _ _ _ _ _ => by exact (pe_slice (k_slT (K := K) rfl) (pv 3) po_none (po_some (pv 5))))))
      (pss_cons (ps_for PassesOwn.never rfl (pi_comb rfl rfl T.i_combinations (pa_cons (pe_callTy cr_rng1 rfl T.b_range (by decide +kernel) (pa_cons (pe_callB (k_len (K := K) rfl) rfl T.b_len (by decide +kernel) (pa_cons (pv 4) pa_nil)) pa_nil)) (pa_cons pe_int pa_nil))) (k_tup (K := K) (n := 2) rfl rfl (pgs_cons (pg_name (i := 6) sc_first_fault.nd rfl (Or.inl rfl)) (pgs_cons (pg_name (i := 7) sc_first_fault.nd rfl (Or.inr rfl)) pgs_nil))) (pss_cons (ps_setLc (i := 8) rfl sc_first_fault.nd rfl rfl (sw_true rfl rfl rfl (by decide +kernel)) (k_seq (K := K) rfl (pe_ix (k_ix (K := K) rfl) (pv 4) (pv 6) (fun _ _ => rfl))) (blkOk_by (own := [("bucket", 9)]) (N := n_first_fault) (sc := defScope s_first_fault) (by decide +kernel)) (fun _ _ _ _ _ => by exact (pg_name (i := 9) sc_first_fault.nd rfl (Or.inl rfl))) (fun _ _ _ _ _ => by exact (pts_one (pt_cmpR (k_in (K := K) rfl) (pv 9) (pe_ix (k_ix (K := K) rfl) (pv 4) (pv 7) (fun _ _ => rfl)) (by with_unfolding_all rfl)))) (fun _ _ _ _ _ => by exact (pv 9)))
      (pss_one (ps_if (k_tru (K := K) rfl (pv 8)) (pss_one (ps_ret (pe_tupN (pa_cons (pe_tupN (pa_cons (pe_op (k_add (K := K) rfl) (pv 6) pe_int) (pa_cons (pe_op (k_add (K := K) rfl) (pv 7) pe_int) pa_nil))) (pa_cons (pe_callB (k_min (K := K) rfl rfl) rfl T.b_min (by decide +kernel) (pa_cons (pv 8) pa_nil)) pa_nil))))) pss_nil))))
      (pss_one (ps_ret pe_non))))), run_pure (N := n_first_fault) (fun ds k d hp => ?_) h⟩)
  obtain ⟨L, r, v, b, rfl, hr, hL, v1, v5, rfl, rfl⟩ := hp
  have rl := hr.len
  have ll := hL.len
  have lr : L.length = r.length := by omega
  have hfl := flat_flt (L := L) (r := r)
  refine q_for (items := (List.range L.length).map fun i => .t [.d (.int ((i + 1 : Nat) : Int)), .d (tupD (L.getD i []))]) (enumS_rows ▸ i_enumS (m := 1) (a_consV (d_var rfl) a_nil))
    (fun n Γ1 => ∃ t2 t3 t4 t5 t6 t7 t8 t9, Γ1 = [some (.v (.tuple (r.map .int))), some (.v (.tuple (L.map tupD))), t2, t3, t4, t5, t6, t7, t8, t9] ∧ ((List.range n).find? fun i => decide (((L.getD i []).length : Int) < r.getD i 0)) = none) ⟨_, _, _, _, _, _, _, _, rfl, rfl⟩ (fun n a Γ1 hn' hI => ?_) (fun Γ1 hI => ?_)
  · obtain ⟨t2, t3, t4, t5, t6, t7, t8, t9, rfl, hq⟩ := hI
    have hn : n < L.length := by have := (List.getElem?_eq_some_iff.mp hn').1; simpa using this
    have ea : a = .t [.d (.int ((n + 1 : Nat) : Int)), .d (tupD (L.getD n []))] := by
      rw [List.getElem?_map, List.getElem?_range hn] at hn'
      exact (Option.some.inj hn').symm
    subst ea
    have at1 : atI (r.map PyData.int) (((n + 1 : Nat) : Int) - 1) = some (.int (r.getD n 0)) := by
      rw [show (((n + 1 : Nat) : Int) - 1) = (n : Int) by omega]
      exact at_ints (by omega)
    refine ⟨_, _, g_tup rfl (g_cons g_name (g_cons g_name g_nil)), s_if (t_test (d_lt (d_lenT (d_var rfl)) (e_ixT (d_var rfl) (d_sub (d_var rfl) d_int) at1 rfl))) (fun w => ?_) fun w => s_next (.inl ⟨_, .inl rfl, _, _, t4, t5, t6, t7, t8, t9, rfl, ?_⟩)⟩
    · have w' : ((L.getD n []).length : Int) < r.getD n 0 := by simpa using of_decide_eq_true w
      have e : shortF L r = some n := find_here (by omega) hq (decide_eq_true w')
      refine s_ret ((d_tup (a_consV (d_tup (a_consV (d_var rfl) a_nil) (by simp)) (a_consV d_non a_nil)) (by simp)).to (y := fltD (faultD L r)) ?_) (.inr ⟨rfl, hfl⟩) (.inr (.inr ⟨_, _, rfl, .inl rfl⟩))
      unfold faultD
      rw [e]
      rfl
    · have w' : ¬ ((L.getD n []).length : Int) < r.getD n 0 := by simpa using w
      rw [List.range_succ, List.find?_append, hq]
      simp only [List.find?_cons, decide_eq_false w', List.find?_nil]
      rfl
  · obtain ⟨t2, t3, t4, t5, t6, t7, t8, t9, rfl, hq⟩ := hI
    have e0 : shortF L r = none := by
      unfold shortF
      simpa [lr] using hq
    have long : ∀ i < r.length, r.getD i 0 ≤ ((L.getD i []).length : Int) := fun i hi => by
      have := List.find?_eq_none.mp e0 i (List.mem_range.mpr hi)
      simp only [decide_eq_true_eq] at this
      omega
    have sub : ∀ i, ∀ x ∈ hdL L r i, x ∈ L.getD i [] := fun i x hx => List.mem_of_mem_take hx
    have hs : ∀ i, (hdL L r i).length ≤ 10 := fun i => by
      have : r.getD i 0 ≤ 10 := by
        rw [List.getD_eq_getElem?_getD]
        cases q : r[i]? with
        | none => simp
        | some x => exact hr.le x (List.mem_of_getElem? q)
      unfold hdL
      rw [List.length_take]
      omega
    refine q_asgO (d := .list ((hdsL L r).map tupD)) ((d_lcA (l := L.zip r) (en := fun p => .t [.d (tupD p.1), .d (.int p.2)]) (fun p => tupD (p.1.take p.2.toNat)) (zipD_sh ▸ i_zipT (a_consV (d_var rfl) (a_consV (d_var rfl) a_nil))) (by rw [List.length_zip]; omega) fun p hp => ⟨_, _, g_tup rfl (g_cons g_name (g_cons g_name g_nil)), fun j hj => hj, Ev.fo ((e_sl (d_var rfl) o_none (o_some (d_var rfl))).to (y := tupD (p.1.take p.2.toNat)) ?_) (flatT _)⟩).to ?_) ?_
    · obtain ⟨i, hi⟩ := List.getElem?_of_mem hp
      rw [List.getElem?_zip_eq_some] at hi
      have hir : i < r.length := (List.getElem?_eq_some_iff.mp hi.2).1
      have l1 := long i hir
      rw [List.getD_eq_getElem?_getD, List.getD_eq_getElem?_getD, hi.1, hi.2] at l1
      have p0 := hr.nn p.2 (List.of_mem_zip hp).2
      obtain ⟨t, ht⟩ := Int.eq_ofNat_of_zero_le p0
      rw [ht] at l1 ⊢
      have l2 : t ≤ (p.1.map PyData.int).length := by simp at l1 ⊢; exact l1
      show PyData.tuple (cutD (p.1.map PyData.int) none (some (t : Int))) = _
      rw [cutD_hi l2, ← List.map_take]
      rfl
    · rw [← hds_zip lr, List.map_map]
      rfl
    refine q_for (items := (pairL r.length).map fun ks => .d (plcD ks)) (cmb_pairs r.length (by omega) ▸ i_comb (n := r.length) (k := 2) ((d_lenL (d_varO rfl)).to (by simp [hdsL])) (by omega) (by decide) (cmb_ok2 (by omega)))
      (fun m Γ1 => ∃ t2 t3 t5 t6 t7 t8 t9, Γ1 = [some (.v (.tuple (r.map .int))), some (.v (.tuple (L.map tupD))), t2, t3, some (.o (.list ((hdsL L r).map tupD))), t5, t6, t7, t8, t9] ∧ (((pairL r.length).take m).find? fun p => !(comF L r (p.getD 0 0) (p.getD 1 0)).isEmpty) = none) ⟨_, _, _, _, _, _, _, rfl, rfl⟩ (fun m a Γ1 hm' hI => ?_) (fun Γ1 hI => ?_)
    · obtain ⟨t2, t3, t5, t6, t7, t8, t9, rfl, hq⟩ := hI
      have hm : m < (pairL r.length).length := by have := (List.getElem?_eq_some_iff.mp hm').1; simpa using this
      obtain ⟨i, j, ep, hij, hj⟩ := mem_pairL.mp (List.getElem_mem hm)
      have ea : a = .d (.tuple [.int (i : Nat), .int (j : Nat)]) := by
        rw [List.getElem?_map, List.getElem?_eq_getElem hm, ep] at hm'
        exact (Option.some.inj hm').symm
      subst ea
      have tk : (pairL r.length).take (m + 1) = (pairL r.length).take m ++ [[i, j]] := by rw [List.take_add_one, List.getElem?_eq_getElem hm, ep]; rfl
      refine ⟨_, _, g_tupD rfl (g_cons g_name (g_cons g_name g_nil)), ?_⟩
      refine q_asgO (d := .list ((comF L r i j).map .int)) (d_lc (l := hdL L r i) (en := imI) (fun x => decide (x ∈ hdL L r j)) (fun x => .int x) (i_seqTI (ns := hdL L r i) (e_ixL (d := tupD (hdL L r i)) (d_varO rfl) (d_var rfl) (hds_at (by omega)) (flatT _)) kv_ne) (by have := hs i; omega) fun x hx => ⟨_, _, g_name, fun j hj => hj, t_test (d_inT (neg := false) (d_var rfl) (e_ixL (d := tupD (hdL L r j)) (d_varO rfl) (d_var rfl) (hds_at hj) (flatT _))), fun _ => (d_var rfl).fo rfl⟩) ?_
      refine s_if (t_truL (d_varO rfl)) (fun w => ?_) fun w => s_next (.inl ⟨_, .inl rfl, t2, t3, t5, some (.v (.int (i : Nat))), some (.v (.int (j : Nat))), some (.o (.list ((comF L r i j).map .int))), t9, rfl, ?_⟩)
      · have w' : (comF L r i j).isEmpty = false := by simpa using w
        have pos : 0 < (comF L r i j).length := by
          cases q : comF L r i j with
          | nil => rw [q] at w'; cases w'
          | cons x l => simp
        have e : clashF L r = some [i, j] := by
          unfold clashF
          have sp : pairL r.length = (pairL r.length).take (m + 1) ++ (pairL r.length).drop (m + 1) := (List.take_append_drop ..).symm
          rw [sp, List.find?_append, tk, List.find?_append, hq]
          simp [w']
        refine s_ret ((d_tup (a_consV (d_tup (a_consV (e_add (d_var rfl) d_int) (a_consV (e_add (d_var rfl) d_int) a_nil)) (by simp)) (a_consV (e_minL (d_varO rfl) pos) a_nil)) (by simp)).to (y := fltD (faultD L r)) ?_) (.inr ⟨rfl, hfl⟩) (.inr (.inr ⟨_, _, rfl, .inl rfl⟩))
        unfold faultD
        rw [e0, e]
        rfl
      · have w' : (comF L r i j).isEmpty = true := by simpa using w
        rw [tk, List.find?_append, hq]
        simp [w']
    · obtain ⟨t2, t3, t5, t6, t7, t8, t9, rfl, hq⟩ := hI
      refine s_ret (d_non.to (y := fltD (faultD L r)) ?_) (.inr ⟨rfl, hfl⟩) (.inl rfl)
      have e : clashF L r = none := by
        unfold clashF
        rw [List.length_map, List.take_length] at hq
        exact hq
      unfold faultD
      rw [e0, e]
      rfl

theorem ok_fault {P : Program} {w : World} {K : PySem.W.Frag} {mg : Str → Option Value} {base : Heap} {f : Addr} {fd : FuncData} (F : Fun K "fault" "fault" s_fault f fd) (T : Txt mg) (c_check_family : Cal P w K mg base CX0 5 "check_family" p_check_family (sp_check_family K)) (c_require : Cal P w K mg base CX0 1 "require" p_require (sp_require K)) (c_are_lists : Cal P w K mg base CX0 3 "are_lists" p_are_lists (sp_are_lists68 K)) (c_first_fault : Cal P w K mg base CX0 1 "first_fault" p_first_fault (sp_first_fault K)) :
    FnOk P w K mg base CX0 6 f fd p_fault (sp_fault K) := by
  refine F.ok sc_fault (fun vs H Q E h => spD_len h (by rintro ds k d ⟨L, F, v, rfl, _⟩; rfl)) (fun cdv A outer s H vs Q E hr h => ⟨_, (pss_cons (ps_expr (pe_cal c_check_family (hr.mono (by decide)) rfl pass0 (pa_cons (pv 0) (pa_cons (pv 1) pa_nil))))
      (pss_cons (ps_expr (pe_cal c_require (hr.mono (by decide)) rfl pass0 (pa_cons (pe_cal c_are_lists (hr.mono (by decide)) rfl pass0 (pa_cons (pv 2) (pa_cons (pe_op op_sub (pv 0) pe_int) (pa_cons (pe_op (k_add (K := K) rfl) (pe_const rfl T.k_GREATEST_BUCKET) pe_int) pa_nil)))) (pa_cons pe_str pa_nil))))
      (pss_cons (ps_for PassesOwn.never rfl (k_enum (K := K) rfl rfl T.b_enumerate (pa_cons (pv 1) pa_nil)) (k_tup (K := K) (n := 2) rfl rfl (pgs_cons (pg_name (i := 3) sc_fault.nd rfl (Or.inl rfl)) (pgs_cons (pg_name (i := 4) sc_fault.nd rfl (Or.inl rfl)) pgs_nil))) (pss_cons (ps_set (i := 5) sc_fault.nd rfl (Or.inl rfl) (pe_cal c_first_fault (hr.mono (by decide)) rfl pass0 (pa_cons (pv 4) (pa_cons (pv 2) pa_nil))))
      (pss_one (ps_if (pt_cmpR op_notN (pv 5) pe_non (nomark _)) (pss_one (ps_ret (pe_op (k_add (K := K) rfl) (pe_tupN (pa_cons (pv 3) pa_nil)) (pv 5)))) pss_nil))))
      (pss_one (ps_ret pe_non))))), run_pure (N := n_fault) (fun ds k d hp => ?_) h⟩)
  obtain ⟨L, F, v, rfl, hF, hL, rfl, rfl⟩ := hp
  have v1 := hF.v1
  have v5 := hF.v5
  have hfl := flat_first (L := L) (F := F) (i := 0)
  refine q_drop (d_call (k := .v) (d := .none) (a_cons (d_var rfl) (a_cons (d_var rfl) a_nil)) ⟨F, v, rfl, hF, rfl, rfl⟩) ?_
  refine q_drop (d_call (k := .v) (d := .none) (a_cons (d_call (k := .v) (d := .bool true) (a_cons (d_var rfl) (a_cons (d_sub (d_var rfl) d_int) (a_cons ((e_add d_int d_int).to (y := .int 1001) rfl) a_nil))) ⟨_, v - 1, 1001, rfl, rfl, .inl ⟨L, rfl, hL, rfl⟩⟩) (a_cons d_str a_nil)) ⟨_, rfl, rfl, rfl⟩) ?_
  refine q_for (items := (List.range F.length).map fun i => .t [.d (.int (i : Nat)), .d (tupD (F.getD i []))]) (enumI_rows ▸ i_enumT (a_consV (d_var rfl) a_nil))
    (fun n Γ1 => ∃ t3 t4 t5, Γ1 = [some (.v (.int v)), some (.v (.tuple (F.map tupD))), some (.v (.tuple (L.map tupD))), t3, t4, t5] ∧ firstF L 0 F = firstF L n (F.drop n)) ⟨_, _, _, rfl, rfl⟩ (fun n a Γ1 hn' hI => ?_) (fun Γ1 hI => ?_)
  · obtain ⟨t3, t4, t5, rfl, hq⟩ := hI
    have hn : n < F.length := by have := (List.getElem?_eq_some_iff.mp hn').1; simpa using this
    have ea : a = .t [.d (.int (n : Nat)), .d (tupD (F.getD n []))] := by
      rw [List.getElem?_map, List.getElem?_range hn] at hn'
      exact (Option.some.inj hn').symm
    subst ea
    rw [drop_at hn] at hq
    have hr : Shr (F.getD n []) v := hF.shr _ (by rw [List.getD_eq_getElem?_getD, List.getElem?_eq_getElem hn]; exact List.getElem_mem hn)
    generalize F.getD n [] = r at hq hr
    refine ⟨_, _, g_tup rfl (g_cons g_name (g_cons g_name g_nil)), q_asg (d := fltD (faultD L r)) (d_call (k := .v) (a_cons (d_var rfl) (a_cons (d_var rfl) a_nil)) ⟨L, r, v, 1001, rfl, hr, hL, v1, v5, rfl, rfl⟩) ?_⟩
    refine s_if (t_test (d_notN (d_var rfl))) (fun w => ?_) fun w => s_next (.inl ⟨_, .inl rfl, _, _, _, rfl, ?_⟩)
    · cases h : faultD L r with
      | none => rw [h] at w; cases w
      | some ds =>
        have e : firstF L 0 F = .tuple (.int (n : Int) :: ds) := by
          rw [hq]
          unfold firstF
          rw [h]
        have small : ds.length ≤ 2 := by
          unfold faultD at h
          split at h
          · cases h; simp
          · split at h
            · cases h; simp
            · cases h
        have fv : Ev (pc K) (tVar 5) (([some (Rs.v (.int v)), some (.v (.tuple (F.map tupD))), some (.v (.tuple (L.map tupD))), some (.v (.int (n : Nat))), some (.v (tupD r)), some (.v (fltD (some ds)))] : List (Option Rs))) .v (.tuple ds) := d_var rfl
        exact s_ret ((e_catT (d_tup (ds := [.int (n : Nat)]) (a_consV (d_var rfl) a_nil) (by simp)) fv (by simp; omega)).to (y := firstF L 0 F) (by rw [e]; rfl)) (.inr ⟨rfl, hfl⟩) (.inr (.inr ⟨_, _, rfl, .inl rfl⟩))
    · cases h : faultD L r with
      | some ds => rw [h] at w; cases w
      | none =>
        rw [hq]
        conv => lhs; unfold firstF
        rw [h]
  · obtain ⟨t3, t4, t5, rfl, hq⟩ := hI
    refine s_ret (d_non.to (y := firstF L 0 F) ?_) (.inr ⟨rfl, hfl⟩) (.inl rfl)
    rw [hq, List.drop_of_length_le (by simp)]
    rfl

theorem ok_bits_of {P : Program} {w : World} {K : PySem.W.Frag} {mg : Str → Option Value} {base : Heap} {f : Addr} {fd : FuncData} (F : Fun K "bits_of" "bits_of" s_bits_of f fd) (T : Txt mg) :
    FnOk P w K mg base CX0 1 f fd p_bits_of (sp_bits_of K) := by
  refine F.ok sc_bits_of (fun vs H Q E h => spD_len h (by rintro ds k d ⟨bs, rfl, _⟩; rfl)) (fun cdv A outer s H vs Q E hr h => ⟨_, (pss_one (ps_ret (pe_callB (k_sum (K := K) rfl rfl) rfl T.b_sum (by decide +kernel) (pa_cons (pe_lc rfl sc_bits_of.nd (k_enum (K := K) rfl rfl T.b_enumerate (pa_cons (pv 0) pa_nil)) (blkOk_by (own := [("place", 1), ("holds", 2)]) (N := n_bits_of) (sc := defScope s_bits_of) (by decide +kernel)) (fun _ _ _ _ _ => by exact (k_tup (K := K) (n := 2) rfl rfl (pgs_cons (pg_name (i := 1) sc_bits_of.nd rfl (Or.inl rfl)) (pgs_cons (pg_name (i := 2) sc_bits_of.nd rfl (Or.inl rfl)) pgs_nil)))) (fun _ _ _ _ _ => by exact (pts_one (pt_val (pv 2)))) (fun _ _ _ _ _ => by exact (pe_op op_shl pe_int (pv 1)))) pa_nil)))), run_pure (N := n_bits_of) (fun ds k d hp => ?_) h⟩)
  obtain ⟨bs, rfl, hl, rfl, rfl⟩ := hp
  refine s_ret (Ev.to (e_sumL (ns := ((List.range bs.length).filter fun j => bs.getD j false).map fun j => (2 : Int) ^ j) (Ev.to (d_lc (l := List.range bs.length) (en := fun (i : Nat) => Im.t [.d (.int (i : Int)), .d (.bool (bs.getD i false))]) (fun j => bs.getD j false) (fun j => .int ((2 : Int) ^ j)) (i_enumL' (d_var rfl) kv_ne ?_) (by simp; omega) fun j hj => ⟨_, _, g_tup rfl (g_cons g_name (g_cons g_name g_nil)), fun j hj => hj, t_B (d_var rfl), fun _ => Ev.fo (d_I (i := 1) (j := (j : Int)) (z := .int ((2 : Int) ^ j)) (w := .int ((2 : Int) ^ j)) d_int (d_var rfl) ?_ ?_ fun _ => .int _) rfl⟩) (by rw [List.map_map]; rfl))) rfl) (.inr ⟨rfl, rfl⟩) (.inl rfl)
  · refine List.ext_getElem (by simp [enumI]) fun i h1 h2 => ?_
    have hi : i < bs.length := by simpa using h2
    simp [enumI, List.getD_eq_getElem?_getD, List.getElem?_eq_getElem hi]
  · have := List.mem_range.mp hj
    exact ⟨by omega, by omega, by decide⟩
  · simp

theorem ok_known_at_root {P : Program} {w : World} {K : PySem.W.Frag} {mg : Str → Option Value} {base : Heap} {f : Addr} {fd : FuncData} (F : Fun K "known_at_root" "known_at_root" s_known_at_root f fd) (T : Txt mg) (c_bits_of : Cal P w K mg base CX0 1 "bits_of" p_bits_of (sp_bits_of K)) (c_are_together : Cal P w K mg base CX0 2 "are_together" p_are_together (sp_are_together K)) :
    FnOk P w K mg base CX0 3 f fd p_known_at_root (sp_known_at_root K) := by
  refine F.ok sc_known_at_root (fun vs H Q E h => spD_len h (by rintro ds k d ⟨F, R, v, rfl, _⟩; rfl)) (fun cdv A outer s H vs Q E hr h => ⟨_, (pss_cons (ps_setLc (i := 2) rfl sc_known_at_root.nd rfl rfl (sw_true rfl rfl rfl (by decide +kernel)) (k_seq (K := K) rfl (pv 1)) (blkOk_by (own := [("one", 4)]) (N := n_known_at_root) (sc := defScope s_known_at_root) (by decide +kernel)) (fun _ _ _ _ _ => by exact (pg_name (i := 4) sc_known_at_root.nd rfl (Or.inr rfl))) (fun _ _ _ _ _ => by exact pts_nil) (fun _ _ _ _ _ => by exact (pe_cal c_bits_of (hr.mono (by decide)) rfl pass0 (pa_cons (pe_lc rfl sc_known_at_root.nd (k_seq (K := K) rfl (pv 1)) (show BlkOk n_known_at_root (L2.relS _ (defScope s_known_at_root)) _ [("two", 3)] from blkOk_by (by decide +kernel)) (fun _ _ _ _ _ => by exact (pg_name (i := 3) sc_known_at_root.nd rfl (Or.inl rfl))) (fun _ _ _ _ _ => by exact pts_nil) (fun _ _ _ _ _ => by exact (pe_cal c_are_together (hr.mono (by decide)) rfl pass0 (pa_cons (pv 0) (pa_cons (pv 4) (pa_cons (pv 3) pa_nil)))))) pa_nil))))
      (pss_one (ps_ret (pe_tupN (pa_cons (pe_tupRn rfl rfl T.b_tuple (prg_1 rfl T.b_range (pe_callB (k_len (K := K) rfl) rfl T.b_len (by decide +kernel) (pa_cons (pv 1) pa_nil)))) (pa_cons (pe_callTy (k_tuple (K := K) rfl) rfl T.b_tuple (by decide +kernel) (pa_cons (pv 2) pa_nil)) pa_nil)))))), run_pure (N := n_known_at_root) (fun ds k d hp => ?_) h⟩)
  obtain ⟨F, R, v, rfl, hF, hR, hE, rfl, rfl⟩ := hp
  have bl : ∀ k, ((List.range R.length).map fun j => tgL F R k j).length = R.length := fun k => by simp
  have tg : ∀ k j, k < R.length → j < R.length → ∃ x y x' y' : Nat, R.getD k [] = [((x + 1 : Nat) : Int), (y : Int)] ∧ R.getD j [] = [((x' + 1 : Nat) : Int), (y' : Int)] ∧ x < v - 1 ∧ x' < v - 1 := fun k j hk hj => by
    obtain ⟨x, y, e, hx⟩ := hE _ (gL_mem hk)
    obtain ⟨x', y', e', hx'⟩ := hE _ (gL_mem hj)
    exact ⟨x, y, x', y', e, e', hx, hx'⟩
  have rows : R.map tupI = (List.range R.length).map fun i => Im.d (tupD (R.getD i [])) := by
    refine List.ext_getElem (by simp) fun i h1 h2 => ?_
    have hi : i < R.length := by simpa using h2
    simp [tupI, List.getD_eq_getElem?_getD, List.getElem?_eq_getElem hi]
  refine q_asgO (d := .list ((apL F R).map .int)) (Ev.to (d_lcI (l := List.range R.length) (en := fun i => Im.d (tupD (R.getD i []))) (fun k => (((List.range R.length).filter fun j => tgL F R k j).map fun j => (2 : Int) ^ j).sum) (EvI.to (i_rows (d_var rfl) kv_ne) rows) (by simp; omega) fun k hk => ⟨_, _, g_name, fun j hj => hj, .v, d_call (k := .v) (a_cons (d_lcB (l := List.range R.length) (en := fun i => Im.d (tupD (R.getD i []))) (fun j => tgL F R k j) (EvI.to (i_rows (d_var rfl) kv_ne) rows) (by simp; omega) fun j hj => ⟨_, _, g_name, fun j hj => hj, .v, ?_⟩) a_nil) ⟨(List.range R.length).map fun j => tgL F R k j, rfl, by rw [bl]; exact hR, rfl, ?_⟩⟩) rfl) ?_
  · obtain ⟨x, y, x', y', e, e', hx, hx'⟩ := tg k j (List.mem_range.mp hk) (List.mem_range.mp hj)
    unfold tgL
    rw [e, e']
    exact d_call (k := .v) (a_cons (d_var rfl) (a_cons (d_var rfl) (a_cons (d_var rfl) a_nil))) ⟨F, v, x, y, x', y', rfl, hF, hx, hx', rfl, rfl⟩
  · congr 3
    rw [bl]
    refine List.filter_congr fun j hj => ?_
    have := List.mem_range.mp hj
    simp [List.getD_eq_getElem?_getD, List.getElem?_eq_getElem (show j < (List.range R.length).length by simpa using this), this]
  have ap : (apL F R).length = R.length := by simp [apL]
  refine s_ret (d_tup (a_consV (Ev.to (e_tupRg (i := (R.length : Int)) (Ev.to (d_lenL (d_var rfl)) (by rw [List.length_map])) (by omega) (by omega)) rfl) (a_consV (d_tuple (d_varO rfl) (flatAll_ints _)) a_nil)) (by simp)) (.inr ⟨rfl, by simp [flatD, flatAll, knD, flatAll_ints]⟩) (.inl rfl)





theorem ok_cases_after {P : Program} {w : World} {K : PySem.W.Frag} {mg : Str → Option Value} {base : Heap} {f : Addr} {fd : FuncData} (F : Fun K "cases_after" "cases_after" s_cases_after f fd) (T : Txt mg) (c_is_right_clique : Cal P w K mg base CX0 4 "is_right_clique" p_is_right_clique (sp_No K)) (c_is_right_fork : Cal P w K mg base CX0 4 "is_right_fork" p_is_right_fork (sp_No K)) (c_known_alike : Cal P w K mg base CX0 2 "known_alike" p_known_alike (sp_No K)) (c_known_unlike : Cal P w K mg base CX0 1 "known_unlike" p_known_unlike (sp_No K)) :
    FnOk P w K mg base CX0 5 f fd p_cases_after (sp_cases_after68 K) := by
  refine F.ok sc_cases_after (fun vs H Q E h => spD_len h (by rintro ds k d ⟨F, R, m, rfl, _⟩; rfl)) (fun cdv A outer s H vs Q E hr h => ⟨_, (pss_cons (ps_if (pt_not (pt_val (pe_callB (k_isi (K := K) rfl) rfl T.b_isinstance (by decide +kernel) (pa_cons (pv 2) (pa_cons (pe_ty (n := "tuple") rfl T.b_tuple (by decide +kernel)) pa_nil))))) (pss_one (ps_ret pe_non)) pss_nil)
      (pss_cons (ps_if (PW.pt (pw_and (pt_cmpR (k_eq (K := K) rfl (rUnits hr)) (pe_callB (k_len (K := K) rfl) rfl T.b_len (by decide +kernel) (pa_cons (pv 2) pa_nil)) pe_int (nomark _)) (pw_and (pt_cmpR (k_eq (K := K) rfl (rUnits hr)) (pe_ix (k_ix (K := K) rfl) (pv 2) pe_int (fun _ _ => rfl)) pe_str (nomark _)) (pw_and1 (pt_val (pe_cal c_is_right_clique (hr.mono (by decide)) rfl pass0 (pa_cons (pv 0) (pa_cons (pv 1) (pa_cons (pe_ix (k_ix (K := K) rfl) (pv 2) pe_int (fun _ _ => rfl)) (pa_cons (pv 3) pa_nil)))))))))) (pss_one (ps_ret (pe_lst pa_nil))) pss_nil)
      (pss_cons (ps_if (PW.pt (pw_or (pt_cmpR (k_ne (K := K) rfl (rUnits hr)) (pe_callB (k_len (K := K) rfl) rfl T.b_len (by decide +kernel) (pa_cons (pv 2) pa_nil)) pe_int (nomark _)) (pw_or (pt_cmpR (k_ne (K := K) rfl (rUnits hr)) (pe_ix (k_ix (K := K) rfl) (pv 2) pe_int (fun _ _ => rfl)) pe_str (nomark _)) (pw_or1 (pt_not (pt_val (pe_cal c_is_right_fork (hr.mono (by decide)) rfl pass0 (pa_cons (pv 0) (pa_cons (pv 1) (pa_cons (pe_ix (k_ix (K := K) rfl) (pv 2) pe_int (fun _ _ => rfl)) (pa_cons (pe_ix (k_ix (K := K) rfl) (pv 2) pe_int (fun _ _ => rfl)) pa_nil))))))))))) (pss_one (ps_ret pe_non)) pss_nil)
      (pss_cons (ps_par rfl sc_cases_after.nd (i := 4) (j := 5) rfl rfl (by decide) rfl rfl (pa_cons (k_bm (K := K) rfl PySem.F.plainAttrs_list PySem.F.slot_list_index PySem.F.type_list_index (k_lindex (K := K) rfl (rUnits5 hr)) (pv 1) (pa_cons (pe_ix (k_ix (K := K) rfl) (pv 2) pe_int (fun _ _ => rfl)) pa_nil)) (pa_cons (k_bm (K := K) rfl PySem.F.plainAttrs_list PySem.F.slot_list_index PySem.F.type_list_index (k_lindex (K := K) rfl (rUnits5 hr)) (pv 1) (pa_cons (pe_ix (k_ix (K := K) rfl) (pv 2) pe_int (fun _ _ => rfl)) pa_nil)) pa_nil)) rfl)
      (pss_one (ps_ret (pe_lst (pa_cons (pe_tupN (pa_cons (pe_ix (k_ix (K := K) rfl) (pv 2) pe_int (fun _ _ => rfl)) (pa_cons (pe_cal c_known_alike (hr.mono (by decide)) rfl pass0 (pa_cons (pv 0) (pa_cons (pv 4) (pa_cons (pv 5) pa_nil)))) pa_nil))) (pa_cons (pe_tupN (pa_cons (pe_ix (k_ix (K := K) rfl) (pv 2) pe_int (fun _ _ => rfl)) (pa_cons (pe_cal c_known_unlike (hr.mono (by decide)) rfl pass0 (pa_cons (pv 0) (pa_cons (pv 4) (pa_cons (pv 5) pa_nil)))) pa_nil))) pa_nil))))))))), run_pure (N := n_cases_after) (fun ds k d hp => ?_) h⟩)
  obtain ⟨F, R, m, rfl, rfl, rfl⟩ := hp
  exact q_if (a := true) (EvT.to (t_not (t_B (e_isi (n := "tuple") (d_var rfl) (b := false) rfl))) rfl) (fun _ => q_ret d_non (.inr ⟨rfl, rfl⟩) (.inl rfl)) fun e => nomatch e

theorem ok_is_right_tree {P : Program} {w : World} {K : PySem.W.Frag} {mg : Str → Option Value} {base : Heap} {f : Addr} {fd : FuncData} (F : Fun K "is_right_tree" "is_right_tree" s_is_right_tree f fd) (T : Txt mg) (c_cases_after : Cal P w K mg base CX0 5 "cases_after" p_cases_after (sp_cases_after68 K)) (c_known_at_root : Cal P w K mg base CX0 3 "known_at_root" p_known_at_root (sp_known_at_root K)) :
    FnOk P w K mg base CX0 6 f fd p_is_right_tree (sp_is_right_tree68 K) := by
  refine F.ok sc_is_right_tree (fun vs H Q E h => spD_len h (by rintro ds k d ⟨F, R, v, m, rfl, _⟩; rfl)) (fun cdv A outer s H vs Q E hr h => ⟨_, (pss_cons (ps_set (i := 4) sc_is_right_tree.nd rfl (Or.inl rfl) (pe_lst (pa_cons (pe_tupN (pa_cons (pv 3) (pa_cons (pe_cal c_known_at_root (hr.mono (by decide)) rfl pass0 (pa_cons (pv 0) (pa_cons (pv 1) pa_nil))) pa_nil))) pa_nil)))
      (pss_cons (ps_set (i := 5) sc_is_right_tree.nd rfl (Or.inl rfl) pe_int)
      (pss_cons (ps_while PassesOwn.never (PW.pt (pw_and (k_tru (K := K) rfl (pv 4)) (pw_and1 (pt_cmpR op_lt (pv 5) (pe_const rfl T.k_MOST_NODES) (nomark _))))) (pss_cons (ps_asg (k_bm0 (K := K) rfl PySem.F.plainAttrs_list PySem.F.slot_list_pop PySem.F.type_list_pop mt_pop (pv 4)) (k_tupA (K := K) (n := 2) rfl rfl (pgs_cons (pg_name (i := 6) sc_is_right_tree.nd rfl (Or.inl rfl)) (pgs_cons (pg_name (i := 7) sc_is_right_tree.nd rfl (Or.inl rfl)) pgs_nil))))
      (pss_cons (ps_aug (i := 5) sc_is_right_tree.nd rfl (Or.inl rfl) pe_int ip_add)
      (pss_cons (ps_set (i := 8) sc_is_right_tree.nd rfl (Or.inl rfl) (pe_cal c_cases_after (hr.mono (by decide)) rfl pass0 (pa_cons (pv 7) (pa_cons (pv 1) (pa_cons (pv 6) (pa_cons (pv 2) pa_nil))))))
      (pss_cons (ps_if (pt_cmpR op_isN (pv 8) pe_non (nomark _)) (pss_one (ps_ret pe_bl)) pss_nil)
      (pss_one (ps_expr (k_bm (K := K) rfl PySem.F.plainAttrs_list PySem.F.slot_list_extend PySem.F.type_list_extend mt_extend (pv 4) (pa_cons (pv 8) pa_nil)))))))))
      (pss_one (ps_ret (k_notT (K := K) rfl (pv 4))))))), run_pure (N := n_is_right_tree) (fun ds k d hp => ?_) h⟩)
  obtain ⟨F, R, v, m, rfl, hF, hR, hE, rfl, rfl⟩ := hp
  have fk : flatD (knD F R) = true := by simp [flatD, flatAll, knD, flatAll_ints]
  have fi : flatAll [.tuple [.none, knD F R]] = true := by
    show ((true && (flatD (knD F R) && true)) && true) = true
    rw [fk]; rfl
  refine q_asgO (d := .list [.tuple [.none, knD F R]]) (d_lst (kv := false) (a_cons (d_tup (a_consV (d_var rfl) (a_consV (d_call (k := .v) (d := knD F R) (a_cons (d_var rfl) (a_cons (d_var rfl) a_nil)) ⟨F, R, v, rfl, hF, hR, hE, rfl, rfl⟩) a_nil)) (by simp)) a_nil) fi (by simp)) ?_
  refine q_asg (d := .int 0) d_int ?_
  refine q_while (fun N Γ1 => N = 0 ∧ Γ1 = [some (.v (.tuple (F.map tupD))), some (.v (.list (R.map tupD))), some (.v (.int m)), some (.v .none), some (.o (.list [.tuple [.none, knD F R]])), some (.v (.int 0)), none, none, none]) ⟨rfl, rfl⟩ fun N Γ1 hI => ?_
  obtain ⟨rfl, rfl⟩ := hI
  refine ⟨true, EvT.to (t_and (a := true) (b := true) (EvT.to (t_truL (ds := [.tuple [.none, knD F R]]) (d_varO rfl)) rfl) fun _ => EvT.to (t_test (d_lt (d_var rfl) d_int)) rfl) rfl, fun _ => ?_, fun w => nomatch w⟩
  refine q_popG (ds := []) rfl fi fun te hte => ?_
  refine q_unp (fun d => d = .tuple [.none, knD F R]) hte.n ?_
  rintro d rfl
  refine ⟨_, _, _, .inl rfl, by show (true && (flatD (knD F R) && true)) = true; rw [fk]; rfl, rfl, g_cons g_name (g_cons g_name g_nil), ?_⟩
  refine q_aug (f := fun a b => a + b) rfl d_int ?_
  refine q_asg (d := .none) (d_call (k := .v) (a_cons (d_var rfl) (a_cons (d_var rfl) (a_cons (d_var rfl) (a_cons (d_var rfl) a_nil)))) ⟨F, R, m, rfl, rfl, rfl⟩) ?_
  exact q_if (a := true) (EvT.to (t_test (d_isN (d_var rfl))) rfl) (fun _ => q_ret (d_bl (a := false)) (.inr ⟨rfl, rfl⟩) (.inr (.inr ⟨_, _, rfl, .inl rfl⟩))) fun e => nomatch e

theorem ok_fb {P : Program} {w : World} {K : PySem.W.Frag} {mg : Str → Option Value} {base : Heap} {f : Addr} {fd : FuncData} (F : Fun K "first_buckets" "first_buckets" s_first_buckets f fd) (T : Txt mg) (n : Nat)
    (c_rec : Cal P w K mg base CX0 (n + 1) "first_buckets" p_first_buckets (spFB K n)) : FnOk P w K mg base CX0 (n + 2) f fd p_first_buckets (spFB K (n + 1)) := by
  refine F.ok sc_first_buckets (fun vs H Q E h => spD_len (E := E) h (by rintro ds k d ⟨tg, m, r, c, rfl, _⟩; rfl)) (fun cdv A outer s H vs Q E hr h => ⟨_, (pss_cons (ps_if (pt_cmpR (k_eq (K := K) rfl (rUnits hr)) (pe_callB (k_len (K := K) rfl) rfl T.b_len (by decide +kernel) (pa_cons (pv 2) pa_nil)) (pe_callB (k_len (K := K) rfl) rfl T.b_len (by decide +kernel) (pa_cons (pv 0) pa_nil)) (nomark _)) (pss_one (ps_ret (pv 2))) pss_nil)
      (pss_cons (ps_setLc (i := 3) rfl sc_first_buckets.nd rfl rfl (sw_true rfl rfl rfl (by decide +kernel)) (k_seq (K := K) rfl (pe_ix (k_ix (K := K) rfl) (pv 0) (pe_callB (k_len (K := K) rfl) rfl T.b_len (by decide +kernel) (pa_cons (pv 2) pa_nil)) (fun _ _ => rfl))) (blkOk_by (own := [("place", 4)]) (N := n_first_buckets) (sc := defScope s_first_buckets) (by decide +kernel)) (fun _ _ _ _ _ => by exact (pg_name (i := 4) sc_first_buckets.nd rfl (Or.inl rfl))) (fun _ _ _ _ _ => by exact pts_nil) (fun _ _ _ _ _ => by exact (pe_ix (k_ix (K := K) rfl) (pv 2) (pv 4) (fun _ _ => rfl))))
      (pss_cons (ps_for PassesOwn.never rfl (pi_range1 rfl T.b_range (pa_cons (pe_callB (call_min2 rfl) rfl T.b_min (by decide +kernel) (pa_cons (pv 1) (pa_cons (pe_op (k_add (K := K) rfl) (pe_callBK (k_maxD (K := K) rfl rfl) rfl T.b_max (by decide +kernel) (pa_cons (pv 2) pa_nil) (pk_cons (pe_un un_neg pe_int) pk_nil)) pe_int) pa_nil))) pa_nil)) (pg_name (i := 5) sc_first_buckets.nd rfl (Or.inl rfl)) (pss_one (ps_if (pt_cmpR (k_notIn (K := K) rfl) (pv 5) (pv 3) (by with_unfolding_all rfl)) (pss_cons (ps_set (i := 6) sc_first_buckets.nd rfl (Or.inl rfl) (pe_cal c_rec hr rfl pass0 (pa_cons (pv 0) (pa_cons (pv 1) (pa_cons (pe_op (k_add (K := K) rfl) (pv 2) (pe_tupN (pa_cons (pv 5) pa_nil))) pa_nil)))))
      (pss_one (ps_if (pt_cmpR op_notN (pv 6) pe_non (nomark _)) (pss_one (ps_ret (pv 6))) pss_nil))) pss_nil)))
      (pss_one (ps_ret pe_non))))), run_pure (E := E) (N := n_first_buckets) (fun ds k d hp => ?_) h⟩)
  obtain ⟨tg, m, r, c, rfl, hrn, hm, hlen, hx, ok, rfl, rfl⟩ := hp
  have nl : ((List.range (c.length + r)).map fun k => PyData.list ((castL (nbL tg k)).map .int)).length = c.length + r := by simp
  have lc := castL_len c
  unfold nbD
  cases r with
  | zero =>
    refine q_if (a := true) ((t_test (e_eqI (d_lenT (d_var rfl)) (d_lenL (d_var rfl)))).to (by rw [List.length_map, nl, lc]; simp)) (fun _ => ?_) fun e => nomatch e
    exact q_ret (d_var rfl) (.inr ⟨rfl, flatT _⟩) (.inl rfl)
  | succ r =>
    refine q_no ((t_test (e_eqI (d_lenT (d_var rfl)) (d_lenL (d_var rfl)))).to (by rw [List.length_map, nl, lc, decide_eq_false_iff_not]; omega)) ?_
    obtain ⟨n', rfl⟩ : ∃ n', n = n' + 1 := ⟨n - 1, by omega⟩
    have hat : atI ((List.range (c.length + (r + 1))).map fun k => PyData.list ((castL (nbL tg k)).map .int)) ((c.length : Nat) : Int) = some (.list ((castL (nbL tg c.length)).map .int)) := atI_nat (by rw [List.getElem?_map, List.getElem?_range (by omega)]; rfl)
    have nbl : ∀ j ∈ nbL tg c.length, j < c.length := fun j hj => List.mem_range.mp (List.mem_filter.mp hj).1
    have nbs : (nbL tg c.length).length ≤ c.length := Nat.le_trans (List.length_filter_le _ _) (by rw [List.length_range]; exact Nat.le_refl _)
    obtain ⟨tk, etk⟩ : ∃ tk, tk = (nbL tg c.length).map fun j => c.getD j 0 := ⟨_, rfl⟩
    refine q_asgO (d := .list ((castL tk).map .int)) (Ev.to (d_lcA (l := nbL tg c.length) (en := fun (j : Nat) => Im.d (.int (j : Int))) (fun j => .int ((c.getD j 0 : Nat) : Int)) (EvI.to (i_seqLIB (e_ixLb (d_var rfl) (Ev.to (d_lenT (d_var rfl)) (y := .int ((c.length : Nat) : Int)) (by rw [List.length_map, lc])) hat)) (by unfold castL; rw [List.map_map]; rfl)) (by omega) fun j hj => ⟨_, _, g_name, fun j hj => hj, (Ev.to (e_ixT (d_var rfl) (d_var rfl) (at_ints (by rw [lc]; exact nbl j hj)) rfl) (by rw [castL_get])).fo rfl⟩) (by rw [etk]; unfold castL; rw [List.map_map, List.map_map]; rfl)) ?_
    refine s_freeze (n := 3) rfl ?_
    obtain ⟨G, eG⟩ : ∃ G : Nat → Option (List Nat), G = fun b => if okC tg (c ++ [b]) then fbC m tg r (c ++ [b]) else none := ⟨_, rfl⟩
    have eF : fbC m tg (r + 1) c = (List.range (min m (nxC c + 1))).findSome? G := by rw [eG]; rfl
    rw [eF]
    refine q_for (i_rngN (n := min m (nxC c + 1)) (a_cons ((e_min2 (d_var rfl) (e_add (e_maxD (d_var rfl) (e_neg d_int)) d_int)).to ?_) a_nil) (by omega))
      (fun i Γ1 => ∃ t5 t6, Γ1 = [some (.v (.list ((List.range (c.length + (r + 1))).map fun k => PyData.list ((castL (nbL tg k)).map .int)))), some (.v (.int (m : Int))), some (.v (tupD (castL c))), some (.v (.list ((castL tk).map .int))), none, t5, t6] ∧ (List.range i).findSome? G = none) ⟨_, _, rfl, rfl⟩ (fun i a Γ1 hn' hI => ?_) (fun Γ1 hI => ?_)
    · have := mx_nx (c := c)
      congr 1
      rw [this]
      split <;> omega
    · obtain ⟨t5, t6, rfl, no⟩ := hI
      obtain ⟨hi, rfl⟩ := rngN_at hn'
      have fin : ∀ j, i < j → j ≤ min m (nxC c + 1) → ∀ z, G i = some z → (List.range j).findSome? G = some z := fun j h1 h2 z hz => by
        have : List.range j = List.range i ++ i :: (List.range (j - (i + 1))).map (fun q => i + 1 + q) := by
          have : j = i + 1 + (j - (i + 1)) := by omega
          conv => lhs; rw [this]
          rw [List.range_add, List.range_succ, List.append_assoc]
          rfl
        rw [this, List.findSome?_append, no, Option.none_or, List.findSome?_cons, hz]
      refine ⟨_, _, g_name, s_if (a := okC tg (c ++ [i])) (EvT.to (t_test (d_inL (neg := true) (d_var rfl) (d_var rfl))) ?_) (fun w => ?_) fun w => s_next (.inl ⟨_, .inl rfl, some (.v (.int (i : Int))), t6, rfl, ?_⟩)⟩
      · rw [if_pos rfl]
        cases q : okC tg (c ++ [i]) with
        | true => rw [Bool.not_eq_true', decide_eq_false_iff_not, castL_mem, etk, nb_taken ok, q]; decide
        | false => rw [Bool.not_eq_false', decide_eq_true_eq, castL_mem, etk, nb_taken ok, q]
      · have rg : ∀ x ∈ c ++ [i], x < m := fun x hx' => by
          rcases List.mem_append.mp hx' with u | u
          · exact hx x u
          · rw [List.mem_singleton.mp u]; omega
        have lci : (c ++ [i]).length + r = c.length + (r + 1) := by simp; omega
        have call : ∀ {Γ : List (Option Rs)}, Γ[0]? = some (some (.v (.list ((List.range (c.length + (r + 1))).map fun k => PyData.list ((castL (nbL tg k)).map .int))))) → Γ[1]? = some (some (.v (.int (m : Int)))) → Γ[2]? = some (some (.v (tupD (castL c)))) → Γ[5]? = some (some (.v (.int (i : Int)))) → Ev (pc K) (tCall (spFB K (n' + 1)) [] E0 (tCons (tVar 0) (tCons (tVar 1) (tCons (tOp (rAddA K) (tVar 2) (tTupN (tCons (tVar 5) tNil))) tNil)))) Γ .v (colD (G i)) := fun {Γ} h0 h1 h2 h5 => by
          refine Ev.to (d_call (k := .v) (E := E0) (a_cons (d_var h0) (a_cons (d_var h1) (a_cons (Ev.to (e_catT (d_var (d := .tuple ((castL c).map .int)) h2) (d_tup (a_consV (d_var h5) a_nil) (by simp)) (by simp [castL]; omega)) (y := tupD (castL (c ++ [i]))) (by rw [castL_app]; unfold tupD; rw [List.map_append]; rfl)) a_nil))) ⟨tg, m, r, c ++ [i], by rw [lci]; rfl, by omega, hm, by omega, rg, w, rfl, rfl⟩) ?_
          rw [eG]
          show colD (fbC m tg r (c ++ [i])) = colD (if okC tg (c ++ [i]) = true then _ else none)
          rw [if_pos w]
        cases hz : G i with
        | some z =>
          refine q_asg (d := colD (G i)) (call rfl rfl rfl rfl) ?_
          rw [hz]
          refine s_yes (EvT.to (t_test (d_notN (d_var rfl))) rfl) (s_ret (Ev.to (d_var rfl) (y := colD ((List.range (min m (nxC c + 1))).findSome? G)) (by rw [fin _ (by omega) (Nat.le_refl _) z hz])) (.inr ⟨rfl, by rw [fin _ (by omega) (Nat.le_refl _) z hz]; exact flatT _⟩) (.inr (.inr ⟨_, _, rfl, .inl rfl⟩)))
        | none =>
          refine q_asg (d := colD (G i)) (call rfl rfl rfl rfl) ?_
          rw [hz]
          refine s_no (EvT.to (t_test (d_notN (d_var rfl))) rfl) (s_next (.inl ⟨_, .inl rfl, some (.v (.int (i : Int))), some (.v .none), rfl, ?_⟩))
          rw [List.range_succ, List.findSome?_append, no, Option.none_or, List.findSome?_cons, hz]
          rfl
      · have hz : G i = none := by rw [eG]; show (if okC tg (c ++ [i]) = true then _ else none) = none; rw [w]; rfl
        rw [List.range_succ, List.findSome?_append, no, Option.none_or, List.findSome?_cons, hz]
        rfl
    · obtain ⟨t5, t6, rfl, no⟩ := hI
      rw [List.length_map, List.length_range] at no
      rw [no]
      exact s_ret d_non (.inr ⟨rfl, rfl⟩) (.inl rfl)
theorem ok_first_buckets {P : Program} {w : World} {K : PySem.W.Frag} {mg : Str → Option Value} {base : Heap} {f : Addr} {fd : FuncData} (F : Fun K "first_buckets" "first_buckets" s_first_buckets f fd) (T : Txt mg)
    (mgf : mg "first_buckets" = some (.ref f)) (bd : Binds K fd p_first_buckets []) : FnOk P w K mg base CX0 12 f fd p_first_buckets (sp_first_buckets K) := by
  have all : ∀ n, FnOk P w K mg base CX0 (n + 1) f fd p_first_buckets (spFB K n) := by
    intro n
    induction n with
    | zero => exact ⟨fun _ _ _ _ h => h.elim, fun _ _ _ _ _ _ _ _ _ _ _ _ _ h => h.elim⟩
    | succ n ih => exact ok_fb F T n ⟨f, fd, ih, mgf, F.kp, bd⟩
  exact all 11

theorem ok_earlier_neighbours {P : Program} {w : World} {K : PySem.W.Frag} {mg : Str → Option Value} {base : Heap} {f : Addr} {fd : FuncData} (F : Fun K "earlier_neighbours" "earlier_neighbours" s_earlier_neighbours f fd) (T : Txt mg) (c_are_together : Cal P w K mg base CX0 2 "are_together" p_are_together (sp_are_together K)) :
    FnOk P w K mg base CX0 3 f fd p_earlier_neighbours (sp_earlier_neighbours K) := by
  refine F.ok sc_earlier_neighbours (fun vs H Q E h => spD_len h (by rintro ds k d ⟨F, R, v, rfl, _⟩; rfl)) (fun cdv A outer s H vs Q E hr h => ⟨_, (pss_cons (ps_set (i := 2) sc_earlier_neighbours.nd rfl (Or.inl rfl) (pe_lst pa_nil))
      (pss_cons (ps_for PassesOwn.never rfl (k_enum (K := K) rfl rfl T.b_enumerate (pa_cons (pv 1) pa_nil)) (k_tup (K := K) (n := 2) rfl rfl (pgs_cons (pg_name (i := 3) sc_earlier_neighbours.nd rfl (Or.inl rfl)) (pgs_cons (pg_name (i := 4) sc_earlier_neighbours.nd rfl (Or.inr rfl)) pgs_nil))) (pss_one (ps_expr (k_bm (K := K) rfl PySem.F.plainAttrs_list PySem.F.slot_list_append PySem.F.type_list_append mt_append (pv 2) (pa_cons (pe_lc rfl sc_earlier_neighbours.nd (pi_range1 rfl T.b_range (pa_cons (pv 3) pa_nil)) (blkOk_by (own := [("earlier", 5)]) (N := n_earlier_neighbours) (sc := defScope s_earlier_neighbours) (by decide +kernel)) (fun _ _ _ _ _ => by exact (pg_name (i := 5) sc_earlier_neighbours.nd rfl (Or.inl rfl))) (fun _ _ _ _ _ => by exact (pts_one (pt_val (pe_cal c_are_together (hr.mono (by decide)) rfl pass0 (pa_cons (pv 0) (pa_cons (pe_ix (k_ix (K := K) rfl) (pv 1) (pv 5) (fun _ _ => rfl)) (pa_cons (pv 4) pa_nil))))))) (fun _ _ _ _ _ => by exact (pv 5))) pa_nil)))))
      (pss_one (ps_ret (pv 2))))), run_pure (N := n_earlier_neighbours) (fun ds k d hp => ?_) h⟩)
  obtain ⟨F, R, v, rfl, hF, hR, hE, rfl, rfl⟩ := hp
  obtain ⟨G, eG⟩ : ∃ G : Nat → PyData, G = fun k => .list ((castL (nbL (tgL F R) k)).map .int) := ⟨_, rfl⟩
  have eD : nbD (tgL F R) R.length = .list ((List.range R.length).map G) := by rw [eG]; rfl
  rw [eD]
  refine q_asgO (d := .list ((List.range 0).map G)) (d_lst (kv := false) (ds := []) a_nil rfl (by decide)) ?_
  refine q_for (i_enumL' (items := (List.range R.length).map fun i => Im.t [.d (.int (i : Nat)), .d (tupD (R.getD i []))]) (d_var rfl) kv_ne ?_)
    (fun n Γ1 => ∃ t3 t4, Γ1 = [some (.v (.tuple (F.map tupD))), some (.v (.list (R.map tupD))), some (.o (.list ((List.range n).map G))), t3, t4, none]) ⟨_, _, rfl⟩ (fun n a Γ1 hn' hI => ?_) (fun Γ1 hI => ?_)
  · refine List.ext_getElem (by simp [enumI]) fun i h1 h2 => ?_
    have hi : i < R.length := by simpa using h2
    simp [enumI, List.getD_eq_getElem?_getD, List.getElem?_eq_getElem hi]
  · obtain ⟨t3, t4, rfl⟩ := hI
    have hn : n < R.length := by have := (List.getElem?_eq_some_iff.mp hn').1; simpa using this
    have ea : a = .t [.d (.int (n : Nat)), .d (tupD (R.getD n []))] := by
      rw [List.getElem?_map, List.getElem?_range hn] at hn'
      exact (Option.some.inj hn').symm
    subst ea
    obtain ⟨x, y, e, hx⟩ := hE _ (gL_mem hn)
    refine ⟨_, _, g_tup rfl (g_cons g_name (g_cons g_name g_nil)), s_appO (m := 5) rfl rfl (d := G n) (Ev.to (d_lc (l := List.range n) (en := fun (i : Nat) => Im.d (.int (i : Int))) (fun j => tgL F R n j) (fun j => .int (j : Int)) (i_rngN (n := n) (a_cons (d_var rfl) a_nil) (by omega)) (by simp; omega) fun j hj => ⟨_, _, g_name, fun j hj => hj, t_B (k := .v) ?_, fun _ => (d_var rfl).fo rfl⟩) ?_) (by simp; omega) (.inl ⟨_, .inl rfl, some (.v (.int (n : Nat))), some (.v (tupD (R.getD n []))), ?_⟩)⟩
    · have hj := List.mem_range.mp hj
      obtain ⟨x', y', e', hx'⟩ := hE _ (gL_mem (Ls := R) (i := j) (by omega))
      have et : tgL F R n j = togB F [((x' + 1 : Nat) : Int), (y' : Int)] [((x + 1 : Nat) : Int), (y : Int)] := by
        unfold tgL
        rw [tog_comm, e, e']
      rw [et]
      refine d_call (k := .v) (ds := [.tuple (F.map tupD), tupD [((x' + 1 : Nat) : Int), (y' : Int)], tupD [((x + 1 : Nat) : Int), (y : Int)]]) (a_cons (d_var rfl) (a_cons (Ev.to (e_ixL (d_var rfl) (d_var rfl) (at_tup (by omega)) (flatT _)) (by rw [e'])) (a_cons (Ev.to (d_var rfl) (by rw [e])) a_nil))) ⟨F, v, x', y', x, y, rfl, hF, hx', hx, rfl, rfl⟩
    · rw [eG]
      unfold nbL castL
      simp only [List.map_map]
      rfl
    · rw [List.range_succ, List.map_append]
      rfl
  · obtain ⟨t3, t4, rfl⟩ := hI
    rw [List.length_map, List.length_range]
    exact s_retO rfl (.inl rfl)

theorem ok_parted {P : Program} {w : World} {K : PySem.W.Frag} {mg : Str → Option Value} {base : Heap} {f : Addr} {fd : FuncData} (F : Fun K "parted" "parted" s_parted f fd) (T : Txt mg) (c_greatest_shares : Cal P w K mg base CX0 1 "greatest_shares" p_greatest_shares (sp_greatest_shares K)) :
    FnOk P w K mg base CX0 2 f fd p_parted (sp_parted K) := by
  refine F.ok sc_parted (fun vs H Q E h => spD_len h (by rintro ds k d ⟨F, v, c, rfl, _⟩; rfl)) (fun cdv A outer s H vs Q E hr h => ⟨_, (pss_cons (ps_set (i := 2) sc_parted.nd rfl (Or.inl rfl) (pe_lst pa_nil))
      (pss_cons (ps_set (i := 3) sc_parted.nd rfl (Or.inl rfl) pe_int)
      (pss_cons (ps_for PassesOwn.never rfl (k_seq (K := K) rfl (pe_cal c_greatest_shares (hr.mono (by decide)) rfl pass0 (pa_cons (pv 0) pa_nil))) (pg_name (i := 4) sc_parted.nd rfl (Or.inl rfl)) (pss_cons (ps_expr (k_bm (K := K) rfl PySem.F.plainAttrs_list PySem.F.slot_list_append PySem.F.type_list_append mt_append (pv 2) (pa_cons (pe_slice (k_slT (K := K) rfl) (pv 1) (po_some (pv 3)) (po_some (pe_op (k_add (K := K) rfl) (pv 3) (pv 4)))) pa_nil)))
      (pss_one (ps_aug (i := 3) sc_parted.nd rfl (Or.inl rfl) (pv 4) ip_add))))
      (pss_one (ps_ret (pe_callTy (k_tuple (K := K) rfl) rfl T.b_tuple (by decide +kernel) (pa_cons (pv 2) pa_nil))))))), run_pure (N := n_parted) (fun ds k d hp => ?_) h⟩)
  obtain ⟨F, v, c, rfl, hF, hc, rfl, rfl⟩ := hp
  have v5 := hF.v5
  obtain ⟨M, eM⟩ : ∃ M, M = gsL F (v - 1) := ⟨_, rfl⟩
  obtain ⟨lM, hM, _, _⟩ := fam_box hF
  rw [← eM] at hc lM hM ⊢
  have s0 : ∀ n, 0 ≤ (M.take n).sum := fun n => sum_nn fun x hx => (hM x (List.mem_of_mem_take hx)).1
  have sl : ∀ n, (M.take n).sum ≤ 1000 := fun n => by
    have gen : ∀ l : List Int, (∀ x ∈ l, x ≤ 10) → l.sum ≤ 10 * l.length := fun l => by
      induction l with
      | nil => intro _; simp
      | cons a l ih =>
        intro h
        have := ih fun x hx => h x (by simp [hx])
        have := h a (by simp)
        rw [List.sum_cons, List.length_cons]
        omega
    have := gen (M.take n) fun x hx => (hM x (List.mem_of_mem_take hx)).2
    rw [List.length_take] at this
    omega
  obtain ⟨G, eG⟩ : ∃ G : Nat → List Int, G = fun x => (c.drop (M.take x).sum.toNat).take (M.getD x 0).toNat := ⟨_, rfl⟩
  have eD : prtL M c = (List.range M.length).map G := by rw [eG]; rfl
  rw [eD]
  refine q_asgO (d := .list (((List.range 0).map G).map tupD)) (d_lst (kv := false) (ds := []) a_nil rfl (by decide)) ?_
  refine q_asg (d := .int ((M.take 0).sum)) d_int ?_
  refine q_for (items := M.map imI) (i_seqLI (d_call (k := .o) (a_cons (d_var rfl) a_nil) ⟨F, v, rfl, hF, rfl, by rw [eM]⟩) ko_ne)
    (fun n Γ1 => ∃ t4, Γ1 = [some (.v (.tuple (F.map tupD))), some (.v (tupD c)), some (.o (.list (((List.range n).map G).map tupD))), some (.v (.int (M.take n).sum)), t4]) ⟨_, rfl⟩ (fun n a Γ1 hn' hI => ?_) (fun Γ1 hI => ?_)
  · obtain ⟨t4, rfl⟩ := hI
    have hn : n < M.length := by have := (List.getElem?_eq_some_iff.mp hn').1; simpa using this
    have ea : a = .d (.int (M.getD n 0)) := by
      rw [List.getElem?_map, List.getElem?_eq_getElem hn] at hn'
      rw [List.getD_eq_getElem?_getD, List.getElem?_eq_getElem hn]
      exact (Option.some.inj hn').symm
    subst ea
    have m0 := hM _ (gd_mem hn)
    have tk := take_one hn
    have n0 := s0 n
    have nl := sl n
    have sm : (M.take (n + 1)).sum = (M.take n).sum + M.getD n 0 := by rw [tk, List.sum_append]; simp
    refine ⟨_, _, g_name, q_app rfl (d := tupD (G n)) (Ev.to (e_sl (d_var rfl) (o_some (Ev.to (d_var rfl) (y := .int (((M.take n).sum.toNat : Nat) : Int)) (by congr 1; omega))) (o_some ((e_add (d_var rfl) (d_var rfl)).to (y := .int ((((M.take n).sum.toNat + (M.getD n 0).toNat) : Nat) : Int)) (by congr 1; omega)))) ?_) (flatT _) (by simp; omega) (s_aug rfl (f := fun a b => a + b) (d_var rfl) (.inl ⟨_, .inl rfl, some (.v (.int (M.getD n 0))), ?_⟩))⟩
    · have top : (M.take (n + 1)).sum ≤ M.sum := by
        conv => rhs; rw [← List.take_append_drop (n + 1) M]
        rw [List.sum_append]
        have := sum_nn (ns := M.drop (n + 1)) fun x hx => (hM x (List.mem_of_mem_drop hx)).1
        omega
      rw [cut_mid (by omega) (by rw [List.length_map]; omega), eG, List.drop_take, Nat.add_sub_cancel_left]
      unfold tupD
      rw [List.map_take, List.map_drop]
    · rw [List.range_succ, List.map_append, List.map_append, sm]
      rfl
  · obtain ⟨t4, rfl⟩ := hI
    rw [List.length_map]
    exact s_ret (d_tuple (d_varO rfl) (fl_rows _)) (.inr ⟨rfl, fl_rows _⟩) (.inl rfl)

theorem ok_fewest {P : Program} {w : World} {K : PySem.W.Frag} {mg : Str → Option Value} {base : Heap} {f : Addr} {fd : FuncData} (F : Fun K "fewest" "fewest" s_fewest f fd) (T : Txt mg) (c_entries : Cal P w K mg base CX0 6 "entries" p_entries (sp_entries K)) (c_greatest_clique : Cal P w K mg base CX0 6 "greatest_clique" p_greatest_clique (sp_greatest_clique K)) (c_first_buckets : Cal P w K mg base CX0 12 "first_buckets" p_first_buckets (sp_first_buckets K)) (c_earlier_neighbours : Cal P w K mg base CX0 3 "earlier_neighbours" p_earlier_neighbours (sp_earlier_neighbours K)) (c_parted : Cal P w K mg base CX0 2 "parted" p_parted (sp_parted K)) (c_entries_below : Cal P w K mg base CX0 1 "entries_below" p_entries_below (sp_entries_belowX K)) :
    FnOk P w K mg base CX0 13 f fd p_fewest (sp_fewest K) := by
  refine F.ok sc_fewest (fun vs H Q E h => spD_len h (by rintro ds k d ⟨F, v, rfl, _⟩; rfl)) (fun cdv A outer s H vs Q E hr h => ⟨_, (pss_cons (ps_set (i := 2) sc_fewest.nd rfl (Or.inl rfl) (pe_cal c_entries (hr.mono (by decide)) rfl pass0 (pa_cons (pv 0) (pa_cons (pv 1) pa_nil))))
      (pss_cons (ps_if (pt_cmpR op_gt (pe_callB (k_len (K := K) rfl) rfl T.b_len (by decide +kernel) (pa_cons (pv 2) pa_nil)) (pe_const rfl T.k_MOST_ENTRIES) (nomark _)) (pss_one ps_never) pss_nil)
      (pss_cons (ps_asg (pe_cal c_greatest_clique (hr.mono (by decide)) rfl pass0 (pa_cons (pv 0) (pa_cons (pv 1) pa_nil))) (k_tupA (K := K) (n := 2) rfl rfl (pgs_cons (pg_name (i := 3) sc_fewest.nd rfl (Or.inl rfl)) (pgs_cons (pg_name (i := 4) sc_fewest.nd rfl (Or.inl rfl)) pgs_nil))))
      (pss_cons (ps_set (i := 5) sc_fewest.nd rfl (Or.inl rfl) (pe_cal c_first_buckets (hr.mono (by decide)) rfl pass0 (pa_cons (pe_cal c_earlier_neighbours (hr.mono (by decide)) rfl pass0 (pa_cons (pv 1) (pa_cons (pv 2) pa_nil))) (pa_cons (pv 3) (pa_cons (pe_tupN pa_nil) pa_nil)))))
      (pss_cons (ps_set (i := 6) sc_fewest.nd rfl (Or.inl rfl) (pe_ifExp (pt_cmpR op_gt (pv 3) pe_int (nomark _)) (pe_tupN (pa_cons pe_str (pa_cons (pe_callTy (k_tuple (K := K) rfl) rfl T.b_tuple (by decide +kernel) (pa_cons (pe_cal c_entries_below (hr.mono (by decide)) rfl pass0 (pa_cons (pv 4) pa_nil)) pa_nil)) pa_nil))) pe_non))
      (pss_one (ps_ret (pe_tupN (pa_cons (pv 3) (pa_cons (pe_cal c_parted (hr.mono (by decide)) rfl pass0 (pa_cons (pv 1) (pa_cons (pv 5) pa_nil))) (pa_cons (pv 6) pa_nil))))))))))), run_pure (N := n_fewest) (fun ds k d hp => ?_) h⟩)
  obtain ⟨F, v, rfl, h, l9, nn, rfl, rfl⟩ := hp
  obtain ⟨hs, c, f⟩ := few_is h l9 nn
  have v5 := h.v5
  have v1 := h.v1
  have om9 := f.om9
  refine q_asgO (d := .list ((R65 F v).map tupD)) (d_call (k := .o) (a_cons (d_var rfl) (a_cons (d_var rfl) a_nil)) ⟨F, v, rfl, h, rfl, rfl⟩) ?_
  refine q_no (EvT.to (t_test (d_gt (d_lenL (d_varO rfl)) d_int)) (by rw [List.length_map]; exact decide_eq_false (by omega))) ?_
  refine q_unp (fun d => d = .tuple [.int (om65 F v : Nat), tupD hs]) (Ev.n (Ev.to (d_call (k := .v) (a_cons (d_var rfl) (a_cons (d_var rfl) a_nil)) ⟨F, v, rfl, h, rfl, rfl⟩) (by
    have e1 := f.big
    have e2 := f.hg
    unfold hg65 at e2
    rw [e2, e1]
    rfl))) ?_
  rintro d rfl
  refine ⟨_, _, _, .inl rfl, by simp [flatAll, flatD, flatAll_ints], rfl, g_cons g_name (g_cons g_name g_nil), ?_⟩
  refine q_asg (d := tupD (castL c)) (Ev.to (d_call (k := .v) (a_cons (d_call (k := .o) (d := nbD (tgL F (R65 F v)) (R65 F v).length) (a_cons (d_var rfl) (a_cons (d_varO rfl) a_nil)) ⟨F, R65 F v, v, rfl, h, by omega, fun e he => by
      obtain ⟨x, y, rfl, hx, _⟩ := f.ent e he
      exact ⟨x, y, rfl, hx⟩, rfl, rfl⟩) (a_cons (d_var rfl) (a_cons (d_tup (ds := []) a_nil (by simp)) a_nil))) ⟨tgL F (R65 F v), om65 F v, (R65 F v).length, [], by simp [castL], Nat.le_trans l9 (by decide), by omega, by simp; omega, by simp, rfl, rfl, rfl⟩) (by rw [fb_fir f.ec _ [] c rfl f.cl]; rfl)) ?_
  refine q_asg (d := tree65 F v) (d_if (a := decide (0 < om65 F v)) (EvT.to (t_test (d_gt (d_var rfl) d_int)) (by simp)) (fun e => Ev.to (d_tup (a_consV d_str (a_consV (d_tuple (d_call (k := .o) (d := .list ((entL hs).map tupD)) (a_cons (d_var rfl) a_nil) ⟨_, hs, rfl, .inr rfl, by have := f.hl; omega, f.hr, rfl, rfl⟩) (fl_rows _)) a_nil)) (by simp)) ?_) fun e => Ev.to d_non ?_) ?_
  · unfold tree65
    rw [f.hg]
    exact (if_pos (of_decide_eq_true e)).symm
  · unfold tree65
    rw [f.hg]
    exact (if_neg (of_decide_eq_false e)).symm
  refine s_ret (Ev.to (d_tup (a_consV (d_var rfl) (a_consV (d_call (k := .v) (a_cons (d_var rfl) (a_cons (d_var rfl) a_nil)) ⟨F, v, castL c, rfl, h, f.sum, rfl, rfl⟩) (a_consV (d_var rfl) a_nil))) (by simp)) (by rw [f.prt, f.few])) (.inr ⟨rfl, f.flat.2⟩) (.inl rfl)

theorem ok_accepts_few {P : Program} {w : World} {K : PySem.W.Frag} {mg : Str → Option Value} {base : Heap} {f : Addr} {fd : FuncData} (F : Fun K "accepts_few" "accepts_few" s_accepts_few f fd) (T : Txt mg) (c_entries : Cal P w K mg base CX0 6 "entries" p_entries (sp_entries K)) (c_require : Cal P w K mg base CX0 1 "require" p_require (sp_require K)) (c_is_right_tree : Cal P w K mg base CX0 6 "is_right_tree" p_is_right_tree (sp_is_right_tree68 K)) (c_is_integer : Cal P w K mg base CX0 1 "is_integer" p_is_integer (sp_is_integer K)) :
    FnOk P w K mg base CX0 7 f fd p_accepts_few (sp_accepts_few68 K) := by
  refine F.ok sc_accepts_few (fun vs H Q E h => spD_len h (by rintro ds k d ⟨F, v, m, rfl, _⟩; rfl)) (fun cdv A outer s H vs Q E hr h => ⟨_, (pss_cons (ps_set (i := 4) sc_accepts_few.nd rfl (Or.inl rfl) (pe_cal c_entries (hr.mono (by decide)) rfl pass0 (pa_cons (pv 0) (pa_cons (pv 1) pa_nil))))
      (pss_cons (ps_expr (pe_cal c_require (hr.mono (by decide)) rfl pass0 (pa_cons (pe_cal c_is_integer (hr.mono (by decide)) rfl pass0 (pa_cons (pv 2) (pa_cons pe_int (pa_cons (pe_const rfl T.k_MOST_FEW) pa_nil)))) (pa_cons pe_str pa_nil))))
      (pss_one (ps_ret (pe_cal c_is_right_tree (hr.mono (by decide)) rfl pass0 (pa_cons (pv 1) (pa_cons (pv 4) (pa_cons (pv 2) (pa_cons (pv 3) pa_nil))))))))), run_pure (N := n_accepts_few) (fun ds k d hp => ?_) h⟩)
  obtain ⟨F, v, m, rfl, h, l9, m0, m1, rfl, rfl⟩ := hp
  refine q_asgO (d := .list ((R65 F v).map tupD)) (d_call (k := .o) (a_cons (d_var rfl) (a_cons (d_var rfl) a_nil)) ⟨F, v, rfl, h, rfl, rfl⟩) ?_
  have isI : PyData.bool true = .bool (isIntD (.int m) 0 100) := by
    simp [isIntD]
    omega
  refine q_drop (d_call (k := .v) (d := .none) (a_cons (d_call (k := .v) (d := .bool true) (a_cons (d_var rfl) (a_cons d_int (a_cons d_int a_nil))) ⟨_, _, _, rfl, rfl, isI⟩) (a_cons d_str a_nil)) ⟨_, rfl, rfl, rfl⟩) ?_
  exact s_ret (d_call (k := .v) (a_cons (d_var rfl) (a_cons (d_varO rfl) (a_cons (d_var rfl) (a_cons (d_var rfl) a_nil)))) ⟨F, R65 F v, v, m, rfl, h, by omega, fun e he => by
    obtain ⟨x, y, rfl, hx, _⟩ := mem_ent.mp he
    rw [gs_len] at hx
    exact ⟨x, y, rfl, hx⟩, rfl, rfl⟩) (.inr ⟨rfl, rfl⟩) (.inl rfl)

theorem ok_accepts_fewest {P : Program} {w : World} {K : PySem.W.Frag} {mg : Str → Option Value} {base : Heap} {f : Addr} {fd : FuncData} (F : Fun K "accepts_fewest" "accepts_fewest" s_accepts_fewest f fd) (T : Txt mg) (c_entries : Cal P w K mg base CX0 6 "entries" p_entries (sp_entries K)) (c_is_right_tree : Cal P w K mg base CX0 6 "is_right_tree" p_is_right_tree (sp_is_right_tree68 K)) (c_fault : Cal P w K mg base CX0 6 "fault" p_fault (sp_fault K)) (c_is_integer : Cal P w K mg base CX0 1 "is_integer" p_is_integer (sp_is_integer K)) (c_are_lists : Cal P w K mg base CX0 3 "are_lists" p_are_lists (sp_are_lists68 K)) :
    FnOk P w K mg base CX0 7 f fd p_accepts_fewest (sp_accepts_fewest68 K) := by
  refine F.ok sc_accepts_fewest (fun vs H Q E h => spD_len h (by rintro ds k d ⟨F, v, rfl, _⟩; rfl)) (fun cdv A outer s H vs Q E hr h => ⟨_, (pss_cons (ps_set (i := 3) sc_accepts_fewest.nd rfl (Or.inl rfl) (pe_cal c_entries (hr.mono (by decide)) rfl pass0 (pa_cons (pv 0) (pa_cons (pv 1) pa_nil))))
      (pss_cons (ps_if (PW.pt (pw_or (pt_not (pt_val (pe_callB (k_isi (K := K) rfl) rfl T.b_isinstance (by decide +kernel) (pa_cons (pv 2) (pa_cons (pe_ty (n := "tuple") rfl T.b_tuple (by decide +kernel)) pa_nil))))) (pw_or1 (pt_cmpR (k_ne (K := K) rfl (rUnits hr)) (pe_callB (k_len (K := K) rfl) rfl T.b_len (by decide +kernel) (pa_cons (pv 2) pa_nil)) pe_int (nomark _))))) (pss_one (ps_ret pe_bl)) pss_nil)
      (pss_cons (ps_asg (pv 2) (k_tupA (K := K) (n := 3) rfl rfl (pgs_cons (pg_name (i := 4) sc_accepts_fewest.nd rfl (Or.inl rfl)) (pgs_cons (pg_name (i := 5) sc_accepts_fewest.nd rfl (Or.inl rfl)) (pgs_cons (pg_name (i := 6) sc_accepts_fewest.nd rfl (Or.inl rfl)) pgs_nil)))))
      (pss_cons (ps_if (PW.pt (pw_or (pt_not (pt_val (pe_cal c_is_integer (hr.mono (by decide)) rfl pass0 (pa_cons (pv 4) (pa_cons pe_int (pa_cons (pe_callB (k_len (K := K) rfl) rfl T.b_len (by decide +kernel) (pa_cons (pv 3) pa_nil)) pa_nil)))))) (pw_or1 (pt_not (pt_val (pe_cal c_are_lists (hr.mono (by decide)) rfl pass0 (pa_cons (pv 5) (pa_cons (pe_op op_sub (pv 0) pe_int) (pa_cons (pv 4) pa_nil))))))))) (pss_one (ps_ret pe_bl)) pss_nil)
      (pss_cons (ps_if (pt_cmpR op_notN (pe_cal c_fault (hr.mono (by decide)) rfl pass0 (pa_cons (pv 0) (pa_cons (pv 1) (pa_cons (pv 5) pa_nil)))) pe_non (nomark _)) (pss_one (ps_ret pe_bl)) pss_nil)
      (pss_cons (ps_if (pt_cmpR (k_eq (K := K) rfl (rUnits hr)) (pv 4) pe_int (nomark _)) (pss_one (ps_ret (pe_cmpR op_isN (pv 6) pe_non (nomark _)))) pss_nil)
      (pss_one (ps_ret (pe_cal c_is_right_tree (hr.mono (by decide)) rfl pass0 (pa_cons (pv 1) (pa_cons (pv 3) (pa_cons (pe_op op_sub (pv 4) pe_int) (pa_cons (pv 6) pa_nil))))))))))))), run_pure (N := n_accepts_fewest) (fun ds k d hp => ?_) h⟩)
  obtain ⟨F, v, rfl, h, rfl, rfl⟩ := hp
  refine q_asgO (d := .list ((R65 F v).map tupD)) (d_call (k := .o) (a_cons (d_var rfl) (a_cons (d_var rfl) a_nil)) ⟨F, v, rfl, h, rfl, rfl⟩) ?_
  exact q_if (a := true) (EvT.to (t_or (a := true) (b := true) (EvT.to (t_not (t_B (e_isi (n := "tuple") (d_var rfl) (b := false) rfl))) rfl) fun e => nomatch e) rfl) (fun _ => q_ret (d_bl (a := false)) (.inr ⟨rfl, rfl⟩) (.inl rfl)) fun e => nomatch e

theorem ok_check_sum {P : Program} {w : World} {K : PySem.W.Frag} {mg : Str → Option Value} {base : Heap} {f : Addr} {fd : FuncData} (F : Fun K "check_sum" "check_sum" s_check_sum f fd) (T : Txt mg) (c_check_variants : Cal P w K mg base CX0 2 "check_variants" p_check_variants (sp_check_variants K)) (c_require : Cal P w K mg base CX0 1 "require" p_require (sp_require K)) (c_is_integer : Cal P w K mg base CX0 1 "is_integer" p_is_integer (sp_is_integer K)) :
    FnOk P w K mg base CX0 3 f fd p_check_sum (sp_check_sum K) := by
  refine F.ok sc_check_sum (fun vs H Q E h => spD_len h (by rintro ds k d ⟨V, T, rfl, _⟩; rfl)) (fun cdv A outer s H vs Q E hr h => ⟨_, (pss_cons (ps_expr (pe_cal c_check_variants (hr.mono (by decide)) rfl pass0 (pa_cons (pv 0) pa_nil)))
      (pss_one (ps_expr (pe_cal c_require (hr.mono (by decide)) rfl pass0 (pa_cons (pe_cal c_is_integer (hr.mono (by decide)) rfl pass0 (pa_cons (pv 1) (pa_cons pe_int (pa_cons (pe_const rfl T.k_MOST_BUCKETS) pa_nil)))) (pa_cons pe_str pa_nil)))))), run_pure (N := n_check_sum) (fun ds k d hp => ?_) h⟩)
  obtain ⟨V, T, rfl, h1, h5, hT, rfl, rfl⟩ := hp
  refine q_drop (d_call (k := .v) (d := .none) (a_cons (d_var rfl) a_nil) ⟨(V : Int), rfl, by omega, by omega, rfl, rfl⟩) ?_
  refine s_drop (d_call (a_cons (d_call (a_cons (d_var rfl) (a_cons d_int (a_cons d_int a_nil))) ⟨.int (T : Int), 0, 20, rfl, rfl, rfl⟩) (a_cons d_str a_nil)) ⟨"total", ?_, rfl, rfl⟩) (.inr ⟨rfl, rfl, _, rfl⟩)
  simp [isIntD]
  omega

theorem ok_needed {P : Program} {w : World} {K : PySem.W.Frag} {mg : Str → Option Value} {base : Heap} {f : Addr} {fd : FuncData} (F : Fun K "needed" "needed" s_needed f fd) (T : Txt mg) (c_check_sum : Cal P w K mg base CX0 3 "check_sum" p_check_sum (sp_check_sum K)) :
    FnOk P w K mg base CX0 4 f fd p_needed (sp_needed K) := by
  refine F.ok sc_needed (fun vs H Q E h => spD_len h (by rintro ds k d ⟨V, T, rfl, _⟩; rfl)) (fun cdv A outer s H vs Q E hr h => ⟨_, (pss_cons (ps_expr (pe_cal c_check_sum (hr.mono (by decide)) rfl pass0 (pa_cons (pv 0) (pa_cons (pv 1) pa_nil))))
      (pss_cons (ps_if (pt_cmpR (k_eq (K := K) rfl (rUnits hr)) (pv 0) pe_int (nomark _)) (pss_one (ps_ret pe_int)) pss_nil)
      (pss_cons (ps_if (pt_cmpR (k_eq (K := K) rfl (rUnits hr)) (pv 0) pe_int (nomark _)) (pss_one (ps_ret (pv 1))) pss_nil)
      (pss_one (ps_ret (pe_op (k_add (K := K) rfl) (pe_op op_mulA (pe_op op_sub (pv 0) pe_int) (pe_op op_fdiv (pv 1) pe_int)) (pe_op op_mod (pv 1) pe_int))))))), run_pure (N := n_needed) (fun ds k d hp => ?_) h⟩)
  obtain ⟨V, T, rfl, h1, h5, hT, rfl, rfl⟩ := hp
  refine q_drop (d_call (k := .v) (d := .none) (a_cons (d_var rfl) (a_cons (d_var rfl) a_nil)) ⟨V, T, rfl, h1, h5, hT, rfl, rfl⟩) ?_
  unfold neeN
  by_cases q : V = 1
  · refine q_if (a := true) ((t_test (e_eqI (d_var rfl) d_int)).to (decide_eq_true (by omega))) (fun _ => ?_) fun e => nomatch e
    exact q_ret (d_int.to (by rw [if_pos q]; rfl)) (.inr ⟨rfl, rfl⟩) (.inl rfl)
  refine q_no ((t_test (e_eqI (d_var rfl) d_int)).to (decide_eq_false (by omega))) ?_
  by_cases q2 : V = 2
  · refine q_if (a := true) ((t_test (e_eqI (d_var rfl) d_int)).to (decide_eq_true (by omega))) (fun _ => ?_) fun e => nomatch e
    exact q_ret ((d_var rfl).to (by rw [if_neg q, if_pos q2])) (.inr ⟨rfl, rfl⟩) (.inl rfl)
  refine q_no ((t_test (e_eqI (d_var rfl) d_int)).to (decide_eq_false (by omega))) ?_
  refine s_ret ((e_add (e_mul (d_sub (d_var rfl) d_int) (d_fdiv (d_var rfl) d_int ⟨by omega, by omega⟩) ?_) (d_mod (d_var rfl) d_int (by decide))).to ?_) (.inr ⟨rfl, rfl⟩) (.inl rfl)
  · exact .inl ⟨by omega, by omega⟩
  · rw [if_neg q, if_neg q2]
    congr 1
    have z1 : ((V - 1 : Nat) : Int) = (V : Int) - 1 := by omega
    have z2 : ((T / 2 : Nat) : Int) = (T : Int) / 2 := by omega
    have z3 : ((T % 2 : Nat) : Int) = (T : Int) % 2 := by omega
    rw [Int.natCast_add, Int.natCast_mul, z1, z2, z3]

theorem ok_own_part {P : Program} {w : World} {K : PySem.W.Frag} {mg : Str → Option Value} {base : Heap} {f : Addr} {fd : FuncData} (F : Fun K "own_part" "own_part" s_own_part f fd) (T : Txt mg) :
    FnOk P w K mg base CX0 1 f fd p_own_part (sp_own_part K) := by
  refine F.ok sc_own_part (fun vs H Q E h => spD_len h (by rintro ds k d ⟨V, T, w, rfl, _⟩; rfl)) (fun cdv A outer s H vs Q E hr h => ⟨_, (pss_cons (ps_set (i := 3) sc_own_part.nd rfl (Or.inl rfl) (pe_op op_fdiv (pv 1) pe_int))
      (pss_cons (ps_set (i := 4) sc_own_part.nd rfl (Or.inl rfl) (pe_op op_mulA (pe_lst (pa_cons (pe_op op_mulA (pe_op op_sub (pv 0) pe_int) (pv 3)) pa_nil)) (pe_op op_mod (pv 1) pe_int)))
      (pss_one (ps_ret (pe_op (k_add (K := K) rfl) (pe_listRg rfl rfl T.b_list (prg_2 rfl T.b_range (pe_op op_mulA (pe_op op_sub (pv 2) pe_int) (pv 3)) (pe_op op_mulA (pv 2) (pv 3)))) (pv 4)))))), run_pure (N := n_own_part) (fun ds k d hp => ?_) h⟩)
  obtain ⟨V, T, w, rfl, h1, h5, hT, w1, wV, rfl, rfl⟩ := hp
  obtain ⟨u, rfl⟩ : ∃ u, w = u + 1 := ⟨w - 1, by omega⟩
  obtain ⟨U, rfl⟩ : ∃ U, V = U + 1 := ⟨V - 1, by omega⟩
  obtain ⟨H, eH⟩ : ∃ H, H = T / 2 := ⟨_, rfl⟩
  have b1 : u * H ≤ 100 := Nat.le_trans (Nat.mul_le_mul (show u ≤ 5 by omega) (show H ≤ 20 by omega)) (by decide)
  have b2 : U * H ≤ 100 := Nat.le_trans (Nat.mul_le_mul (show U ≤ 5 by omega) (show H ≤ 20 by omega)) (by decide)
  have b3 : (u + 1) * H ≤ 200 := Nat.le_trans (Nat.mul_le_mul (show u + 1 ≤ 6 by omega) (show H ≤ 20 by omega)) (by decide)
  refine q_asg (d := .int (H : Int)) ((d_fdiv (d_var rfl) d_int ⟨by omega, by omega⟩).to (by rw [eH]; congr 1)) ?_
  refine q_asgO (d := .list ((castL (List.replicate (T % 2) (U * H))).map .int)) (Ev.to (e_rep (ds := [.int ((U * H : Nat) : Int)]) (d_lst (kv := false) (a_cons ((e_mul (d_sub (d_var rfl) d_int) (d_var rfl) ?_).to ?_) a_nil) rfl (by simp)) rfl (d_mod (d_var rfl) d_int (by decide)) (by omega) (by omega) ?_) ?_) ?_
  · exact .inl ⟨by omega, by omega⟩
  · congr 1
    rw [Int.natCast_mul]
    congr 1
    omega
  · simp
    omega
  · have z : ((T : Int) % 2).toNat = T % 2 := by omega
    rw [z]
    simp [castL]
  · refine s_ret (Ev.to (e_catOV (e_listRg2 (i := ((u * H : Nat) : Int)) (j := (((u + 1) * H : Nat) : Int)) ((e_mul (d_sub (d_var rfl) d_int) (d_var rfl) ?_).to ?_) ((e_mul (d_var rfl) (d_var rfl) ?_).to ?_) (by omega) (by omega) (by omega) (by omega)) (flatAll_ints _) rfl (flatAll_ints _) ?_) ?_) (.inl rfl) (.inl rfl)
    · exact .inl ⟨by omega, by omega⟩
    · congr 1
      rw [Int.natCast_mul]
      congr 1
      omega
    · exact .inl ⟨by omega, by omega⟩
    · congr 1
    · have z : (((u + 1) * H : Nat) : Int) - ((u * H : Nat) : Int) = (H : Int) := by rw [Nat.add_mul]; omega
      rw [z]
      simp [upI, castL]
      omega
    · have z : (((u + 1) * H : Nat) : Int) - ((u * H : Nat) : Int) = (H : Int) := by rw [Nat.add_mul]; omega
      rw [z]
      unfold ownN
      rw [← eH, castL_app]
      simp [castL, upI]

theorem ok_lists_for {P : Program} {w : World} {K : PySem.W.Frag} {mg : Str → Option Value} {base : Heap} {f : Addr} {fd : FuncData} (F : Fun K "lists_for" "lists_for" s_lists_for f fd) (T : Txt mg) (c_check_sum : Cal P w K mg base CX0 3 "check_sum" p_check_sum (sp_check_sum K)) (c_own_part : Cal P w K mg base CX0 1 "own_part" p_own_part (sp_own_part K)) :
    FnOk P w K mg base CX0 4 f fd p_lists_for (sp_lists_for K) := by
  refine F.ok sc_lists_for (fun vs H Q E h => spD_len h (by rintro ds k d ⟨V, T, rfl, _⟩; rfl)) (fun cdv A outer s H vs Q E hr h => ⟨_, (pss_cons (ps_expr (pe_cal c_check_sum (hr.mono (by decide)) rfl pass0 (pa_cons (pv 0) (pa_cons (pv 1) pa_nil))))
      (pss_cons (ps_if (pt_cmpR (k_eq (K := K) rfl (rUnits hr)) (pv 0) pe_int (nomark _)) (pss_one (ps_ret (pe_tupN (pa_cons (pe_tupRn rfl rfl T.b_tuple (prg_1 rfl T.b_range (pv 1))) pa_nil)))) pss_nil)
      (pss_cons (ps_set (i := 2) sc_lists_for.nd rfl (Or.inl rfl) (pe_lst pa_nil))
      (pss_cons (ps_for PassesOwn.never rfl (pi_range2 rfl T.b_range (pa_cons pe_int (pa_cons (pv 0) pa_nil))) (pg_name (i := 3) sc_lists_for.nd rfl (Or.inl rfl)) (pss_cons (ps_set (i := 4) sc_lists_for.nd rfl (Or.inl rfl) (pe_op (k_add (K := K) rfl) pe_int (pe_op op_mod (pv 3) (pe_op op_sub (pv 0) pe_int))))
      (pss_cons (ps_set (i := 5) sc_lists_for.nd rfl (Or.inl rfl) (pe_cal c_own_part (hr.mono (by decide)) rfl pass0 (pa_cons (pv 0) (pa_cons (pe_op op_sub (pv 1) (pe_op op_mod (pv 1) pe_int)) (pa_cons (pv 4) pa_nil)))))
      (pss_one (ps_expr (k_bm (K := K) rfl PySem.F.plainAttrs_list PySem.F.slot_list_append PySem.F.type_list_append mt_append (pv 2) (pa_cons (pe_callTy (k_tuple (K := K) rfl) rfl T.b_tuple (by decide +kernel) (pa_cons (pe_op (k_add (K := K) rfl) (pe_cal c_own_part (hr.mono (by decide)) rfl pass0 (pa_cons (pv 0) (pa_cons (pv 1) (pa_cons (pv 3) pa_nil)))) (pe_revL (K := K) rfl (pv 5))) pa_nil)) pa_nil)))))))
      (pss_one (ps_ret (pe_callTy (k_tuple (K := K) rfl) rfl T.b_tuple (by decide +kernel) (pa_cons (pv 2) pa_nil)))))))), run_pure (N := n_lists_for) (fun ds k d hp => ?_) h⟩)
  obtain ⟨V, T, rfl, h1, h5, hT, rfl, rfl⟩ := hp
  have flR : ∀ L : List (List Nat), flatAll ((L.map castL).map tupD) = true := fun L => fl_rows _
  refine q_drop (d_call (k := .v) (d := .none) (a_cons (d_var rfl) (a_cons (d_var rfl) a_nil)) ⟨V, T, rfl, h1, h5, hT, rfl, rfl⟩) ?_
  by_cases q : V = 2
  · refine q_if (a := true) ((t_test (e_eqI (d_var rfl) d_int)).to (decide_eq_true (by omega))) (fun _ => ?_) fun e => nomatch e
    refine q_ret (Ev.to (d_tup (a_consV (e_tupRg (i := (T : Int)) (d_var rfl) (by omega) (by omega)) a_nil) (by simp)) ?_) (.inr ⟨rfl, by exact flR (rowsN V T)⟩) (.inl rfl)
    unfold rowsN rwsD
    rw [if_pos q]
    simp [castL, upI, tupD]
  refine q_no ((t_test (e_eqI (d_var rfl) d_int)).to (decide_eq_false (by omega))) ?_
  rw [rowsN_of q]
  refine q_asgO (d := .list ((((List.range 0).map fun i => rowN V T (i + 1)).map castL).map tupD)) (d_lst (kv := false) (ds := []) a_nil rfl (by decide)) ?_
  refine q_for (i_rng1v (v := V) (a_cons d_int (a_cons (d_var rfl) a_nil)) (by omega))
    (fun n Γ1 => ∃ t3 t4 t5, Γ1 = [some (.v (.int (V : Int))), some (.v (.int (T : Int))), some (.o (.list ((((List.range n).map fun i => rowN V T (i + 1)).map castL).map tupD))), t3, t4, t5]) ⟨_, _, _, rfl⟩ (fun n a Γ1 hn' hI => ?_) (fun Γ1 hI => ?_)
  · obtain ⟨t3, t4, t5, rfl⟩ := hI
    have hn : n < V - 1 := by have := (List.getElem?_eq_some_iff.mp hn').1; simpa using this
    have ea : a = .d (.int ((n + 1 : Nat) : Int)) := by
      rw [List.getElem?_map, List.getElem?_range hn] at hn'
      exact (Option.some.inj hn').symm
    subst ea
    obtain ⟨w, ew⟩ : ∃ w, w = 1 + (n + 1) % (V - 1) := ⟨_, rfl⟩
    have wV : 1 ≤ w ∧ w < V := by
      have := Nat.mod_lt (n + 1) (show 0 < V - 1 by omega)
      omega
    have s1 := ownN_small (V := V) (T := T) (w := n + 1) hT
    have s2 := ownN_small (V := V) (T := T - T % 2) (w := w) (by omega)
    refine ⟨_, _, g_name, ?_⟩
    refine q_asg (d := .int (w : Int)) ((e_add d_int (d_mod (d_var rfl) (d_sub (d_var rfl) d_int) (by omega))).to ?_) ?_
    · congr 1
      have z : ((1 + (n + 1) % (V - 1) : Nat) : Int) = 1 + ((n + 1 : Nat) : Int) % ((V - 1 : Nat) : Int) := by rw [Int.natCast_add, Int.natCast_emod]; rfl
      rw [ew, z, show ((V - 1 : Nat) : Int) = (V : Int) - 1 by omega]
    refine q_asgO (d := .list ((castL (ownN V (T - T % 2) w)).map .int)) (d_call (k := .o) (a_cons (d_var rfl) (a_cons ((d_sub (d_var rfl) (d_mod (d_var rfl) d_int (by decide))).to (y := .int ((T - T % 2 : Nat) : Int)) (by congr 1; omega)) (a_cons (d_var rfl) a_nil))) ⟨V, T - T % 2, w, rfl, by omega, h5, by omega, wV.1, wV.2, rfl, rfl⟩) ?_
    refine s_app rfl (d := tupD (castL (rowN V T (n + 1)))) (Ev.to (d_tuple (e_catL (d_call (k := .o) (a_cons (d_var rfl) (a_cons (d_var rfl) (a_cons (d_var rfl) a_nil))) ⟨V, T, n + 1, rfl, by omega, h5, hT, by omega, by omega, rfl, rfl⟩) (flatAll_ints _) (e_revL (d_varO rfl) (flatAll_ints _)) ?_ ?_) ?_) ?_) (flatT _) (by simp; omega) (.inl ⟨_, .inl rfl, some (.v (.int ((n + 1 : Nat) : Int))), some (.v (.int (w : Int))), some (.o (.list ((castL (ownN V (T - T % 2) w)).map .int))), ?_⟩)
    · rw [← List.map_reverse]; exact flatAll_ints _
    · simp [castL]; omega
    · rw [← List.map_reverse, ← List.map_append]; exact flatAll_ints _
    · unfold rowN
      rw [← ew, castL_app, castL_rev, ← List.map_reverse, ← List.map_append]
    · rw [List.range_succ, List.map_append, List.map_append, List.map_append]
      rfl
  · obtain ⟨t3, t4, t5, rfl⟩ := hI
    rw [List.length_map, List.length_range]
    exact s_ret (d_tuple (d_varO rfl) (flR _)) (.inr ⟨rfl, flR _⟩) (.inl rfl)

theorem ok__law_stream {P : Program} {w : World} {K : PySem.W.Frag} {mg : Str → Option Value} {base : Heap} {f : Addr} {fd : FuncData} (F : Fun K "_law_stream" "_law_stream" s__law_stream f fd) (T : Txt mg) :
    FnOk P w K mg base CX0 1 f fd p__law_stream (sp__law_stream K) := by
  refine F.ok sc__law_stream (fun vs H Q E h => by obtain ⟨a, ns, rfl, _⟩ := h; rfl) (fun cdv A outer s H vs Q E hr h => ⟨_, (pss_one (ps_ret (pe_lst (pa_cons (pe_callTy (k_list (K := K) rfl) rfl T.b_list (by decide +kernel) (pa_cons (pv 0) pa_nil)) (pa_cons pe_int (pa_cons pe_int pa_nil)))))), ?_⟩)
  obtain ⟨a, ns, rfl, hS, hl, k⟩ := h
  refine ⟨_, rfl, a, _, rfl, .inl hS, fun l hl => ⟨(by show 3 ≤ sizeLine; decide), fun st hst => ?_⟩⟩
  have nls : l ≠ st := fun z => by rw [z, upd_same] at hst; cases hst
  have hs0 : H st = none := by rw [← upd_ne (H := H) (o := .lst (ns.map V.int)) nls.symm]; exact hst
  refine k st l _ (fun b o z => ?_) hs0 ⟨ns, 0, 0, upd_same, by rw [upd_ne nls, upd_same], nls, by decide⟩
  rw [upd_ne (ne_of_none z hs0), upd_ne (ne_of_none z hl)]
  exact z

theorem ok__law_next {P : Program} {w : World} {K : PySem.W.Frag} {mg : Str → Option Value} {base : Heap} {f : Addr} {fd : FuncData} (F : Fun K "_law_next" "_law_next" s__law_next f fd) (T : Txt mg) :
    FnOk P w K mg base CX0 1 f fd p__law_next (sp__law_next K) := by
  refine F.ok sc__law_next (fun vs H Q E h => spS_len h (by rintro ds k P ⟨m, rfl, _⟩; rfl)) (fun cdv A outer s H vs Q E hr h => ⟨_, (Evl.pss_cut (ps_if (pt_cmpR (k_eq (K := K) rfl (rUnits hr)) (pe_ix (k_ix (K := K) rfl) (pv 0) pe_int (fun _ _ => rfl)) pe_int (nomark _)) (pss_cons (ps_set (i := 2) sc__law_next.nd rfl (Or.inl rfl) (pe_ix (k_ix (K := K) rfl) (pv 0) pe_int (fun _ _ => rfl)))
      (pss_cons (ps_set (i := 3) sc__law_next.nd rfl (Or.inl rfl) (pe_op (k_add (K := K) rfl) pe_int (pv 2)))
      (Evl.pss_cut (ps_if (pt_cmpR op_lt (pv 2) (pe_callB (k_len (K := K) rfl) rfl T.b_len (by decide +kernel) (pa_cons (pe_ix (k_ix (K := K) rfl) (pv 0) pe_int (fun _ _ => rfl)) pa_nil)) (nomark _)) (pss_one (ps_set (i := 3) sc__law_next.nd rfl (Or.inl rfl) (pe_callB call_abs rfl T.b_abs (by decide +kernel) (pa_cons (pe_ix (k_ix (K := K) rfl) (pe_ix (k_ix (K := K) rfl) (pv 0) pe_int (fun _ _ => rfl)) (pv 2) (fun _ _ => rfl)) pa_nil)))) pss_nil)
      (Evl.pss_cut (ps_if (pt_cmpR op_lt (pv 3) (pe_op op_pow pe_int pe_int) (nomark _)) (pss_cons (ps_set (i := 3) sc__law_next.nd rfl (Or.inl rfl) (pe_op op_mod (pe_callTy call_int1 rfl T.b_int (by decide +kernel) (pa_cons (pe_op (k_add (K := K) rfl) (pe_op (k_add (K := K) rfl) (pe_op op_mulA (pv 3) pe_int) (pe_op op_mulA (pv 2) pe_int)) pe_int) pa_nil)) pe_int))
      (pss_one (ps_set (i := 3) sc__law_next.nd rfl (Or.inl rfl) (pe_op (k_add (K := K) rfl) (pe_op op_mulA (pe_op op_mod (pe_callTy call_int1 rfl T.b_int (by decide +kernel) (pa_cons (pe_op (k_add (K := K) rfl) (pe_op op_mulA (pv 3) pe_int) pe_int) pa_nil)) pe_int) pe_int) (pv 3))))) pss_nil)
      (pss_cons (ps_asg (pv 3) (pg_sub (pv 0) pe_int set_list))
      (pss_one (ps_asg (pe_op (k_add (K := K) rfl) (pv 2) pe_int) (pg_sub (pv 0) pe_int set_list)))))))) pss_nil)
      (pss_cons (ps_set (i := 4) sc__law_next.nd rfl (Or.inl rfl) (pe_op op_mod (pe_callTy call_int1 rfl T.b_int (by decide +kernel) (pa_cons (pe_ix (k_ix (K := K) rfl) (pv 0) pe_int (fun _ _ => rfl)) pa_nil)) (pv 1)))
      (pss_cons (ps_asg (pe_op op_fdiv (pe_ix (k_ix (K := K) rfl) (pv 0) pe_int (fun _ _ => rfl)) (pv 1)) (pg_sub (pv 0) pe_int set_list))
      (pss_one (ps_ret (pv 4)))))), ?_⟩)
  obtain ⟨st, l, vs', ds, kd, P', rfl, hst, hb, ⟨m, rfl, hm, hm2, rfl, rfl⟩, hq⟩ := h
  obtain ⟨mv, rfl, bm⟩ := hb.one
  have em := bm.int'
  subst em
  obtain ⟨ns, x, k, h1, h2, h3, h4⟩ := hst
  -- behind the first if the stream's cell is any int
  refine ⟨fun σ H1 => ∃ (a b c : Option V) (x k : Int), σ = [some (.ref st), some (.int m), a, b, c] ∧ H1 st = some (.lst [.ref l, .int x, .int k]) ∧ H1 l = some (.lst (ns.map V.int)) ∧ 0 ≤ k ∧ ∀ a o, a ≠ st → H a = some o → H1 a = some o, ?_, ?_⟩
  · refine ⟨_, rfl, .inl ⟨st, _, 1, .int x, rfl, rfl, .inl (.inl h1), rfl, .inl ⟨rfl, _, rfl, ?_⟩⟩⟩
    refine ite2 (fun _ => ?_) (fun _ => ⟨_, _, _, x, k, rfl, h1, h2, h4, fun _ _ _ z => z⟩)
    refine ⟨_, rfl, .inl ⟨st, _, 2, .int k, rfl, rfl, .inl (.inl h1), rfl, ?_⟩⟩
    refine ⟨_, rfl, .inl ⟨7, k, rfl, rfl, ?_⟩⟩
    refine ⟨fun σ H1 => H1 = H ∧ ∃ z : Int, σ = [some (.ref st), some (.int m), some (.int k), some (.int z), none], ?_, ?_⟩
    · refine ⟨_, rfl, _, rfl, .inl ⟨st, _, 0, .ref l, rfl, rfl, .inl (.inl h1), rfl, ⟨l, _, rfl, .inl (.inl (.inl h2)), k, _, rfl, rfl, _, rfl, ?_⟩⟩⟩
      refine ite2 (fun hk => ?_) (fun _ => ⟨rfl, _, rfl⟩)
      have hk' : k < (ns.length : Int) := by simpa using of_decide_eq_true hk
      obtain ⟨j, rfl⟩ := Int.eq_ofNat_of_zero_le h4
      have hj : j < ns.length := by omega
      have hat : atI (ns.map V.int) (j : Int) = some (.int ns[j]) := atI_nat (by simp [hj])
      exact ⟨_, rfl, .inl ⟨st, _, 0, .ref l, rfl, rfl, .inl (.inl h1), rfl, _, rfl, .inl ⟨l, _, (j : Int), _, rfl, rfl, .inl (.inl h2), hat, _, rfl, rfl, _, rfl⟩⟩⟩
    · rintro σ H1 ⟨rfl, z, rfl⟩
      refine ⟨fun σ H1' => H1' = H1 ∧ ∃ z : Int, σ = [some (.ref st), some (.int m), some (.int k), some (.int z), none], ?_, ?_⟩
      · refine ⟨_, rfl, 10, 18, rfl, rfl, ⟨by decide, by decide, by decide⟩, z, _, rfl, rfl, _, rfl, ?_⟩
        refine ite2 (fun _ => ?_) (fun _ => ⟨rfl, _, rfl⟩)
        refine ⟨_, rfl, .inl ⟨z, 48271, rfl, rfl, .inr ⟨by decide, by decide⟩, _, rfl, .inl ⟨k, 69621, rfl, rfl, .inr ⟨by decide, by decide⟩, .inl ⟨_, _, rfl, rfl, .inl ⟨_, _, rfl, rfl, .inl ⟨_, rfl, _, _, rfl, rfl, (by show (0 : Int) < 2147483647; decide), ?_⟩⟩⟩⟩⟩⟩
        refine ⟨_, rfl, .inl ⟨_, 16807, rfl, rfl, .inr ⟨by decide, by decide⟩, .inl ⟨_, _, rfl, rfl, .inl ⟨_, rfl, _, _, rfl, rfl, (by show (0 : Int) < 2147483647; decide), .inl ⟨_, 65537, rfl, rfl, .inr ⟨by decide, by decide⟩, _, rfl, .inl ⟨_, _, rfl, rfl, rfl, _, rfl⟩⟩⟩⟩⟩⟩
      · rintro σ H1' ⟨rfl, z, rfl⟩
        refine ⟨_, rfl, _, rfl, st, _, 1, 1, rfl, rfl, h1, rfl, ?_⟩
        refine ⟨_, rfl, .inl ⟨k, 1, rfl, rfl, _, rfl, st, _, 2, 2, rfl, rfl, upd_same, rfl, ?_⟩⟩
        refine ⟨_, _, _, z, k + 1, rfl, upd_same, by rw [upd_ne h3, upd_ne h3]; exact h2, by omega, fun a o na ha => by rw [upd_ne na, upd_ne na]; exact ha⟩
  · rintro σ H1 ⟨a, b, c, x, k, rfl, g1, g2, g4, g5⟩
    refine ⟨_, rfl, .inl ⟨st, _, 1, .int x, rfl, rfl, .inl (.inl g1), rfl, .inl ⟨x, rfl, _, rfl, x, m, rfl, rfl, hm, ?_⟩⟩⟩
    refine ⟨_, rfl, .inl ⟨st, _, 1, .int x, rfl, rfl, .inl (.inl g1), rfl, _, rfl, x, m, rfl, rfl, ⟨hm, hm2⟩, _, rfl, st, _, 1, 1, rfl, rfl, g1, rfl, ?_⟩⟩
    refine ⟨_, rfl, hq _ (.int (x % m)) _ ⟨x % m, rfl, Int.emod_nonneg _ (by omega), Int.emod_lt_of_pos _ hm⟩ ⟨fun a o na ha => ?_, fun _ st' l' e => ?_⟩ ⟨rfl, .int _⟩⟩
    · have : a ≠ st := na st l rfl
      rw [upd_ne this]
      exact g5 a o this ha
    · cases e
      exact Str1.put g2 h3 g4

theorem ok__law_ask {P : Program} {w : World} {K : PySem.W.Frag} {mg : Str → Option Value} {base : Heap} {f : Addr} {fd : FuncData} (F : Fun K "_law_ask" "_law_ask" s__law_ask f fd) (T : Txt mg) (c_lists_for : Cal P w K mg base CX0 4 "lists_for" p_lists_for (sp_lists_for K)) (c_entries : Cal P w K mg base CX0 6 "entries" p_entries (sp_entries K)) (c_greatest_clique : Cal P w K mg base CX0 6 "greatest_clique" p_greatest_clique (sp_greatest_clique K)) (c_fewest : Cal P w K mg base CX0 13 "fewest" p_fewest (sp_fewest K)) (c_accepts_fewest : Cal P w K mg base CX0 7 "accepts_fewest" p_accepts_fewest (sp_accepts_fewest68 K)) (c_coexist : Cal P w K mg base CX0 7 "coexist" p_coexist (sp_coexist K)) (c_fault : Cal P w K mg base CX0 6 "fault" p_fault (sp_fault K)) (c_accepts_few : Cal P w K mg base CX0 7 "accepts_few" p_accepts_few (sp_accepts_few68 K)) (c_needed : Cal P w K mg base CX0 4 "needed" p_needed (sp_needed K)) :
    FnOk P w K mg base CX0 14 f fd p__law_ask (sp__law_ask68 K) := by
  refine F.ok sc__law_ask (fun vs H Q E h => spD_len h (by rintro ds k d ⟨w, row, rfl, _⟩; rfl)) (fun cdv A outer s H vs Q E hr h => ⟨_, (pss_cons (ps_if (pt_cmpR (k_eq (K := K) rfl (rUnits hr)) (pv 0) pe_int (nomark _)) (pss_one (ps_ret (pe_cal c_entries (hr.mono (by decide)) rfl pass0 (pa_cons (pe_ix (k_ix (K := K) rfl) (pv 1) pe_int (fun _ _ => rfl)) (pa_cons (pe_ix (k_ix (K := K) rfl) (pv 1) pe_int (fun _ _ => rfl)) pa_nil))))) pss_nil)
      (pss_cons (ps_if (pt_cmpR (k_eq (K := K) rfl (rUnits hr)) (pv 0) pe_int (nomark _)) (pss_one (ps_ret (pe_cal c_greatest_clique (hr.mono (by decide)) rfl pass0 (pa_cons (pe_ix (k_ix (K := K) rfl) (pv 1) pe_int (fun _ _ => rfl)) (pa_cons (pe_ix (k_ix (K := K) rfl) (pv 1) pe_int (fun _ _ => rfl)) pa_nil))))) pss_nil)
      (pss_cons (ps_if (pt_cmpR (k_eq (K := K) rfl (rUnits hr)) (pv 0) pe_int (nomark _)) (pss_one (ps_ret (pe_cal c_fewest (hr.mono (by decide)) rfl pass0 (pa_cons (pe_ix (k_ix (K := K) rfl) (pv 1) pe_int (fun _ _ => rfl)) (pa_cons (pe_ix (k_ix (K := K) rfl) (pv 1) pe_int (fun _ _ => rfl)) pa_nil))))) pss_nil)
      (pss_cons (ps_if (pt_cmpR (k_eq (K := K) rfl (rUnits hr)) (pv 0) pe_int (nomark _)) (pss_one (ps_ret (pe_cal c_accepts_fewest (hr.mono (by decide)) rfl pass0 (pa_cons (pe_ix (k_ix (K := K) rfl) (pv 1) pe_int (fun _ _ => rfl)) (pa_cons (pe_ix (k_ix (K := K) rfl) (pv 1) pe_int (fun _ _ => rfl)) (pa_cons pe_non pa_nil)))))) pss_nil)
      (pss_cons (ps_if (pt_cmpR (k_eq (K := K) rfl (rUnits hr)) (pv 0) pe_int (nomark _)) (pss_one (ps_ret (pe_cal c_coexist (hr.mono (by decide)) rfl pass0 (pa_cons (pe_ix (k_ix (K := K) rfl) (pv 1) pe_int (fun _ _ => rfl)) (pa_cons (pe_ix (k_ix (K := K) rfl) (pv 1) pe_int (fun _ _ => rfl)) (pa_cons (pe_ix (k_ix (K := K) rfl) (pv 1) pe_int (fun _ _ => rfl)) (pa_cons (pe_ix (k_ix (K := K) rfl) (pv 1) pe_int (fun _ _ => rfl)) pa_nil))))))) pss_nil)
      (pss_cons (ps_if (pt_cmpR (k_eq (K := K) rfl (rUnits hr)) (pv 0) pe_int (nomark _)) (pss_one (ps_ret (pe_cal c_fault (hr.mono (by decide)) rfl pass0 (pa_cons (pe_ix (k_ix (K := K) rfl) (pv 1) pe_int (fun _ _ => rfl)) (pa_cons (pe_ix (k_ix (K := K) rfl) (pv 1) pe_int (fun _ _ => rfl)) (pa_cons (pe_ix (k_ix (K := K) rfl) (pv 1) pe_int (fun _ _ => rfl)) pa_nil)))))) pss_nil)
      (pss_cons (ps_if (pt_cmpR (k_eq (K := K) rfl (rUnits hr)) (pv 0) pe_int (nomark _)) (pss_one (ps_ret (pe_cal c_accepts_few (hr.mono (by decide)) rfl pass0 (pa_cons (pe_ix (k_ix (K := K) rfl) (pv 1) pe_int (fun _ _ => rfl)) (pa_cons (pe_ix (k_ix (K := K) rfl) (pv 1) pe_int (fun _ _ => rfl)) (pa_cons (pe_ix (k_ix (K := K) rfl) (pv 1) pe_int (fun _ _ => rfl)) (pa_cons pe_non pa_nil))))))) pss_nil)
      (pss_cons (ps_if (pt_cmpR (k_eq (K := K) rfl (rUnits hr)) (pv 0) pe_int (nomark _)) (pss_one (ps_ret (pe_cal c_needed (hr.mono (by decide)) rfl pass0 (pa_cons (pe_ix (k_ix (K := K) rfl) (pv 1) pe_int (fun _ _ => rfl)) (pa_cons (pe_ix (k_ix (K := K) rfl) (pv 1) pe_int (fun _ _ => rfl)) pa_nil))))) pss_nil)
      (pss_one (ps_ret (pe_cal c_lists_for (hr.mono (by decide)) rfl pass0 (pa_cons (pe_ix (k_ix (K := K) rfl) (pv 1) pe_int (fun _ _ => rfl)) (pa_cons (pe_ix (k_ix (K := K) rfl) (pv 1) pe_int (fun _ _ => rfl)) pa_nil))))))))))))), run_pure (N := n__law_ask) (fun ds k d hp => ?_) h⟩)
  obtain ⟨w, row, rfl, hc⟩ := hp
  have ix : ∀ (j : Nat) (z : PyData), row[j]? = some z → Ev (pc K) (tOp (rIx K) (tVar 1) (tC (.int (j : Int)))) (argsG [.int (w : Int), .list row] n__law_ask.length) .v z := fun j z hz => e_ixLv (d_var rfl) d_int (atI_nat hz)
  have i0 := ix 0
  have i1 := ix 1
  have i2 := ix 2
  have i3 := ix 3
  clear ix
  rcases hc with ⟨F, v, h, ⟨_, rfl, l9, nn, hd⟩ | ⟨rfl, rfl, e, f, rfl, he, hf, rfl⟩ | ⟨rfl, rfl, L, rfl, hL, rfl⟩ | ⟨rfl, rfl, m, rfl, l9, m0, m1, rfl⟩⟩ | ⟨V, T, rfl, v1, v5, t20, rfl, ⟨rfl, rfl⟩ | ⟨rfl, rfl⟩⟩
  · rcases hd with ⟨rfl, rfl, rfl⟩ | ⟨rfl, rfl, rfl⟩ | ⟨rfl, rfl, rfl⟩ | ⟨rfl, rfl, rfl⟩
    · exact (q_if (a := true) (EvT.to (t_test (e_eqI (d_var rfl) d_int)) rfl) (fun _ => (s_ret (d_call (k := .o) (a_cons (i0 _ rfl) (a_cons (i1 _ rfl) a_nil)) ⟨F, v, rfl, h, rfl, rfl⟩) (.inl rfl) (.inl rfl))) fun z => nomatch z)
    · exact (q_if (a := false) (EvT.to (t_test (e_eqI (d_var rfl) d_int)) rfl) (fun z => nomatch z) fun _ => q_next (q_if (a := true) (EvT.to (t_test (e_eqI (d_var rfl) d_int)) rfl) (fun _ => (s_retC (a_cons (i0 _ rfl) (a_cons (i1 _ rfl) a_nil)) ⟨F, v, rfl, h, rfl, rfl⟩ (.inl rfl))) fun z => nomatch z))
    · exact (q_if (a := false) (EvT.to (t_test (e_eqI (d_var rfl) d_int)) rfl) (fun z => nomatch z) fun _ => q_next (q_if (a := false) (EvT.to (t_test (e_eqI (d_var rfl) d_int)) rfl) (fun z => nomatch z) fun _ => q_next (q_if (a := true) (EvT.to (t_test (e_eqI (d_var rfl) d_int)) rfl) (fun _ => (s_retC (a_cons (i0 _ rfl) (a_cons (i1 _ rfl) a_nil)) ⟨F, v, rfl, h, l9, nn, rfl, rfl⟩ (.inl rfl))) fun z => nomatch z)))
    · exact (q_if (a := false) (EvT.to (t_test (e_eqI (d_var rfl) d_int)) rfl) (fun z => nomatch z) fun _ => q_next (q_if (a := false) (EvT.to (t_test (e_eqI (d_var rfl) d_int)) rfl) (fun z => nomatch z) fun _ => q_next (q_if (a := false) (EvT.to (t_test (e_eqI (d_var rfl) d_int)) rfl) (fun z => nomatch z) fun _ => q_next (q_if (a := true) (EvT.to (t_test (e_eqI (d_var rfl) d_int)) rfl) (fun _ => (s_retC (a_cons (i0 _ rfl) (a_cons (i1 _ rfl) (a_cons d_non a_nil))) ⟨F, v, rfl, h, rfl, rfl⟩ (.inl rfl))) fun z => nomatch z))))
  · exact (q_if (a := false) (EvT.to (t_test (e_eqI (d_var rfl) d_int)) rfl) (fun z => nomatch z) fun _ => q_next (q_if (a := false) (EvT.to (t_test (e_eqI (d_var rfl) d_int)) rfl) (fun z => nomatch z) fun _ => q_next (q_if (a := false) (EvT.to (t_test (e_eqI (d_var rfl) d_int)) rfl) (fun z => nomatch z) fun _ => q_next (q_if (a := false) (EvT.to (t_test (e_eqI (d_var rfl) d_int)) rfl) (fun z => nomatch z) fun _ => q_next (q_if (a := true) (EvT.to (t_test (e_eqI (d_var rfl) d_int)) rfl) (fun _ => (s_retC (a_cons (i0 _ rfl) (a_cons (i1 _ rfl) (a_cons (i2 _ rfl) (a_cons (i3 _ rfl) a_nil)))) ⟨F, v, e, f, rfl, h, he, hf, rfl, rfl⟩ (.inl rfl))) fun z => nomatch z)))))
  · exact (q_if (a := false) (EvT.to (t_test (e_eqI (d_var rfl) d_int)) rfl) (fun z => nomatch z) fun _ => q_next (q_if (a := false) (EvT.to (t_test (e_eqI (d_var rfl) d_int)) rfl) (fun z => nomatch z) fun _ => q_next (q_if (a := false) (EvT.to (t_test (e_eqI (d_var rfl) d_int)) rfl) (fun z => nomatch z) fun _ => q_next (q_if (a := false) (EvT.to (t_test (e_eqI (d_var rfl) d_int)) rfl) (fun z => nomatch z) fun _ => q_next (q_if (a := false) (EvT.to (t_test (e_eqI (d_var rfl) d_int)) rfl) (fun z => nomatch z) fun _ => q_next (q_if (a := true) (EvT.to (t_test (e_eqI (d_var rfl) d_int)) rfl) (fun _ => (s_retC (a_cons (i0 _ rfl) (a_cons (i1 _ rfl) (a_cons (i2 _ rfl) a_nil))) ⟨L, F, (v : Int), rfl, h, hL, rfl, rfl⟩ (.inl rfl))) fun z => nomatch z))))))
  · exact (q_if (a := false) (EvT.to (t_test (e_eqI (d_var rfl) d_int)) rfl) (fun z => nomatch z) fun _ => q_next (q_if (a := false) (EvT.to (t_test (e_eqI (d_var rfl) d_int)) rfl) (fun z => nomatch z) fun _ => q_next (q_if (a := false) (EvT.to (t_test (e_eqI (d_var rfl) d_int)) rfl) (fun z => nomatch z) fun _ => q_next (q_if (a := false) (EvT.to (t_test (e_eqI (d_var rfl) d_int)) rfl) (fun z => nomatch z) fun _ => q_next (q_if (a := false) (EvT.to (t_test (e_eqI (d_var rfl) d_int)) rfl) (fun z => nomatch z) fun _ => q_next (q_if (a := false) (EvT.to (t_test (e_eqI (d_var rfl) d_int)) rfl) (fun z => nomatch z) fun _ => q_next (q_if (a := true) (EvT.to (t_test (e_eqI (d_var rfl) d_int)) rfl) (fun _ => (s_retC (a_cons (i0 _ rfl) (a_cons (i1 _ rfl) (a_cons (i2 _ rfl) (a_cons d_non a_nil)))) ⟨F, v, m, rfl, h, l9, m0, m1, rfl, rfl⟩ (.inl rfl))) fun z => nomatch z)))))))
  · exact (q_if (a := false) (EvT.to (t_test (e_eqI (d_var rfl) d_int)) rfl) (fun z => nomatch z) fun _ => q_next (q_if (a := false) (EvT.to (t_test (e_eqI (d_var rfl) d_int)) rfl) (fun z => nomatch z) fun _ => q_next (q_if (a := false) (EvT.to (t_test (e_eqI (d_var rfl) d_int)) rfl) (fun z => nomatch z) fun _ => q_next (q_if (a := false) (EvT.to (t_test (e_eqI (d_var rfl) d_int)) rfl) (fun z => nomatch z) fun _ => q_next (q_if (a := false) (EvT.to (t_test (e_eqI (d_var rfl) d_int)) rfl) (fun z => nomatch z) fun _ => q_next (q_if (a := false) (EvT.to (t_test (e_eqI (d_var rfl) d_int)) rfl) (fun z => nomatch z) fun _ => q_next (q_if (a := false) (EvT.to (t_test (e_eqI (d_var rfl) d_int)) rfl) (fun z => nomatch z) fun _ => q_next (q_if (a := true) (EvT.to (t_test (e_eqI (d_var rfl) d_int)) rfl) (fun _ => (s_retC (a_cons (i0 _ rfl) (a_cons (i1 _ rfl) a_nil)) ⟨V, T, rfl, v1, v5, t20, rfl, rfl⟩ (.inl rfl))) fun z => nomatch z))))))))
  · exact (q_if (a := false) (EvT.to (t_test (e_eqI (d_var rfl) d_int)) rfl) (fun z => nomatch z) fun _ => q_next (q_if (a := false) (EvT.to (t_test (e_eqI (d_var rfl) d_int)) rfl) (fun z => nomatch z) fun _ => q_next (q_if (a := false) (EvT.to (t_test (e_eqI (d_var rfl) d_int)) rfl) (fun z => nomatch z) fun _ => q_next (q_if (a := false) (EvT.to (t_test (e_eqI (d_var rfl) d_int)) rfl) (fun z => nomatch z) fun _ => q_next (q_if (a := false) (EvT.to (t_test (e_eqI (d_var rfl) d_int)) rfl) (fun z => nomatch z) fun _ => q_next (q_if (a := false) (EvT.to (t_test (e_eqI (d_var rfl) d_int)) rfl) (fun z => nomatch z) fun _ => q_next (q_if (a := false) (EvT.to (t_test (e_eqI (d_var rfl) d_int)) rfl) (fun z => nomatch z) fun _ => q_next (q_if (a := false) (EvT.to (t_test (e_eqI (d_var rfl) d_int)) rfl) (fun z => nomatch z) fun _ => q_next (s_retC (a_cons (i0 _ rfl) (a_cons (i1 _ rfl) a_nil)) ⟨V, T, rfl, v1, v5, t20, rfl, rfl⟩ (.inl rfl))))))))))

theorem ok__law_named {P : Program} {w : World} {K : PySem.W.Frag} {mg : Str → Option Value} {base : Heap} {f : Addr} {fd : FuncData} (F : Fun K "_law_named" "_law_named" s__law_named f fd) (T : Txt mg) (c__law_told : Cal P w K mg base CX0 15 "_law_told" p__law_told (sp__law_told68 K)) (c__law_next : Cal P w K mg base CX0 1 "_law_next" p__law_next (sp__law_next K)) :
    FnOk P w K mg base CX0 16 f fd p__law_named (sp__law_named68 K) := by
  refine F.ok sc__law_named (fun vs H Q E h => spS_len h (by rintro ds k P ⟨w, nms, gd, bd, rfl, _⟩; rfl)) (fun cdv A outer s H vs Q E hr h => ⟨_, (pss_cons (ps_if (pt_cmpR (k_ne (K := K) rfl (rUnits hr)) (pe_cal c__law_told (hr.mono (by decide)) rfl pass0 (pa_cons (pv 1) (pa_cons (pv 3) pa_nil))) (pe_tupN (pa_cons pe_str pa_nil)) (nomark _)) (pss_one (ps_ret pe_bl)) pss_nil)
      (pss_cons (ps_for PassesOwn.never rfl (pi_range1 rfl T.b_range (pa_cons (pe_callB (k_len (K := K) rfl) rfl T.b_len (by decide +kernel) (pa_cons (pv 2) pa_nil)) pa_nil)) (pg_name (i := 5) sc__law_named.nd rfl (Or.inl rfl)) (pss_cons (ps_set (i := 6) sc__law_named.nd rfl (Or.inl rfl) (pe_callTy (k_list (K := K) rfl) rfl T.b_list (by decide +kernel) (pa_cons (pv 3) pa_nil)))
      (pss_cons (ps_asg (pe_ix (k_ix (K := K) rfl) (pv 4) (pv 5) (fun _ _ => rfl)) (pg_sub (pv 6) (pv 5) set_list))
      (pss_cons (ps_for PassesOwn.never rfl (pi_range2 rfl T.b_range (pa_cons (pe_op (k_add (K := K) rfl) (pv 5) pe_int) (pa_cons (pe_callB (k_len (K := K) rfl) rfl T.b_len (by decide +kernel) (pa_cons (pv 2) pa_nil)) pa_nil))) (pg_name (i := 7) sc__law_named.nd rfl (Or.inl rfl)) (pss_one (ps_if (pt_cmpR (k_eq (K := K) rfl (rUnits hr)) (pe_cal c__law_next (hr.mono (by decide)) rfl pass0 (pa_cons (pv 0) (pa_cons pe_int pa_nil))) pe_int (nomark _)) (pss_one (ps_asg (pe_ix (k_ix (K := K) rfl) (pv 4) (pv 7) (fun _ _ => rfl)) (pg_sub (pv 6) (pv 7) set_list))) pss_nil)))
      (pss_one (ps_if (pt_cmpR (k_ne (K := K) rfl (rUnits hr)) (pe_cal c__law_told (hr.mono (by decide)) rfl pass0 (pa_cons (pv 1) (pa_cons (pv 6) pa_nil))) (pe_tupN (pa_cons pe_str (pa_cons (pe_ix (k_ix (K := K) rfl) (pv 2) (pv 5) (fun _ _ => rfl)) pa_nil))) (nomark _)) (pss_one (ps_ret pe_bl)) pss_nil))))))
      (pss_one (ps_ret pe_bl)))), run_str (N := n__law_named) (fun st l ds k P' hp => ?_) h⟩)
  obtain ⟨w, nms, gd, bd, rfl, ⟨kk, dd, hP⟩, ⟨lg, lb, l6, hz, hB⟩, rfl, rfl⟩ := hp
  have sf : SeqAt.shaped (.tuple [.str (Str.ofString "fine")]) = true := (sh_tup (n := 0) (ds := [.str (Str.ofString "fine")]) (by simp [sh_str])).ok (by decide)
  refine q_no (EvT.to (t_test (e_neD (d_call (k := .v) (d := .tuple [.str "fine"]) (a_cons (d_var rfl) (a_cons (d_var rfl) a_nil)) ⟨w, gd, rfl, rfl, .inl ⟨⟨kk, dd, hP⟩, rfl⟩⟩) (d_tup (a_consV d_str a_nil) (by simp)) sf sf)) (by rw [eqv_rf rfl]; rfl)) ?_
  refine q_for (i_rngN (n := nms.length) (a_cons ((d_lenL (d_var rfl)).to (by rw [List.length_map])) a_nil) (by omega)) (fun n Γ1 => ∃ t5 t6 t7, Γ1 = [some (.r (.ref st)), some (.v (.int (w : Int))), some (.v (.list (nms.map .str))), some (.v (.list gd)), some (.v (.list bd)), t5, t6, t7]) ⟨_, _, _, rfl⟩ (fun n a Γ1 hn' hI => ?_) (fun Γ1 hI => ?_)
  · obtain ⟨t5, t6, t7, rfl⟩ := hI
    obtain ⟨hn, rfl⟩ := rngN_at hn'
    have bn : bd[n]? = some (bd.getD n .none) := by rw [List.getD_eq_getElem?_getD, List.getElem?_eq_getElem (by omega)]; rfl
    refine ⟨_, _, g_name, ?_⟩
    refine q_asgW (w_list (d_var rfl)) ?_
    refine s_seqE (fun Γ1 => Γ1 = [some (.r (.ref st)), some (.v (.int (w : Int))), some (.v (.list (nms.map .str))), some (.v (.list gd)), some (.v (.list bd)), some (.v (.int (n : Int))), some (.w (gd.set n (bd.getD n .none))), t7]) (s_setW (m := n) rfl (e_ixLv (d_var rfl) (d_var rfl) (atI_nat bn)) (d_var rfl) (ixN_at rfl (by omega)) ⟨_, rfl, rfl⟩) ?_
    rintro Γ1 rfl
    refine q_for (i_rngN2 (lo := n + 1) (n := nms.length) (a_cons (Ev.to (e_add (d_var rfl) d_int) (y := .int ((n + 1 : Nat) : Int)) rfl) (a_cons ((d_lenL (d_var rfl)).to (by rw [List.length_map])) a_nil)) (by omega) (by omega))
      (fun m Γ1 => ∃ (row : List PyData) (t7 : Option Rs), Γ1 = [some (.r (.ref st)), some (.v (.int (w : Int))), some (.v (.list (nms.map .str))), some (.v (.list gd)), some (.v (.list bd)), some (.v (.int (n : Int))), some (.w row), t7] ∧ row.length = nms.length ∧ (∀ j, j < n → row[j]? = gd[j]?) ∧ row[n]? = bd[n]? ∧ ∀ j, n < j → row[j]? = gd[j]? ∨ row[j]? = bd[j]?)
      ⟨_, _, rfl, by rw [List.length_set, lg], fun j hj => List.getElem?_set_ne (by omega), by rw [List.getElem?_set_self (by omega), bn], fun j hj => .inl (List.getElem?_set_ne (by omega))⟩ (fun m a Γ1 hm' hI => ?_) (fun Γ1 hI => ?_)
    · obtain ⟨row, t7, rfl, r1, r2, r3, r4⟩ := hI
      have hm : m < nms.length - (n + 1) := by have := (List.getElem?_eq_some_iff.mp hm').1; simpa using this
      have ea : a = .d (.int ((n + 1 + m : Nat) : Int)) := by
        rw [List.getElem?_map, List.getElem?_range hm] at hm'
        exact (Option.some.inj hm').symm
      subst ea
      have bm : bd[n + 1 + m]? = some (bd.getD (n + 1 + m) .none) := by rw [List.getD_eq_getElem?_getD, List.getElem?_eq_getElem (by omega)]; rfl
      refine ⟨_, _, g_name, s_ifN (tn_eq (n_call (st := st) (l := l) rfl rfl (a_cons d_int a_nil) ⟨2, rfl, by decide, by decide, rfl, rfl⟩) (d_int.sm (Q := fun _ => True) trivial)) ?_ (s_next (.inl ⟨_, .inl rfl, row, _, rfl, r1, r2, r3, r4⟩))⟩
      refine s_setW (m := n + 1 + m) rfl (e_ixLv (d_var rfl) (d_var rfl) (atI_nat bm)) (d_var rfl) (ixN_at rfl (by omega)) (.inl ⟨_, .inl rfl, row.set (n + 1 + m) (bd.getD (n + 1 + m) .none), _, rfl, by rw [List.length_set, r1], fun j hj => ?_, ?_, fun j hj => ?_⟩)
      · rw [List.getElem?_set_ne (by omega)]; exact r2 j hj
      · rw [List.getElem?_set_ne (by omega)]; exact r3
      · by_cases e : n + 1 + m = j
        · subst e
          exact .inr (by rw [List.getElem?_set_self (by omega), bm])
        · rw [List.getElem?_set_ne e]; exact r4 j hj
    · obtain ⟨row, t7, rfl, r1, r2, r3, r4⟩ := hI
      have sn : nms[n]? = some (nms.getD n "") := by rw [List.getD_eq_getElem?_getD, List.getElem?_eq_getElem hn]; rfl
      have mn : nms.getD n "" ∈ nms := List.mem_of_getElem? sn
      have sb := hz _ mn
      refine s_freezeW (n := 6) rfl ?_
      exact s_if (a := false) (EvT.to (t_test (e_neD (d_call (k := .v) (d := .tuple [.str (Str.ofString "bad"), .str (nms.getD n "")]) (a_cons (d_var rfl) (a_cons (d_var rfl) a_nil)) ⟨w, row, rfl, rfl, .inr ⟨_, hB n hn row r1 r2 r3 r4, rfl⟩⟩) (d_tup (a_consV d_str (a_consV (e_ixLv (d_var rfl) (d_var rfl) (atI_nat (v := .str (nms.getD n "")) (by rw [List.getElem?_map, sn]; rfl))) a_nil)) (by simp)) sb sb)) (by rw [eqv_rf rfl]; rfl)) (fun z => nomatch z) fun _ => s_next (.inl ⟨_, .inl rfl, _, _, _, rfl⟩)
  · obtain ⟨t5, t6, t7, rfl⟩ := hI
    exact s_ret d_bl (.inr ⟨rfl, rfl⟩) ⟨_, rfl, rfl⟩

theorem ok_ini_BadValue {P : Program} {w : World} {K : PySem.W.Frag} {mg : Str → Option Value} {base : Heap} {f C cc cda : Addr} {kV doc pm ct oc cl ccl : Value} {an od cdd cld : Option Addr} {osl csl ccs : Array (Option Value)} {vs : Array Value} {file : Str} {tf : Tok}
    (lk : K.lookup f = some ⟨oc, od, .func (PySem.W.ksFn "__init__" "BadValue.__init__" (defArgs s_ini_BadValue) (defBody s_ini_BadValue) (defScope s_ini_BadValue) .none kV doc pm an (.ref cda) ct cc), osl⟩)
    (hcd : PySem.W.codeIn K (.ref cda) "BadValue.__init__" = true) (hcode : K.lookup cda = some ⟨ccl, cdd, .fields vs, ccs⟩) (hvs : vs[2]? = some (.str file tf)) (hfile : ((P.main.file : Str) == file) = true) (hcell : K.lookup cc = some ⟨cl, cld, .cell (some (.ref C)), csl⟩)
    (O : OexC K C) (hno : PySem.W.findIn K (.ref C) "name" = some none) (hsuper : mg "super" = none) (hsub : PySem.W.subIn K (.ref C) (.type "ValueError") = some true) (hop : PySem.W.nsIn K cStatics "thirdparty.any" = some none)
    (hm : PySem.W.ks_superIn K C C "__init__" = some (some (.builtin "ValueError.__init__"))) (htop : (P.main.scope.names.lookup ("super" : Str)).isSome = false) :
    FnOk P w K mg base (L2.CX P w) 1 f (PySem.W.ksFn "__init__" "BadValue.__init__" (defArgs s_ini_BadValue) (defBody s_ini_BadValue) (defScope s_ini_BadValue) .none kV doc pm an (.ref cda) ct cc) ["self", "name"] (spIni C "name") :=
  fn_super (k := 0) (N := ["self", "name"]) (ps := ["self", "name"]) lk hcd ⟨rfl, rfl, rfl, by decide +kernel, rfl, by decide +kernel, by decide +kernel, by decide +kernel, rfl, rfl⟩ rfl rfl hcode hvs hfile hcell O hsuper hsub hop hm htop (fun vs H Q E h => by obtain ⟨a, nm, rfl, _⟩ := h; rfl)
    (fun A outer s H vs Q E hr h => by
      obtain ⟨a, nm, rfl, hz, ha, hq⟩ := h
      exact ⟨a, [.str nm], _, _, rfl, ha, pe_joined (PJ.cons pe_str (PJ.cons (pe_fmt (pv 1)) PJ.nil)), pss_one (ps_ost (pv 0) (pv 1)), run_ini (Q := Q) (by decide) hz O hno rfl rfl ha hq⟩)
end W

namespace W
open PySem PySem.Spec PyProof.Rows L2 Lm
theorem ok_requireX {P : Program} {w : World} {K : PySem.W.Frag} {mg : Str → Option Value} {base : Heap} {f C : Addr} {fd : FuncData} (F : Fun K "require" "require" s_require f fd) (T : Txt mg) (X : Exc1 P w K mg base "BadValue" "name" C) :
    FnOk P w K mg base (L2.CX P w) 4 f fd p_require (spReq C) := by
  obtain ⟨fI, fdI, iC, tI, F1, hb⟩ := X.ini
  refine F.okX sc_require (fun vs H Q E h => by obtain ⟨b, nm, rfl, _⟩ := h; rfl) (fun cdv A outer s H vs Q E hr h => ⟨_, (pss_one (ps_if (pt_not (pt_val (pv 0))) (pss_one (ps_raise rfl (takes_of rfl rfl rfl rfl) (pmk_oex X.O iC tI F1 (hr.mono (by decide)) hb .nil passL rfl X.hC (pa_cons (pv 1) pa_nil)))) pss_nil)), ?_⟩)
  obtain ⟨b, nm, rfl, hz, h1, h2⟩ := h
  cases b with
  | true => exact ⟨.bl true, rfl, true, rfl, h1 rfl⟩
  | false => exact ⟨.bl false, rfl, false, rfl, mkO_req hz (fun Q' q => ⟨_, rfl, q⟩) (h2 rfl)⟩

theorem ok_check_variantsX {P : Program} {w : World} {K : PySem.W.Frag} {mg : Str → Option Value} {base : Heap} {f C : Addr} {fd : FuncData} (F : Fun K "check_variants" "check_variants" s_check_variants f fd) (T : Txt mg) (c_is_integer : Cal P w K mg base CX0 1 "is_integer" p_is_integer (sp_is_integer K)) {fx_require : Addr} {fdx_require : FuncData} (X_require : FnOk P w K mg base (L2.CX P w) 4 fx_require fdx_require p_require (spReq C)) (m_require : mg "require" = some (.ref fx_require)) (k_require : PySem.W.keepIn K (.ref fx_require) = true) (b_require : Binds K fdx_require p_require []) :
    FnOk P w K mg base (L2.CX P w) 5 f fd p_check_variants (spRef K C RcV) := by
  refine F.okX sc_check_variants (fun vs H Q E h => by obtain ⟨ds, nm, hb, hd, _⟩ := h; rw [hb.len, RcV_len hd]; rfl) (fun cdv A outer s H vs Q E hr h => ⟨_, (pss_one (ps_expr (pe_call X_require (hr.mono (by decide)) rfl m_require k_require b_require .nil (passes_call (E := E) (takes_of rfl rfl rfl rfl) (fun _ _ _ _ h => h)) (pa_cons (pe_cal (cal_up0 c_is_integer) (hr.mono (by decide)) rfl passL (pa_cons (pv 0) (pa_cons pe_int (pa_cons (pe_const rfl T.k_MOST_VARIANTS) pa_nil)))) (pa_cons pe_str pa_nil))))), run_ref (N := n_check_variants) (C := C) (fun ds nm hd hE => ?_) h⟩)
  obtain ⟨x, rfl, hx, rfl⟩ := hd
  exact xl_req (by decide) hE (d_call (k := .v) (d := .bool false) (a_cons (d_var rfl) (a_cons d_int (a_cons d_int a_nil))) ⟨x, 1, 5, rfl, rfl, by rw [hx]⟩)

theorem ok_is_familyX {P : Program} {w : World} {K : PySem.W.Frag} {mg : Str → Option Value} {base : Heap} {f C : Addr} {fd : FuncData} (F : Fun K "is_family" "is_family" s_is_family f fd) (T : Txt mg) (c_is_tuple_of_shares : Cal P w K mg base CX0 3 "is_tuple_of_shares" p_is_tuple_of_shares (sp_is_tuple_of_sharesX K)) {fx_check_variants : Addr} {fdx_check_variants : FuncData} (X_check_variants : FnOk P w K mg base (L2.CX P w) 5 fx_check_variants fdx_check_variants p_check_variants (spDR K C (sp_check_variants K) RcV)) (m_check_variants : mg "check_variants" = some (.ref fx_check_variants)) (k_check_variants : PySem.W.keepIn K (.ref fx_check_variants) = true) (b_check_variants : Binds K fdx_check_variants p_check_variants []) :
    FnOk P w K mg base (L2.CX P w) 6 f fd p_is_family (spRef K C RcIf) := by
  refine F.okX sc_is_family (fun vs H Q E h => by obtain ⟨ds, nm, hb, hd, _⟩ := h; rw [hb.len, RcIf_len hd]; rfl) (fun cdv A outer s H vs Q E hr h => ⟨_, (pss_cons (ps_expr (pe_call X_check_variants (hr.mono (by decide)) rfl m_check_variants k_check_variants b_check_variants .nil (passes_call (E := E) (takes_of rfl rfl rfl rfl) (fun _ _ _ _ h => h)) (pa_cons (pv 1) pa_nil)))
      (pss_cons (ps_if (PW.pt (pw_or (pt_not (pt_val (pe_callB (k_isi (K := K) rfl) rfl T.b_isinstance (by decide +kernel) (pa_cons (pv 0) (pa_cons (pe_ty (n := "tuple") rfl T.b_tuple (by decide +kernel)) pa_nil))))) (pw_or1 (pt_not (pt_chain op_le op_le pe_int (pe_callB (k_len (K := K) rfl) rfl T.b_len (by decide +kernel) (pa_cons (pv 0) pa_nil)) (pe_const rfl T.k_MOST_TUPLES)))))) (pss_one (ps_ret pe_bl)) pss_nil)
      (pss_one (ps_ret (pe_callB (k_all (K := K) rfl rfl) rfl T.b_all (by decide +kernel) (pa_cons (pe_lc rfl sc_is_family.nd (k_seq (K := K) rfl (pv 0)) (blkOk_by (own := [("shares", 2)]) (N := n_is_family) (sc := defScope s_is_family) (by decide +kernel)) (fun _ _ _ _ _ => by exact (pg_name (i := 2) sc_is_family.nd rfl (Or.inl rfl))) (fun _ _ _ _ _ => by exact pts_nil) (fun _ _ _ _ _ => by exact (pe_cal (cal_up0 c_is_tuple_of_shares) (hr.mono (by decide)) rfl passL (pa_cons (pv 2) (pa_cons (pv 1) pa_nil))))) pa_nil)))))), run_ref (N := n_is_family) (C := C) (fun ds nm hd hE => ?_) h⟩)
  obtain ⟨x, z, rfl, hx, rfl⟩ := hd
  exact x_seq (x_dropE (x_ref (ds := [x]) (nm := "variants") (a_cons (d_var rfl) a_nil) ⟨x, rfl, hx, rfl⟩ hE))

theorem ok_check_familyX {P : Program} {w : World} {K : PySem.W.Frag} {mg : Str → Option Value} {base : Heap} {f C : Addr} {fd : FuncData} (F : Fun K "check_family" "check_family" s_check_family f fd) (T : Txt mg) {fx_is_family : Addr} {fdx_is_family : FuncData} (X_is_family : FnOk P w K mg base (L2.CX P w) 6 fx_is_family fdx_is_family p_is_family (spDR K C (sp_is_familyX K) RcIf)) (m_is_family : mg "is_family" = some (.ref fx_is_family)) (k_is_family : PySem.W.keepIn K (.ref fx_is_family) = true) (b_is_family : Binds K fdx_is_family p_is_family []) {fx_require : Addr} {fdx_require : FuncData} (X_require : FnOk P w K mg base (L2.CX P w) 4 fx_require fdx_require p_require (spReq C)) (m_require : mg "require" = some (.ref fx_require)) (k_require : PySem.W.keepIn K (.ref fx_require) = true) (b_require : Binds K fdx_require p_require []) :
    FnOk P w K mg base (L2.CX P w) 7 f fd p_check_family (spRef K C RcFa) := by
  refine F.okX sc_check_family (fun vs H Q E h => by obtain ⟨ds, nm, hb, hd, _⟩ := h; rw [hb.len, RcFa_len hd]; rfl) (fun cdv A outer s H vs Q E hr h => ⟨_, (pss_one (ps_expr (pe_call X_require (hr.mono (by decide)) rfl m_require k_require b_require .nil (passes_call (E := E) (takes_of rfl rfl rfl rfl) (fun _ _ _ _ h => h)) (pa_cons (pe_call X_is_family (hr.mono (by decide)) rfl m_is_family k_is_family b_is_family .nil (passes_call (E := E) (takes_of rfl rfl rfl rfl) (fun _ _ _ _ h => h)) (pa_cons (pv 1) (pa_cons (pv 0) pa_nil))) (pa_cons pe_str pa_nil))))), run_ref (N := n_check_family) (C := C) (fun ds nm hd hE => ?_) h⟩)
  obtain ⟨x, z, rfl, ⟨hx, rfl⟩ | ⟨v, rfl, v1, v5, hz, rfl⟩⟩ := hd
  · exact x_dropE (x_arg (x_ref (ds := [z, x]) (nm := "variants") (a_cons (d_var rfl) (a_cons (d_var rfl) a_nil)) ⟨x, z, rfl, hx, rfl⟩ hE))
  · exact xl_req (by decide) hE (x_good (k := .v) (d := .bool false) (a_cons (d_var rfl) (a_cons (d_var rfl) a_nil)) ⟨z, v, rfl, v1, v5, rfl, .inr ⟨hz, rfl⟩⟩)

theorem ok_entriesX {P : Program} {w : World} {K : PySem.W.Frag} {mg : Str → Option Value} {base : Heap} {f C : Addr} {fd : FuncData} (F : Fun K "entries" "entries" s_entries f fd) (T : Txt mg) (c_entries_below : Cal P w K mg base CX0 1 "entries_below" p_entries_below (sp_entries_belowX K)) (c_greatest_shares : Cal P w K mg base CX0 1 "greatest_shares" p_greatest_shares (sp_greatest_shares K)) {fx_check_family : Addr} {fdx_check_family : FuncData} (X_check_family : FnOk P w K mg base (L2.CX P w) 7 fx_check_family fdx_check_family p_check_family (spDR K C (sp_check_family K) RcFa)) (m_check_family : mg "check_family" = some (.ref fx_check_family)) (k_check_family : PySem.W.keepIn K (.ref fx_check_family) = true) (b_check_family : Binds K fdx_check_family p_check_family []) :
    FnOk P w K mg base (L2.CX P w) 8 f fd p_entries (spRef K C RcFa) := by
  refine F.okX sc_entries (fun vs H Q E h => by obtain ⟨ds, nm, hb, hd, _⟩ := h; rw [hb.len, RcFa_len hd]; rfl) (fun cdv A outer s H vs Q E hr h => ⟨_, (pss_cons (ps_expr (pe_call X_check_family (hr.mono (by decide)) rfl m_check_family k_check_family b_check_family .nil (passes_call (E := E) (takes_of rfl rfl rfl rfl) (fun _ _ _ _ h => h)) (pa_cons (pv 0) (pa_cons (pv 1) pa_nil))))
      (pss_one (ps_ret (pe_cal (cal_up0 c_entries_below) (hr.mono (by decide)) rfl passL (pa_cons (pe_cal (cal_up0 c_greatest_shares) (hr.mono (by decide)) rfl passL (pa_cons (pv 1) pa_nil)) pa_nil))))), run_ref (N := n_entries) (C := C) (fun ds nm hd hE => ?_) h⟩)
  obtain ⟨x, z, e, _⟩ := id hd
  subst e
  exact x_seq (x_dropE (x_ref (a_cons (d_var rfl) (a_cons (d_var rfl) a_nil)) hd hE))

theorem ok_greatest_cliqueX {P : Program} {w : World} {K : PySem.W.Frag} {mg : Str → Option Value} {base : Heap} {f C : Addr} {fd : FuncData} (F : Fun K "greatest_clique" "greatest_clique" s_greatest_clique f fd) (T : Txt mg) (c_all_heights : Cal P w K mg base CX0 1 "all_heights" p_all_heights (sp_all_heights K)) (c_is_clique : Cal P w K mg base CX0 3 "is_clique" p_is_clique (sp_is_clique K)) {fx_check_family : Addr} {fdx_check_family : FuncData} (X_check_family : FnOk P w K mg base (L2.CX P w) 7 fx_check_family fdx_check_family p_check_family (spDR K C (sp_check_family K) RcFa)) (m_check_family : mg "check_family" = some (.ref fx_check_family)) (k_check_family : PySem.W.keepIn K (.ref fx_check_family) = true) (b_check_family : Binds K fdx_check_family p_check_family []) :
    FnOk P w K mg base (L2.CX P w) 8 f fd p_greatest_clique (spRef K C RcFa) := by
  refine F.okX sc_greatest_clique (fun vs H Q E h => by obtain ⟨ds, nm, hb, hd, _⟩ := h; rw [hb.len, RcFa_len hd]; rfl) (fun cdv A outer s H vs Q E hr h => ⟨_, (pss_cons (ps_expr (pe_call X_check_family (hr.mono (by decide)) rfl m_check_family k_check_family b_check_family .nil (passes_call (E := E) (takes_of rfl rfl rfl rfl) (fun _ _ _ _ h => h)) (pa_cons (pv 0) (pa_cons (pv 1) pa_nil))))
      (pss_cons (ps_setLc (i := 2) rfl sc_greatest_clique.nd rfl rfl (sw_true rfl rfl rfl (by decide +kernel)) (k_seq (K := K) rfl (pe_cal (cal_up0 c_all_heights) (hr.mono (by decide)) rfl passL (pa_cons (pv 1) pa_nil))) (blkOk_by (own := [("heights", 3)]) (N := n_greatest_clique) (sc := defScope s_greatest_clique) (by decide +kernel)) (fun _ _ _ _ _ => by exact (pg_name (i := 3) sc_greatest_clique.nd rfl (Or.inl rfl))) (fun _ _ _ _ _ => by exact (pts_one (pt_val (pe_cal (cal_up0 c_is_clique) (hr.mono (by decide)) rfl passL (pa_cons (pv 1) (pa_cons (pv 3) pa_nil)))))) (fun _ _ _ _ _ => by exact (pv 3)))
      (pss_cons (ps_set (i := 4) sc_greatest_clique.nd rfl (Or.inl rfl) (k_maxSum (K := K) rfl rfl rfl T.b_max rfl T.b_sum (pa_cons (pv 2) pa_nil)))
      (pss_one (ps_ret (pe_tupN (pa_cons (pe_callB (k_sum (K := K) rfl rfl) rfl T.b_sum (by decide +kernel) (pa_cons (pv 4) pa_nil)) (pa_cons (pv 4) pa_nil)))))))), run_ref (N := n_greatest_clique) (C := C) (fun ds nm hd hE => ?_) h⟩)
  obtain ⟨x, z, e, _⟩ := id hd
  subst e
  exact x_seq (x_dropE (x_ref (a_cons (d_var rfl) (a_cons (d_var rfl) a_nil)) hd hE))

theorem ok_fewestX {P : Program} {w : World} {K : PySem.W.Frag} {mg : Str → Option Value} {base : Heap} {f C : Addr} {fd : FuncData} (F : Fun K "fewest" "fewest" s_fewest f fd) (T : Txt mg) (c_greatest_clique : Cal P w K mg base CX0 6 "greatest_clique" p_greatest_clique (sp_greatest_clique K)) (c_first_buckets : Cal P w K mg base CX0 12 "first_buckets" p_first_buckets (sp_first_buckets K)) (c_earlier_neighbours : Cal P w K mg base CX0 3 "earlier_neighbours" p_earlier_neighbours (sp_earlier_neighbours K)) (c_parted : Cal P w K mg base CX0 2 "parted" p_parted (sp_parted K)) (c_entries_below : Cal P w K mg base CX0 1 "entries_below" p_entries_below (sp_entries_belowX K)) {fx_entries : Addr} {fdx_entries : FuncData} (X_entries : FnOk P w K mg base (L2.CX P w) 8 fx_entries fdx_entries p_entries (spDR K C (sp_entries K) RcFa)) (m_entries : mg "entries" = some (.ref fx_entries)) (k_entries : PySem.W.keepIn K (.ref fx_entries) = true) (b_entries : Binds K fdx_entries p_entries []) :
    FnOk P w K mg base (L2.CX P w) 13 f fd p_fewest (spRef K C RcFa) := by
  refine F.okX sc_fewest (fun vs H Q E h => by obtain ⟨ds, nm, hb, hd, _⟩ := h; rw [hb.len, RcFa_len hd]; rfl) (fun cdv A outer s H vs Q E hr h => ⟨_, (pss_cons (ps_set (i := 2) sc_fewest.nd rfl (Or.inl rfl) (pe_call X_entries (hr.mono (by decide)) rfl m_entries k_entries b_entries .nil (passes_call (E := E) (takes_of rfl rfl rfl rfl) (fun _ _ _ _ h => h)) (pa_cons (pv 0) (pa_cons (pv 1) pa_nil))))
      (pss_cons (ps_if (pt_cmpR op_gt (pe_callB (k_len (K := K) rfl) rfl T.b_len (by decide +kernel) (pa_cons (pv 2) pa_nil)) (pe_const rfl T.k_MOST_ENTRIES) (nomark _)) (pss_one ps_never) pss_nil)
      (pss_cons (ps_asg (pe_cal (cal_up0 c_greatest_clique) (hr.mono (by decide)) rfl passL (pa_cons (pv 0) (pa_cons (pv 1) pa_nil))) (k_tupA (K := K) (n := 2) rfl rfl (pgs_cons (pg_name (i := 3) sc_fewest.nd rfl (Or.inl rfl)) (pgs_cons (pg_name (i := 4) sc_fewest.nd rfl (Or.inl rfl)) pgs_nil))))
      (pss_cons (ps_set (i := 5) sc_fewest.nd rfl (Or.inl rfl) (pe_cal (cal_up0 c_first_buckets) (hr.mono (by decide)) rfl passL (pa_cons (pe_cal (cal_up0 c_earlier_neighbours) (hr.mono (by decide)) rfl passL (pa_cons (pv 1) (pa_cons (pv 2) pa_nil))) (pa_cons (pv 3) (pa_cons (pe_tupN pa_nil) pa_nil)))))
      (pss_cons (ps_set (i := 6) sc_fewest.nd rfl (Or.inl rfl) (pe_ifExp (pt_cmpR op_gt (pv 3) pe_int (nomark _)) (pe_tupN (pa_cons pe_str (pa_cons (pe_callTy (k_tuple (K := K) rfl) rfl T.b_tuple (by decide +kernel) (pa_cons (pe_cal (cal_up0 c_entries_below) (hr.mono (by decide)) rfl passL (pa_cons (pv 4) pa_nil)) pa_nil)) pa_nil))) pe_non))
      (pss_one (ps_ret (pe_tupN (pa_cons (pv 3) (pa_cons (pe_cal (cal_up0 c_parted) (hr.mono (by decide)) rfl passL (pa_cons (pv 1) (pa_cons (pv 5) pa_nil))) (pa_cons (pv 6) pa_nil))))))))))), run_ref (N := n_fewest) (C := C) (fun ds nm hd hE => ?_) h⟩)
  obtain ⟨x, z, e, _⟩ := id hd
  subst e
  exact x_seq (x_asgE (x_ref (a_cons (d_var rfl) (a_cons (d_var rfl) a_nil)) hd hE))

theorem ok_accepts_fewestX {P : Program} {w : World} {K : PySem.W.Frag} {mg : Str → Option Value} {base : Heap} {f C : Addr} {fd : FuncData} (F : Fun K "accepts_fewest" "accepts_fewest" s_accepts_fewest f fd) (T : Txt mg) (c_is_right_tree : Cal P w K mg base CX0 6 "is_right_tree" p_is_right_tree (sp_is_right_tree68 K)) (c_fault : Cal P w K mg base CX0 6 "fault" p_fault (sp_fault K)) (c_is_integer : Cal P w K mg base CX0 1 "is_integer" p_is_integer (sp_is_integer K)) (c_are_lists : Cal P w K mg base CX0 3 "are_lists" p_are_lists (sp_are_lists68 K)) {fx_entries : Addr} {fdx_entries : FuncData} (X_entries : FnOk P w K mg base (L2.CX P w) 8 fx_entries fdx_entries p_entries (spDR K C (sp_entries K) RcFa)) (m_entries : mg "entries" = some (.ref fx_entries)) (k_entries : PySem.W.keepIn K (.ref fx_entries) = true) (b_entries : Binds K fdx_entries p_entries []) :
    FnOk P w K mg base (L2.CX P w) 9 f fd p_accepts_fewest (spRef K C RcF3) := by
  refine F.okX sc_accepts_fewest (fun vs H Q E h => by obtain ⟨ds, nm, hb, hd, _⟩ := h; rw [hb.len, RcF3_len hd]; rfl) (fun cdv A outer s H vs Q E hr h => ⟨_, (pss_cons (ps_set (i := 3) sc_accepts_fewest.nd rfl (Or.inl rfl) (pe_call X_entries (hr.mono (by decide)) rfl m_entries k_entries b_entries .nil (passes_call (E := E) (takes_of rfl rfl rfl rfl) (fun _ _ _ _ h => h)) (pa_cons (pv 0) (pa_cons (pv 1) pa_nil))))
      (pss_cons (ps_if (PW.pt (pw_or (pt_not (pt_val (pe_callB (k_isi (K := K) rfl) rfl T.b_isinstance (by decide +kernel) (pa_cons (pv 2) (pa_cons (pe_ty (n := "tuple") rfl T.b_tuple (by decide +kernel)) pa_nil))))) (pw_or1 (pt_cmpR (k_ne (K := K) rfl (rUnits hr)) (pe_callB (k_len (K := K) rfl) rfl T.b_len (by decide +kernel) (pa_cons (pv 2) pa_nil)) pe_int (nomark _))))) (pss_one (ps_ret pe_bl)) pss_nil)
      (pss_cons (ps_asg (pv 2) (k_tupA (K := K) (n := 3) rfl rfl (pgs_cons (pg_name (i := 4) sc_accepts_fewest.nd rfl (Or.inl rfl)) (pgs_cons (pg_name (i := 5) sc_accepts_fewest.nd rfl (Or.inl rfl)) (pgs_cons (pg_name (i := 6) sc_accepts_fewest.nd rfl (Or.inl rfl)) pgs_nil)))))
      (pss_cons (ps_if (PW.pt (pw_or (pt_not (pt_val (pe_cal (cal_up0 c_is_integer) (hr.mono (by decide)) rfl passL (pa_cons (pv 4) (pa_cons pe_int (pa_cons (pe_callB (k_len (K := K) rfl) rfl T.b_len (by decide +kernel) (pa_cons (pv 3) pa_nil)) pa_nil)))))) (pw_or1 (pt_not (pt_val (pe_cal (cal_up0 c_are_lists) (hr.mono (by decide)) rfl passL (pa_cons (pv 5) (pa_cons (pe_op op_sub (pv 0) pe_int) (pa_cons (pv 4) pa_nil))))))))) (pss_one (ps_ret pe_bl)) pss_nil)
      (pss_cons (ps_if (pt_cmpR op_notN (pe_cal (cal_up0 c_fault) (hr.mono (by decide)) rfl passL (pa_cons (pv 0) (pa_cons (pv 1) (pa_cons (pv 5) pa_nil)))) pe_non (nomark _)) (pss_one (ps_ret pe_bl)) pss_nil)
      (pss_cons (ps_if (pt_cmpR (k_eq (K := K) rfl (rUnits hr)) (pv 4) pe_int (nomark _)) (pss_one (ps_ret (pe_cmpR op_isN (pv 6) pe_non (nomark _)))) pss_nil)
      (pss_one (ps_ret (pe_cal (cal_up0 c_is_right_tree) (hr.mono (by decide)) rfl passL (pa_cons (pv 1) (pa_cons (pv 3) (pa_cons (pe_op op_sub (pv 4) pe_int) (pa_cons (pv 6) pa_nil))))))))))))), run_ref (N := n_accepts_fewest) (C := C) (fun ds nm hd hE => ?_) h⟩)
  obtain ⟨x, z, t, rfl, hd⟩ := hd
  exact x_seq (x_asgE (x_ref (a_cons (d_var rfl) (a_cons (d_var rfl) a_nil)) hd hE))

theorem ok_coexistX {P : Program} {w : World} {K : PySem.W.Frag} {mg : Str → Option Value} {base : Heap} {f C : Addr} {fd : FuncData} (F : Fun K "coexist" "coexist" s_coexist f fd) (T : Txt mg) (c_are_together : Cal P w K mg base CX0 2 "are_together" p_are_together (sp_are_together K)) (c_is_entry : Cal P w K mg base CX0 3 "is_entry" p_is_entry (sp_is_entry68 K)) {fx_entries : Addr} {fdx_entries : FuncData} (X_entries : FnOk P w K mg base (L2.CX P w) 8 fx_entries fdx_entries p_entries (spDR K C (sp_entries K) RcFa)) (m_entries : mg "entries" = some (.ref fx_entries)) (k_entries : PySem.W.keepIn K (.ref fx_entries) = true) (b_entries : Binds K fdx_entries p_entries []) {fx_require : Addr} {fdx_require : FuncData} (X_require : FnOk P w K mg base (L2.CX P w) 4 fx_require fdx_require p_require (spReq C)) (m_require : mg "require" = some (.ref fx_require)) (k_require : PySem.W.keepIn K (.ref fx_require) = true) (b_require : Binds K fdx_require p_require []) :
    FnOk P w K mg base (L2.CX P w) 9 f fd p_coexist (spRef K C RcCx) := by
  refine F.okX sc_coexist (fun vs H Q E h => by obtain ⟨ds, nm, hb, hd, _⟩ := h; rw [hb.len, RcCx_len hd]; rfl) (fun cdv A outer s H vs Q E hr h => ⟨_, (pss_cons (ps_set (i := 4) sc_coexist.nd rfl (Or.inl rfl) (pe_call X_entries (hr.mono (by decide)) rfl m_entries k_entries b_entries .nil (passes_call (E := E) (takes_of rfl rfl rfl rfl) (fun _ _ _ _ h => h)) (pa_cons (pv 0) (pa_cons (pv 1) pa_nil))))
      (pss_cons (ps_expr (pe_call X_require (hr.mono (by decide)) rfl m_require k_require b_require .nil (passes_call (E := E) (takes_of rfl rfl rfl rfl) (fun _ _ _ _ h => h)) (pa_cons (pe_cal (cal_up0 c_is_entry) (hr.mono (by decide)) rfl passL (pa_cons (pv 2) (pa_cons (pv 4) pa_nil))) (pa_cons pe_str pa_nil))))
      (pss_cons (ps_expr (pe_call X_require (hr.mono (by decide)) rfl m_require k_require b_require .nil (passes_call (E := E) (takes_of rfl rfl rfl rfl) (fun _ _ _ _ h => h)) (pa_cons (pe_cal (cal_up0 c_is_entry) (hr.mono (by decide)) rfl passL (pa_cons (pv 3) (pa_cons (pv 4) pa_nil))) (pa_cons pe_str pa_nil))))
      (pss_one (ps_ret (pe_cal (cal_up0 c_are_together) (hr.mono (by decide)) rfl passL (pa_cons (pv 1) (pa_cons (pv 2) (pa_cons (pv 3) pa_nil))))))))), run_ref (N := n_coexist) (C := C) (fun ds nm hd hE => ?_) h⟩)
  obtain ⟨x, z, f, s, rfl, hd | ⟨F, v, rfl, rfl, h, hf⟩⟩ := hd
  · exact x_seq (x_asgE (x_ref (a_cons (d_var rfl) (a_cons (d_var rfl) a_nil)) hd hE))
  refine x_asgO (d := .list ((R65 F v).map tupD)) (x_good (k := .o) (a_cons (d_var rfl) (a_cons (d_var rfl) a_nil)) ⟨F, v, rfl, h, rfl, rfl⟩) ?_
  rcases hf with ⟨hf, rfl⟩ | ⟨e, rfl, he, hs, rfl⟩
  · exact x_req (by decide) hE (d_call (k := .v) (d := .bool false) (a_cons (d_var rfl) (a_cons (d_varO rfl) a_nil)) ⟨f, R65 F v, rfl, rfl, .inr ⟨hf, rfl⟩⟩)
  · have ok : (areInts (tupD e) 0 10 && decide (e ∈ R65 F v)) = true ∧ e.length ≤ 1000 := by
      obtain ⟨x, y, rfl, hx, hy⟩ := mem_ent.mp he
      have := (fam_box h).2.1 _ (gd_mem (l := gsL F (v - 1)) (j := x) hx)
      have l : (gsL F (v - 1)).length = v - 1 := gs_len
      have v5 := h.v5
      refine ⟨?_, by simp⟩
      rw [decide_eq_true he, Bool.and_true]
      exact areInts_of fun n hn => by
        simp only [List.mem_cons, List.not_mem_nil, or_false] at hn
        rcases hn with rfl | rfl <;> omega
    refine x_okreq (by decide) (d_call (k := .v) (d := .bool true) (a_cons (d_var rfl) (a_cons (d_varO rfl) a_nil)) ⟨_, R65 F v, rfl, rfl, .inl ⟨e, rfl, ok.2, by rw [ok.1]⟩⟩) ?_
    exact x_req (by decide) hE (d_call (k := .v) (d := .bool false) (a_cons (d_var rfl) (a_cons (d_varO rfl) a_nil)) ⟨s, R65 F v, rfl, rfl, .inr ⟨hs, rfl⟩⟩)

theorem ok_faultX {P : Program} {w : World} {K : PySem.W.Frag} {mg : Str → Option Value} {base : Heap} {f C : Addr} {fd : FuncData} (F : Fun K "fault" "fault" s_fault f fd) (T : Txt mg) (c_are_lists : Cal P w K mg base CX0 3 "are_lists" p_are_lists (sp_are_lists68 K)) (c_first_fault : Cal P w K mg base CX0 1 "first_fault" p_first_fault (sp_first_fault K)) {fx_check_family : Addr} {fdx_check_family : FuncData} (X_check_family : FnOk P w K mg base (L2.CX P w) 7 fx_check_family fdx_check_family p_check_family (spDR K C (sp_check_family K) RcFa)) (m_check_family : mg "check_family" = some (.ref fx_check_family)) (k_check_family : PySem.W.keepIn K (.ref fx_check_family) = true) (b_check_family : Binds K fdx_check_family p_check_family []) {fx_require : Addr} {fdx_require : FuncData} (X_require : FnOk P w K mg base (L2.CX P w) 4 fx_require fdx_require p_require (spReq C)) (m_require : mg "require" = some (.ref fx_require)) (k_require : PySem.W.keepIn K (.ref fx_require) = true) (b_require : Binds K fdx_require p_require []) :
    FnOk P w K mg base (L2.CX P w) 8 f fd p_fault (spRef K C RcFt) := by
  refine F.okX sc_fault (fun vs H Q E h => by obtain ⟨ds, nm, hb, hd, _⟩ := h; rw [hb.len, RcFt_len hd]; rfl) (fun cdv A outer s H vs Q E hr h => ⟨_, (pss_cons (ps_expr (pe_call X_check_family (hr.mono (by decide)) rfl m_check_family k_check_family b_check_family .nil (passes_call (E := E) (takes_of rfl rfl rfl rfl) (fun _ _ _ _ h => h)) (pa_cons (pv 0) (pa_cons (pv 1) pa_nil))))
      (pss_cons (ps_expr (pe_call X_require (hr.mono (by decide)) rfl m_require k_require b_require .nil (passes_call (E := E) (takes_of rfl rfl rfl rfl) (fun _ _ _ _ h => h)) (pa_cons (pe_cal (cal_up0 c_are_lists) (hr.mono (by decide)) rfl passL (pa_cons (pv 2) (pa_cons (pe_op op_sub (pv 0) pe_int) (pa_cons (pe_op (k_add (K := K) rfl) (pe_const rfl T.k_GREATEST_BUCKET) pe_int) pa_nil)))) (pa_cons pe_str pa_nil))))
      (pss_cons (ps_for (passes_of rfl) rfl (k_enum (K := K) rfl rfl T.b_enumerate (pa_cons (pv 1) pa_nil)) (k_tup (K := K) (n := 2) rfl rfl (pgs_cons (pg_name (i := 3) sc_fault.nd rfl (Or.inl rfl)) (pgs_cons (pg_name (i := 4) sc_fault.nd rfl (Or.inl rfl)) pgs_nil))) (pss_cons (ps_set (i := 5) sc_fault.nd rfl (Or.inl rfl) (pe_cal (cal_up0 c_first_fault) (hr.mono (by decide)) rfl passL (pa_cons (pv 4) (pa_cons (pv 2) pa_nil))))
      (pss_one (ps_if (pt_cmpR op_notN (pv 5) pe_non (nomark _)) (pss_one (ps_ret (pe_op (k_add (K := K) rfl) (pe_tupN (pa_cons (pv 3) pa_nil)) (pv 5)))) pss_nil))))
      (pss_one (ps_ret pe_non))))), run_ref (N := n_fault) (C := C) (fun ds nm hd hE => ?_) h⟩)
  obtain ⟨x, z, l, rfl, hd | ⟨F, v, rfl, rfl, h, sm, hl, rfl⟩⟩ := hd
  · exact x_seq (x_dropE (x_ref (a_cons (d_var rfl) (a_cons (d_var rfl) a_nil)) hd hE))
  refine x_drop (x_good (k := .v) (d := .none) (a_cons (d_var rfl) (a_cons (d_var rfl) a_nil)) ⟨F, (v : Int), rfl, h, rfl, rfl⟩) ?_
  exact x_req (by decide) hE (d_call (k := .v) (d := .bool false) (a_cons (d_var rfl) (a_cons (d_sub (d_var rfl) d_int) (a_cons ((e_add d_int d_int).to (y := .int 1001) rfl) a_nil))) ⟨l, (v : Int) - 1, 1001, rfl, rfl, .inr ⟨sm, hl, rfl⟩⟩)

theorem ok_accepts_fewX {P : Program} {w : World} {K : PySem.W.Frag} {mg : Str → Option Value} {base : Heap} {f C : Addr} {fd : FuncData} (F : Fun K "accepts_few" "accepts_few" s_accepts_few f fd) (T : Txt mg) (c_is_right_tree : Cal P w K mg base CX0 6 "is_right_tree" p_is_right_tree (sp_is_right_tree68 K)) (c_is_integer : Cal P w K mg base CX0 1 "is_integer" p_is_integer (sp_is_integer K)) {fx_entries : Addr} {fdx_entries : FuncData} (X_entries : FnOk P w K mg base (L2.CX P w) 8 fx_entries fdx_entries p_entries (spDR K C (sp_entries K) RcFa)) (m_entries : mg "entries" = some (.ref fx_entries)) (k_entries : PySem.W.keepIn K (.ref fx_entries) = true) (b_entries : Binds K fdx_entries p_entries []) {fx_require : Addr} {fdx_require : FuncData} (X_require : FnOk P w K mg base (L2.CX P w) 4 fx_require fdx_require p_require (spReq C)) (m_require : mg "require" = some (.ref fx_require)) (k_require : PySem.W.keepIn K (.ref fx_require) = true) (b_require : Binds K fdx_require p_require []) :
    FnOk P w K mg base (L2.CX P w) 9 f fd p_accepts_few (spRef K C RcAf) := by
  refine F.okX sc_accepts_few (fun vs H Q E h => by obtain ⟨ds, nm, hb, hd, _⟩ := h; rw [hb.len, RcAf_len hd]; rfl) (fun cdv A outer s H vs Q E hr h => ⟨_, (pss_cons (ps_set (i := 4) sc_accepts_few.nd rfl (Or.inl rfl) (pe_call X_entries (hr.mono (by decide)) rfl m_entries k_entries b_entries .nil (passes_call (E := E) (takes_of rfl rfl rfl rfl) (fun _ _ _ _ h => h)) (pa_cons (pv 0) (pa_cons (pv 1) pa_nil))))
      (pss_cons (ps_expr (pe_call X_require (hr.mono (by decide)) rfl m_require k_require b_require .nil (passes_call (E := E) (takes_of rfl rfl rfl rfl) (fun _ _ _ _ h => h)) (pa_cons (pe_cal (cal_up0 c_is_integer) (hr.mono (by decide)) rfl passL (pa_cons (pv 2) (pa_cons pe_int (pa_cons (pe_const rfl T.k_MOST_FEW) pa_nil)))) (pa_cons pe_str pa_nil))))
      (pss_one (ps_ret (pe_cal (cal_up0 c_is_right_tree) (hr.mono (by decide)) rfl passL (pa_cons (pv 1) (pa_cons (pv 4) (pa_cons (pv 2) (pa_cons (pv 3) pa_nil))))))))), run_ref (N := n_accepts_few) (C := C) (fun ds nm hd hE => ?_) h⟩)
  obtain ⟨x, z, n, t, rfl, hd | ⟨F, v, rfl, rfl, h, hn, rfl⟩⟩ := hd
  · exact x_seq (x_asgE (x_ref (a_cons (d_var rfl) (a_cons (d_var rfl) a_nil)) hd hE))
  refine x_asgO (d := .list ((R65 F v).map tupD)) (x_good (k := .o) (a_cons (d_var rfl) (a_cons (d_var rfl) a_nil)) ⟨F, v, rfl, h, rfl, rfl⟩) ?_
  exact x_req (by decide) hE (d_call (k := .v) (d := .bool false) (a_cons (d_var rfl) (a_cons d_int (a_cons d_int a_nil))) ⟨n, 0, 100, rfl, rfl, by rw [hn]⟩)

theorem ok_check_sumX {P : Program} {w : World} {K : PySem.W.Frag} {mg : Str → Option Value} {base : Heap} {f C : Addr} {fd : FuncData} (F : Fun K "check_sum" "check_sum" s_check_sum f fd) (T : Txt mg) (c_is_integer : Cal P w K mg base CX0 1 "is_integer" p_is_integer (sp_is_integer K)) {fx_check_variants : Addr} {fdx_check_variants : FuncData} (X_check_variants : FnOk P w K mg base (L2.CX P w) 5 fx_check_variants fdx_check_variants p_check_variants (spDR K C (sp_check_variants K) RcV)) (m_check_variants : mg "check_variants" = some (.ref fx_check_variants)) (k_check_variants : PySem.W.keepIn K (.ref fx_check_variants) = true) (b_check_variants : Binds K fdx_check_variants p_check_variants []) {fx_require : Addr} {fdx_require : FuncData} (X_require : FnOk P w K mg base (L2.CX P w) 4 fx_require fdx_require p_require (spReq C)) (m_require : mg "require" = some (.ref fx_require)) (k_require : PySem.W.keepIn K (.ref fx_require) = true) (b_require : Binds K fdx_require p_require []) :
    FnOk P w K mg base (L2.CX P w) 6 f fd p_check_sum (spRef K C RcSu) := by
  refine F.okX sc_check_sum (fun vs H Q E h => by obtain ⟨ds, nm, hb, hd, _⟩ := h; rw [hb.len, RcSu_len hd]; rfl) (fun cdv A outer s H vs Q E hr h => ⟨_, (pss_cons (ps_expr (pe_call X_check_variants (hr.mono (by decide)) rfl m_check_variants k_check_variants b_check_variants .nil (passes_call (E := E) (takes_of rfl rfl rfl rfl) (fun _ _ _ _ h => h)) (pa_cons (pv 0) pa_nil)))
      (pss_one (ps_expr (pe_call X_require (hr.mono (by decide)) rfl m_require k_require b_require .nil (passes_call (E := E) (takes_of rfl rfl rfl rfl) (fun _ _ _ _ h => h)) (pa_cons (pe_cal (cal_up0 c_is_integer) (hr.mono (by decide)) rfl passL (pa_cons (pv 1) (pa_cons pe_int (pa_cons (pe_const rfl T.k_MOST_BUCKETS) pa_nil)))) (pa_cons pe_str pa_nil)))))), run_ref (N := n_check_sum) (C := C) (fun ds nm hd hE => ?_) h⟩)
  obtain ⟨x, y, rfl, ⟨hx, rfl⟩ | ⟨v, rfl, v1, v5, hy, rfl⟩⟩ := hd
  · exact x_seq (x_dropE (x_ref (ds := [x]) (nm := "variants") (a_cons (d_var rfl) a_nil) ⟨x, rfl, hx, rfl⟩ hE))
  · refine x_drop (x_good (k := .v) (d := .none) (a_cons (d_var rfl) a_nil) ⟨(v : Int), rfl, by omega, by omega, rfl, rfl⟩) ?_
    exact xl_req (by decide) hE (d_call (k := .v) (d := .bool false) (a_cons (d_var rfl) (a_cons d_int (a_cons d_int a_nil))) ⟨y, 0, 20, rfl, rfl, by rw [hy]⟩)

theorem ok_neededX {P : Program} {w : World} {K : PySem.W.Frag} {mg : Str → Option Value} {base : Heap} {f C : Addr} {fd : FuncData} (F : Fun K "needed" "needed" s_needed f fd) (T : Txt mg) {fx_check_sum : Addr} {fdx_check_sum : FuncData} (X_check_sum : FnOk P w K mg base (L2.CX P w) 6 fx_check_sum fdx_check_sum p_check_sum (spDR K C (sp_check_sum K) RcSu)) (m_check_sum : mg "check_sum" = some (.ref fx_check_sum)) (k_check_sum : PySem.W.keepIn K (.ref fx_check_sum) = true) (b_check_sum : Binds K fdx_check_sum p_check_sum []) :
    FnOk P w K mg base (L2.CX P w) 7 f fd p_needed (spRef K C RcSu) := by
  refine F.okX sc_needed (fun vs H Q E h => by obtain ⟨ds, nm, hb, hd, _⟩ := h; rw [hb.len, RcSu_len hd]; rfl) (fun cdv A outer s H vs Q E hr h => ⟨_, (pss_cons (ps_expr (pe_call X_check_sum (hr.mono (by decide)) rfl m_check_sum k_check_sum b_check_sum .nil (passes_call (E := E) (takes_of rfl rfl rfl rfl) (fun _ _ _ _ h => h)) (pa_cons (pv 0) (pa_cons (pv 1) pa_nil))))
      (pss_cons (ps_if (pt_cmpR (k_eq (K := K) rfl (rUnits hr)) (pv 0) pe_int (nomark _)) (pss_one (ps_ret pe_int)) pss_nil)
      (pss_cons (ps_if (pt_cmpR (k_eq (K := K) rfl (rUnits hr)) (pv 0) pe_int (nomark _)) (pss_one (ps_ret (pv 1))) pss_nil)
      (pss_one (ps_ret (pe_op (k_add (K := K) rfl) (pe_op op_mulA (pe_op op_sub (pv 0) pe_int) (pe_op op_fdiv (pv 1) pe_int)) (pe_op op_mod (pv 1) pe_int))))))), run_ref (N := n_needed) (C := C) (fun ds nm hd hE => ?_) h⟩)
  obtain ⟨x, y, e, _⟩ := id hd
  subst e
  exact x_seq (x_dropE (x_ref (a_cons (d_var rfl) (a_cons (d_var rfl) a_nil)) hd hE))

theorem ok_lists_forX {P : Program} {w : World} {K : PySem.W.Frag} {mg : Str → Option Value} {base : Heap} {f C : Addr} {fd : FuncData} (F : Fun K "lists_for" "lists_for" s_lists_for f fd) (T : Txt mg) (c_own_part : Cal P w K mg base CX0 1 "own_part" p_own_part (sp_own_part K)) {fx_check_sum : Addr} {fdx_check_sum : FuncData} (X_check_sum : FnOk P w K mg base (L2.CX P w) 6 fx_check_sum fdx_check_sum p_check_sum (spDR K C (sp_check_sum K) RcSu)) (m_check_sum : mg "check_sum" = some (.ref fx_check_sum)) (k_check_sum : PySem.W.keepIn K (.ref fx_check_sum) = true) (b_check_sum : Binds K fdx_check_sum p_check_sum []) :
    FnOk P w K mg base (L2.CX P w) 7 f fd p_lists_for (spRef K C RcSu) := by
  refine F.okX sc_lists_for (fun vs H Q E h => by obtain ⟨ds, nm, hb, hd, _⟩ := h; rw [hb.len, RcSu_len hd]; rfl) (fun cdv A outer s H vs Q E hr h => ⟨_, (pss_cons (ps_expr (pe_call X_check_sum (hr.mono (by decide)) rfl m_check_sum k_check_sum b_check_sum .nil (passes_call (E := E) (takes_of rfl rfl rfl rfl) (fun _ _ _ _ h => h)) (pa_cons (pv 0) (pa_cons (pv 1) pa_nil))))
      (pss_cons (ps_if (pt_cmpR (k_eq (K := K) rfl (rUnits hr)) (pv 0) pe_int (nomark _)) (pss_one (ps_ret (pe_tupN (pa_cons (pe_tupRn rfl rfl T.b_tuple (prg_1 rfl T.b_range (pv 1))) pa_nil)))) pss_nil)
      (pss_cons (ps_set (i := 2) sc_lists_for.nd rfl (Or.inl rfl) (pe_lst pa_nil))
      (pss_cons (ps_for (passes_of rfl) rfl (pi_range2 rfl T.b_range (pa_cons pe_int (pa_cons (pv 0) pa_nil))) (pg_name (i := 3) sc_lists_for.nd rfl (Or.inl rfl)) (pss_cons (ps_set (i := 4) sc_lists_for.nd rfl (Or.inl rfl) (pe_op (k_add (K := K) rfl) pe_int (pe_op op_mod (pv 3) (pe_op op_sub (pv 0) pe_int))))
      (pss_cons (ps_set (i := 5) sc_lists_for.nd rfl (Or.inl rfl) (pe_cal (cal_up0 c_own_part) (hr.mono (by decide)) rfl passL (pa_cons (pv 0) (pa_cons (pe_op op_sub (pv 1) (pe_op op_mod (pv 1) pe_int)) (pa_cons (pv 4) pa_nil)))))
      (pss_one (ps_expr (k_bm (K := K) rfl PySem.F.plainAttrs_list PySem.F.slot_list_append PySem.F.type_list_append mt_append (pv 2) (pa_cons (pe_callTy (k_tuple (K := K) rfl) rfl T.b_tuple (by decide +kernel) (pa_cons (pe_op (k_add (K := K) rfl) (pe_cal (cal_up0 c_own_part) (hr.mono (by decide)) rfl passL (pa_cons (pv 0) (pa_cons (pv 1) (pa_cons (pv 3) pa_nil)))) (pe_revL (K := K) rfl (pv 5))) pa_nil)) pa_nil)))))))
      (pss_one (ps_ret (pe_callTy (k_tuple (K := K) rfl) rfl T.b_tuple (by decide +kernel) (pa_cons (pv 2) pa_nil)))))))), run_ref (N := n_lists_for) (C := C) (fun ds nm hd hE => ?_) h⟩)
  obtain ⟨x, y, e, _⟩ := id hd
  subst e
  exact x_seq (x_dropE (x_ref (a_cons (d_var rfl) (a_cons (d_var rfl) a_nil)) hd hE))

theorem ok__law_askX {P : Program} {w : World} {K : PySem.W.Frag} {mg : Str → Option Value} {base : Heap} {f C : Addr} {fd : FuncData} (F : Fun K "_law_ask" "_law_ask" s__law_ask f fd) (T : Txt mg) {fx_entries : Addr} {fdx_entries : FuncData} (X_entries : FnOk P w K mg base (L2.CX P w) 8 fx_entries fdx_entries p_entries (spDR K C (sp_entries K) RcFa)) (m_entries : mg "entries" = some (.ref fx_entries)) (k_entries : PySem.W.keepIn K (.ref fx_entries) = true) (b_entries : Binds K fdx_entries p_entries []) {fx_greatest_clique : Addr} {fdx_greatest_clique : FuncData} (X_greatest_clique : FnOk P w K mg base (L2.CX P w) 8 fx_greatest_clique fdx_greatest_clique p_greatest_clique (spDR K C (sp_greatest_clique K) RcFa)) (m_greatest_clique : mg "greatest_clique" = some (.ref fx_greatest_clique)) (k_greatest_clique : PySem.W.keepIn K (.ref fx_greatest_clique) = true) (b_greatest_clique : Binds K fdx_greatest_clique p_greatest_clique []) {fx_fewest : Addr} {fdx_fewest : FuncData} (X_fewest : FnOk P w K mg base (L2.CX P w) 13 fx_fewest fdx_fewest p_fewest (spDR K C (sp_fewest K) RcFa)) (m_fewest : mg "fewest" = some (.ref fx_fewest)) (k_fewest : PySem.W.keepIn K (.ref fx_fewest) = true) (b_fewest : Binds K fdx_fewest p_fewest []) {fx_accepts_fewest : Addr} {fdx_accepts_fewest : FuncData} (X_accepts_fewest : FnOk P w K mg base (L2.CX P w) 9 fx_accepts_fewest fdx_accepts_fewest p_accepts_fewest (spDR K C (sp_accepts_fewest68 K) RcF3)) (m_accepts_fewest : mg "accepts_fewest" = some (.ref fx_accepts_fewest)) (k_accepts_fewest : PySem.W.keepIn K (.ref fx_accepts_fewest) = true) (b_accepts_fewest : Binds K fdx_accepts_fewest p_accepts_fewest []) {fx_coexist : Addr} {fdx_coexist : FuncData} (X_coexist : FnOk P w K mg base (L2.CX P w) 9 fx_coexist fdx_coexist p_coexist (spDR K C (sp_coexist K) RcCx)) (m_coexist : mg "coexist" = some (.ref fx_coexist)) (k_coexist : PySem.W.keepIn K (.ref fx_coexist) = true) (b_coexist : Binds K fdx_coexist p_coexist []) {fx_fault : Addr} {fdx_fault : FuncData} (X_fault : FnOk P w K mg base (L2.CX P w) 8 fx_fault fdx_fault p_fault (spDR K C (sp_fault K) RcFt)) (m_fault : mg "fault" = some (.ref fx_fault)) (k_fault : PySem.W.keepIn K (.ref fx_fault) = true) (b_fault : Binds K fdx_fault p_fault []) {fx_accepts_few : Addr} {fdx_accepts_few : FuncData} (X_accepts_few : FnOk P w K mg base (L2.CX P w) 9 fx_accepts_few fdx_accepts_few p_accepts_few (spDR K C (sp_accepts_few68 K) RcAf)) (m_accepts_few : mg "accepts_few" = some (.ref fx_accepts_few)) (k_accepts_few : PySem.W.keepIn K (.ref fx_accepts_few) = true) (b_accepts_few : Binds K fdx_accepts_few p_accepts_few []) {fx_needed : Addr} {fdx_needed : FuncData} (X_needed : FnOk P w K mg base (L2.CX P w) 7 fx_needed fdx_needed p_needed (spDR K C (sp_needed K) RcSu)) (m_needed : mg "needed" = some (.ref fx_needed)) (k_needed : PySem.W.keepIn K (.ref fx_needed) = true) (b_needed : Binds K fdx_needed p_needed []) {fx_lists_for : Addr} {fdx_lists_for : FuncData} (X_lists_for : FnOk P w K mg base (L2.CX P w) 7 fx_lists_for fdx_lists_for p_lists_for (spDR K C (sp_lists_for K) RcSu)) (m_lists_for : mg "lists_for" = some (.ref fx_lists_for)) (k_lists_for : PySem.W.keepIn K (.ref fx_lists_for) = true) (b_lists_for : Binds K fdx_lists_for p_lists_for []) :
    FnOk P w K mg base (L2.CX P w) 14 f fd p__law_ask (spRef K C RcA68) := by
  refine F.okX sc__law_ask (fun vs H Q E h => by obtain ⟨ds, nm, hb, hd, _⟩ := h; rw [hb.len, RcA68_len hd]; rfl) (fun cdv A outer s H vs Q E hr h => ⟨_, (pss_cons (ps_if (pt_cmpR (k_eq (K := K) rfl (rUnits hr)) (pv 0) pe_int (nomark _)) (pss_one (ps_ret (pe_call X_entries (hr.mono (by decide)) rfl m_entries k_entries b_entries .nil (passes_call (E := E) (takes_of rfl rfl rfl rfl) (fun _ _ _ _ h => h)) (pa_cons (pe_ix (k_ix (K := K) rfl) (pv 1) pe_int (fun _ _ => rfl)) (pa_cons (pe_ix (k_ix (K := K) rfl) (pv 1) pe_int (fun _ _ => rfl)) pa_nil))))) pss_nil)
      (pss_cons (ps_if (pt_cmpR (k_eq (K := K) rfl (rUnits hr)) (pv 0) pe_int (nomark _)) (pss_one (ps_ret (pe_call X_greatest_clique (hr.mono (by decide)) rfl m_greatest_clique k_greatest_clique b_greatest_clique .nil (passes_call (E := E) (takes_of rfl rfl rfl rfl) (fun _ _ _ _ h => h)) (pa_cons (pe_ix (k_ix (K := K) rfl) (pv 1) pe_int (fun _ _ => rfl)) (pa_cons (pe_ix (k_ix (K := K) rfl) (pv 1) pe_int (fun _ _ => rfl)) pa_nil))))) pss_nil)
      (pss_cons (ps_if (pt_cmpR (k_eq (K := K) rfl (rUnits hr)) (pv 0) pe_int (nomark _)) (pss_one (ps_ret (pe_call X_fewest (hr.mono (by decide)) rfl m_fewest k_fewest b_fewest .nil (passes_call (E := E) (takes_of rfl rfl rfl rfl) (fun _ _ _ _ h => h)) (pa_cons (pe_ix (k_ix (K := K) rfl) (pv 1) pe_int (fun _ _ => rfl)) (pa_cons (pe_ix (k_ix (K := K) rfl) (pv 1) pe_int (fun _ _ => rfl)) pa_nil))))) pss_nil)
      (pss_cons (ps_if (pt_cmpR (k_eq (K := K) rfl (rUnits hr)) (pv 0) pe_int (nomark _)) (pss_one (ps_ret (pe_call X_accepts_fewest (hr.mono (by decide)) rfl m_accepts_fewest k_accepts_fewest b_accepts_fewest .nil (passes_call (E := E) (takes_of rfl rfl rfl rfl) (fun _ _ _ _ h => h)) (pa_cons (pe_ix (k_ix (K := K) rfl) (pv 1) pe_int (fun _ _ => rfl)) (pa_cons (pe_ix (k_ix (K := K) rfl) (pv 1) pe_int (fun _ _ => rfl)) (pa_cons pe_non pa_nil)))))) pss_nil)
      (pss_cons (ps_if (pt_cmpR (k_eq (K := K) rfl (rUnits hr)) (pv 0) pe_int (nomark _)) (pss_one (ps_ret (pe_call X_coexist (hr.mono (by decide)) rfl m_coexist k_coexist b_coexist .nil (passes_call (E := E) (takes_of rfl rfl rfl rfl) (fun _ _ _ _ h => h)) (pa_cons (pe_ix (k_ix (K := K) rfl) (pv 1) pe_int (fun _ _ => rfl)) (pa_cons (pe_ix (k_ix (K := K) rfl) (pv 1) pe_int (fun _ _ => rfl)) (pa_cons (pe_ix (k_ix (K := K) rfl) (pv 1) pe_int (fun _ _ => rfl)) (pa_cons (pe_ix (k_ix (K := K) rfl) (pv 1) pe_int (fun _ _ => rfl)) pa_nil))))))) pss_nil)
      (pss_cons (ps_if (pt_cmpR (k_eq (K := K) rfl (rUnits hr)) (pv 0) pe_int (nomark _)) (pss_one (ps_ret (pe_call X_fault (hr.mono (by decide)) rfl m_fault k_fault b_fault .nil (passes_call (E := E) (takes_of rfl rfl rfl rfl) (fun _ _ _ _ h => h)) (pa_cons (pe_ix (k_ix (K := K) rfl) (pv 1) pe_int (fun _ _ => rfl)) (pa_cons (pe_ix (k_ix (K := K) rfl) (pv 1) pe_int (fun _ _ => rfl)) (pa_cons (pe_ix (k_ix (K := K) rfl) (pv 1) pe_int (fun _ _ => rfl)) pa_nil)))))) pss_nil)
      (pss_cons (ps_if (pt_cmpR (k_eq (K := K) rfl (rUnits hr)) (pv 0) pe_int (nomark _)) (pss_one (ps_ret (pe_call X_accepts_few (hr.mono (by decide)) rfl m_accepts_few k_accepts_few b_accepts_few .nil (passes_call (E := E) (takes_of rfl rfl rfl rfl) (fun _ _ _ _ h => h)) (pa_cons (pe_ix (k_ix (K := K) rfl) (pv 1) pe_int (fun _ _ => rfl)) (pa_cons (pe_ix (k_ix (K := K) rfl) (pv 1) pe_int (fun _ _ => rfl)) (pa_cons (pe_ix (k_ix (K := K) rfl) (pv 1) pe_int (fun _ _ => rfl)) (pa_cons pe_non pa_nil))))))) pss_nil)
      (pss_cons (ps_if (pt_cmpR (k_eq (K := K) rfl (rUnits hr)) (pv 0) pe_int (nomark _)) (pss_one (ps_ret (pe_call X_needed (hr.mono (by decide)) rfl m_needed k_needed b_needed .nil (passes_call (E := E) (takes_of rfl rfl rfl rfl) (fun _ _ _ _ h => h)) (pa_cons (pe_ix (k_ix (K := K) rfl) (pv 1) pe_int (fun _ _ => rfl)) (pa_cons (pe_ix (k_ix (K := K) rfl) (pv 1) pe_int (fun _ _ => rfl)) pa_nil))))) pss_nil)
      (pss_one (ps_ret (pe_call X_lists_for (hr.mono (by decide)) rfl m_lists_for k_lists_for b_lists_for .nil (passes_call (E := E) (takes_of rfl rfl rfl rfl) (fun _ _ _ _ h => h)) (pa_cons (pe_ix (k_ix (K := K) rfl) (pv 1) pe_int (fun _ _ => rfl)) (pa_cons (pe_ix (k_ix (K := K) rfl) (pv 1) pe_int (fun _ _ => rfl)) pa_nil))))))))))))), run_ref (N := n__law_ask) (C := C) (fun ds nm hd hE => ?_) h⟩)
  obtain ⟨w, row, rfl, hw, hc⟩ := hd
  have ix : ∀ (j : Nat) (z : PyData), row[j]? = some z → Ev (pc K) (tOp (rIx K) (tVar 1) (tC (.int (j : Int)))) (argsG [.int (w : Int), .list row] n__law_ask.length) .v z := fun j z hz => e_ixLv (d_var rfl) d_int (atI_nat hz)
  have i0 := ix 0
  have i1 := ix 1
  have i2 := ix 2
  have i3 := ix 3
  clear ix
  rcases hc with ⟨hw4, hc⟩ | ⟨rfl, hc⟩ | ⟨rfl, hc⟩ | ⟨rfl, x, z, n, rfl, hc⟩ | ⟨h7, hc⟩
  · obtain ⟨x, z, rfl, _⟩ := id hc
    match w, hw4 with
    | 0, _ => exact (x_take (EvT.to (t_test (e_eqI (d_var rfl) d_int)) rfl) (x_retE (x_ref (a_cons (i0 _ rfl) (a_cons (i1 _ rfl) a_nil)) hc hE)))
    | 1, _ => exact (x_skip (EvT.to (t_test (e_eqI (d_var rfl) d_int)) rfl) (x_take (EvT.to (t_test (e_eqI (d_var rfl) d_int)) rfl) (x_retE (x_ref (a_cons (i0 _ rfl) (a_cons (i1 _ rfl) a_nil)) hc hE))))
    | 2, _ => exact (x_skip (EvT.to (t_test (e_eqI (d_var rfl) d_int)) rfl) (x_skip (EvT.to (t_test (e_eqI (d_var rfl) d_int)) rfl) (x_take (EvT.to (t_test (e_eqI (d_var rfl) d_int)) rfl) (x_retE (x_ref (a_cons (i0 _ rfl) (a_cons (i1 _ rfl) a_nil)) hc hE)))))
    | 3, _ => exact (x_skip (EvT.to (t_test (e_eqI (d_var rfl) d_int)) rfl) (x_skip (EvT.to (t_test (e_eqI (d_var rfl) d_int)) rfl) (x_skip (EvT.to (t_test (e_eqI (d_var rfl) d_int)) rfl) (x_take (EvT.to (t_test (e_eqI (d_var rfl) d_int)) rfl) (x_retE (x_ref (a_cons (i0 _ rfl) (a_cons (i1 _ rfl) (a_cons d_non a_nil))) ⟨x, z, .none, rfl, hc⟩ hE))))))
    | w + 4, h => omega
  · obtain ⟨x, z, f, s, rfl, _⟩ := id hc
    exact (x_skip (EvT.to (t_test (e_eqI (d_var rfl) d_int)) rfl) (x_skip (EvT.to (t_test (e_eqI (d_var rfl) d_int)) rfl) (x_skip (EvT.to (t_test (e_eqI (d_var rfl) d_int)) rfl) (x_skip (EvT.to (t_test (e_eqI (d_var rfl) d_int)) rfl) (x_take (EvT.to (t_test (e_eqI (d_var rfl) d_int)) rfl) (x_retE (x_ref (a_cons (i0 _ rfl) (a_cons (i1 _ rfl) (a_cons (i2 _ rfl) (a_cons (i3 _ rfl) a_nil)))) hc hE)))))))
  · obtain ⟨x, z, l, rfl, _⟩ := id hc
    exact (x_skip (EvT.to (t_test (e_eqI (d_var rfl) d_int)) rfl) (x_skip (EvT.to (t_test (e_eqI (d_var rfl) d_int)) rfl) (x_skip (EvT.to (t_test (e_eqI (d_var rfl) d_int)) rfl) (x_skip (EvT.to (t_test (e_eqI (d_var rfl) d_int)) rfl) (x_skip (EvT.to (t_test (e_eqI (d_var rfl) d_int)) rfl) (x_take (EvT.to (t_test (e_eqI (d_var rfl) d_int)) rfl) (x_retE (x_ref (a_cons (i0 _ rfl) (a_cons (i1 _ rfl) (a_cons (i2 _ rfl) a_nil))) hc hE))))))))
  · exact (x_skip (EvT.to (t_test (e_eqI (d_var rfl) d_int)) rfl) (x_skip (EvT.to (t_test (e_eqI (d_var rfl) d_int)) rfl) (x_skip (EvT.to (t_test (e_eqI (d_var rfl) d_int)) rfl) (x_skip (EvT.to (t_test (e_eqI (d_var rfl) d_int)) rfl) (x_skip (EvT.to (t_test (e_eqI (d_var rfl) d_int)) rfl) (x_skip (EvT.to (t_test (e_eqI (d_var rfl) d_int)) rfl) (x_take (EvT.to (t_test (e_eqI (d_var rfl) d_int)) rfl) (x_retE (x_ref (a_cons (i0 _ rfl) (a_cons (i1 _ rfl) (a_cons (i2 _ rfl) (a_cons d_non a_nil)))) hc hE)))))))))
  · obtain ⟨x, y, rfl, _⟩ := id hc
    match w, h7, hw with
    | 7, _, _ => exact (x_skip (EvT.to (t_test (e_eqI (d_var rfl) d_int)) rfl) (x_skip (EvT.to (t_test (e_eqI (d_var rfl) d_int)) rfl) (x_skip (EvT.to (t_test (e_eqI (d_var rfl) d_int)) rfl) (x_skip (EvT.to (t_test (e_eqI (d_var rfl) d_int)) rfl) (x_skip (EvT.to (t_test (e_eqI (d_var rfl) d_int)) rfl) (x_skip (EvT.to (t_test (e_eqI (d_var rfl) d_int)) rfl) (x_skip (EvT.to (t_test (e_eqI (d_var rfl) d_int)) rfl) (x_take (EvT.to (t_test (e_eqI (d_var rfl) d_int)) rfl) (x_retE (x_ref (a_cons (i0 _ rfl) (a_cons (i1 _ rfl) a_nil)) hc hE))))))))))
    | 8, _, _ => exact (x_skip (EvT.to (t_test (e_eqI (d_var rfl) d_int)) rfl) (x_skip (EvT.to (t_test (e_eqI (d_var rfl) d_int)) rfl) (x_skip (EvT.to (t_test (e_eqI (d_var rfl) d_int)) rfl) (x_skip (EvT.to (t_test (e_eqI (d_var rfl) d_int)) rfl) (x_skip (EvT.to (t_test (e_eqI (d_var rfl) d_int)) rfl) (x_skip (EvT.to (t_test (e_eqI (d_var rfl) d_int)) rfl) (x_skip (EvT.to (t_test (e_eqI (d_var rfl) d_int)) rfl) (x_skip (EvT.to (t_test (e_eqI (d_var rfl) d_int)) rfl) (x_retE (x_ref (a_cons (i0 _ rfl) (a_cons (i1 _ rfl) a_nil)) hc hE))))))))))
    | 0, h, _ => omega
    | 1, h, _ => omega
    | 2, h, _ => omega
    | 3, h, _ => omega
    | 4, h, _ => omega
    | 5, h, _ => omega
    | 6, h, _ => omega
    | w + 9, _, h => omega

theorem ok__law_toldX {P : Program} {w : World} {K : PySem.W.Frag} {mg : Str → Option Value} {base : Heap} {f C : Addr} {fd : FuncData} (F : Fun K "_law_told" "_law_told" s__law_told f fd) (T : Txt mg) (X : Exc1 P w K mg base "BadValue" "name" C) {L1 : Addr} (XH : ExcH K mg C L1) {fx__law_ask : Addr} {fdx__law_ask : FuncData} (X__law_ask : FnOk P w K mg base (L2.CX P w) 14 fx__law_ask fdx__law_ask p__law_ask (spDR K C (sp__law_ask68 K) RcA68)) (m__law_ask : mg "_law_ask" = some (.ref fx__law_ask)) (k__law_ask : PySem.W.keepIn K (.ref fx__law_ask) = true) (b__law_ask : Binds K fdx__law_ask p__law_ask []) :
    FnOk P w K mg base (L2.CX P w) 15 f fd p__law_told (sp__law_told68 K) := by
  refine F.okX sc__law_told (fun vs H Q E h => spD_len (E := E) h (by rintro ds k d ⟨w, row, rfl, _⟩; rfl)) (fun cdv A outer s H vs Q E hr h => ⟨_, (pss_cons (ps_try_as (i := 2) (Wout := fun cls d _ H => E cls d H) rfl rfl sc__law_told.nd rfl rfl ⟨rfl, by decide, .inl XH.hL⟩ (takes_of rfl rfl rfl rfl)
    (fun W pn xe tk po => (pss_one (ps_expr (pe_callS X__law_ask (hr.mono (by decide)) rfl m__law_ask k__law_ask b__law_ask (fun σ => passAt tk σ) (pa_cons (pv 0) (pa_cons (pv 1) pa_nil))))))
    (fun a oe cls d pn hz hf => (pss_cons (ps_if (PW.pt (pw_and (pt_val (pe_callB (call_isX XH.isC hz hf) rfl T.b_isinstance (by decide +kernel) (pa_cons (pv 2) (pa_cons (pe_glob (v := .ref C) rfl X.hC rfl) pa_nil)))) (pw_and1 (pt_val (pe_callB (call_isX XH.isC hz hf) rfl T.b_isinstance (by decide +kernel) (pa_cons (pv 2) (pa_cons (pe_ty (n := "ValueError") rfl T.b_ValueError (by decide +kernel)) pa_nil))))))) (pss_one (ps_ret (pe_tupN (pa_cons pe_str (pa_cons (pe_xf X.X X.no hz hf (pv 2)) pa_nil))))) pss_nil) (pss_one (ps_ret (pe_tupN (pa_cons pe_str pa_nil))))))) (pss_one (ps_ret (pe_tupN (pa_cons pe_str pa_nil))))), ?_⟩)
  obtain ⟨ds, k', d, hb, ⟨w, row, rfl, rfl, hd⟩, q⟩ := h
  have lv : vs.length = 2 := by rw [hb.len]; rfl
  obtain ⟨x, y, rfl⟩ : ∃ x y, vs = [x, y] := match vs, lv with | [x, y], _ => ⟨x, y, rfl⟩
  rcases hd with ⟨⟨kk, dd, hP⟩, rfl⟩ | ⟨nm, hR, rfl⟩
  · refine run_pure (K := K) (N := n__law_told) (pre := fun ds k d => ds = [.int (w : Int), .list row] ∧ k = .v ∧ d = .tuple [.str "fine"]) (E := E) (fun ds k d hp => ?_) ⟨_, _, _, hb, ⟨rfl, rfl, rfl⟩, q⟩
    obtain ⟨rfl, rfl, rfl⟩ := hp
    refine s_seqE (fun Γ1 => Γ1 = argsG [.int (w : Int), .list row] n__law_told.length) (fun H0 O Hh σ D e s => ?_) (by rintro Γ1 rfl; exact s_ret (d_tup (a_consV d_str a_nil) (by simp)) (.inr ⟨rfl, rfl⟩) (.inl rfl))
    exact (s_drop (d_callS (k := kk) (d := dd) (a_cons (d_var rfl) (a_cons (d_var rfl) a_nil)) ⟨w, row, rfl, hP⟩) ⟨_, rfl, rfl⟩ : Sd (pc K) (tDrop _) _ _) H0 O Hh σ D e s
  · have env := env_args (N := n__law_told) Ji.pc hb
    have fin : ∀ (dx : Addr) (H1 : Hp), Same H H1 → ∀ (p : Addr) (H2 : Hp), Same H1 H2 → TpN K H2 p [.str "bad", .str nm] → Q (.ref p) H2 := fun dx H1 sm p H2 sm2 tp => q _ _ (fun a o w => sm2 a o (sm a o w)) ⟨rfl, .tup tp (.cons (.str _) (.cons (.str _) .nil))⟩
    dsimp only [tSeq]
    refine (?_ : SdY (pc K) H (start n__law_told [x, y]) (tDrop _) _) [] H _ env
    exact y_drop (a_cons (d_var rfl) (a_cons (d_var rfl) a_nil)) hR fun dx H1 sm hdx => was_least X XH (id (by decide : (2 : Nat) < 3)) hdx (fin dx H1 sm)

end W

namespace W
open PySem PySem.Spec PyProof.Rows L2 Lm
theorem ok_law {P : Program} {w : World} {K : PySem.W.Frag} {mg : Str → Option Value} {base : Heap} {f : Addr} {fd : FuncData} (F : Fun K "law" "law" s_law f fd) (T : Txt mg) (c__law_stream : Cal P w K mg base CX0 1 "_law_stream" p__law_stream (sp__law_stream K)) (c__law_next : Cal P w K mg base CX0 1 "_law_next" p__law_next (sp__law_next K)) (c__law_named : Cal P w K mg base CX0 16 "_law_named" p__law_named (sp__law_named68 K)) :
    FnOk P w K mg base CX0 17 f fd p_law (spLaw K) := by
  refine F.ok sc_law (fun vs H Q E h => by obtain ⟨a, ns, rfl, _⟩ := h; rfl) (fun cdv A outer s H vs Q E hr h => ⟨_, (pss_cons (ps_set (i := 1) sc_law.nd rfl (Or.inl rfl) (pe_cal c__law_stream (hr.mono (by decide)) rfl pass0 (pa_cons (pv 0) pa_nil)))
      (pss_cons (ps_set (i := 2) sc_law.nd rfl (Or.inl rfl) (pe_op (k_add (K := K) rfl) pe_int (pe_cal c__law_next (hr.mono (by decide)) rfl pass0 (pa_cons (pv 1) (pa_cons pe_int pa_nil)))))
      (pss_cons (ps_set (i := 3) sc_law.nd rfl (Or.inl rfl) (pe_op (k_add (K := K) rfl) (pe_tupN (pa_cons (pe_op (k_add (K := K) rfl) pe_int (pe_cal c__law_next (hr.mono (by decide)) rfl pass0 (pa_cons (pv 1) (pa_cons pe_int pa_nil)))) (pa_cons pe_int pa_nil))) (pe_op (k_repU (K := K) rfl) (pe_tupN (pa_cons pe_int pa_nil)) (pe_op op_sub (pv 2) pe_int))))
      (pss_cons (ps_set (i := 4) sc_law.nd rfl (Or.inl rfl) (pe_tupN (pa_cons (pv 3) (pa_cons (pe_op (k_repU (K := K) rfl) (pe_tupN (pa_cons pe_int pa_nil)) (pe_op op_sub (pv 2) pe_int)) pa_nil))))
      (pss_cons (ps_set (i := 5) sc_law.nd rfl (Or.inl rfl) (pe_lst (pa_cons (pv 2) (pa_cons (pv 4) pa_nil))))
      (pss_cons (ps_set (i := 6) sc_law.nd rfl (Or.inl rfl) (pe_lst (pa_cons (pe_ix (k_ix (K := K) rfl) (pe_lst (pa_cons pe_int (pa_cons pe_int (pa_cons pe_bl pa_nil)))) (pe_cal c__law_next (hr.mono (by decide)) rfl pass0 (pa_cons (pv 1) (pa_cons pe_int pa_nil))) (fun _ _ => rfl)) pa_nil)))
      (pss_cons (ps_expr (k_bm (K := K) rfl PySem.F.plainAttrs_list PySem.F.slot_list_append PySem.F.type_list_append mt_append (pv 6) (pa_cons (pe_ix (k_ix (K := K) rfl) (pe_lst (pa_cons (pe_tupN pa_nil) (pa_cons (pe_callTy (k_list (K := K) rfl) rfl T.b_list (by decide +kernel) (pa_cons (pv 4) pa_nil)) (pa_cons (pe_tupN (pa_cons (pe_slice (k_slT (K := K) rfl) (pv 3) (po_some pe_int) po_none) pa_nil)) (pa_cons (pe_tupN (pa_cons (pe_op (k_add (K := K) rfl) (pe_tupN (pa_cons pe_int pa_nil)) (pe_slice (k_slT (K := K) rfl) (pv 3) (po_some pe_int) po_none)) pa_nil)) (pa_cons (pe_op (k_repU (K := K) rfl) (pv 4) pe_int) (pa_cons pe_non pa_nil))))))) (pe_cal c__law_next (hr.mono (by decide)) rfl pass0 (pa_cons (pv 1) (pa_cons pe_int pa_nil))) (fun _ _ => rfl)) pa_nil)))
      (pss_cons (ps_set (i := 7) sc_law.nd rfl (Or.inl rfl) (pe_lst (pa_cons pe_str (pa_cons pe_str pa_nil))))
      (pss_cons (ps_for PassesOwn.never rfl (pi_range1 rfl T.b_range (pa_cons pe_int pa_nil)) (pg_name (i := 8) sc_law.nd rfl (Or.inl rfl)) (pss_one (ps_if (pt_not (pt_val (pe_cal c__law_named (hr.mono (by decide)) rfl pass0 (pa_cons (pv 1) (pa_cons (pv 8) (pa_cons (pv 7) (pa_cons (pv 5) (pa_cons (pv 6) pa_nil)))))))) (pss_one (ps_ret pe_bl)) pss_nil)))
      (pss_cons (ps_set (i := 9) sc_law.nd rfl (Or.inl rfl) (pe_ix (k_ix (K := K) rfl) (pe_lst (pa_cons (pe_tupN (pa_cons pe_int (pa_cons (pe_ix (k_ix (K := K) rfl) (pv 3) pe_int (fun _ _ => rfl)) pa_nil))) (pa_cons (pe_tupN (pa_cons pe_int (pa_cons pe_int pa_nil))) (pa_cons (pe_tupN (pa_cons pe_int (pa_cons pe_int pa_nil))) (pa_cons (pe_tupN (pa_cons (pv 2) (pa_cons pe_int pa_nil))) (pa_cons (pe_tupN (pa_cons pe_int (pa_cons (pe_un un_neg pe_int) pa_nil))) (pa_cons (pe_lst (pa_cons pe_int (pa_cons pe_int pa_nil))) (pa_cons (pe_tupN (pa_cons pe_int (pa_cons pe_bl (pa_cons pe_int pa_nil)))) pa_nil)))))))) (pe_cal c__law_next (hr.mono (by decide)) rfl pass0 (pa_cons (pv 1) (pa_cons pe_int pa_nil))) (fun _ _ => rfl)))
      (pss_cons (ps_if (pt_not (pt_val (pe_cal c__law_named (hr.mono (by decide)) rfl pass0 (pa_cons (pv 1) (pa_cons pe_int (pa_cons (pe_op (k_catS (K := K) rfl) (pv 7) (pe_lst (pa_cons pe_str (pa_cons pe_str pa_nil)))) (pa_cons (pe_op (k_catS (K := K) rfl) (pv 5) (pe_lst (pa_cons (pe_tupN (pa_cons pe_int (pa_cons pe_int pa_nil))) (pa_cons (pe_tupN (pa_cons pe_int (pa_cons pe_int pa_nil))) pa_nil)))) (pa_cons (pe_op (k_catS (K := K) rfl) (pv 6) (pe_lst (pa_cons (pv 9) (pa_cons (pv 9) pa_nil)))) pa_nil)))))))) (pss_one (ps_ret pe_bl)) pss_nil)
      (pss_cons (ps_set (i := 10) sc_law.nd rfl (Or.inl rfl) (pe_op (k_add (K := K) rfl) (pe_tupN (pa_cons (pe_tupRn rfl rfl T.b_tuple (prg_1 rfl T.b_range (pe_ix (k_ix (K := K) rfl) (pv 3) pe_int (fun _ _ => rfl)))) (pa_cons (pe_tupN (pa_cons pe_int pa_nil)) pa_nil))) (pe_op (k_repU (K := K) rfl) (pe_tupN (pa_cons (pe_tupN pa_nil) pa_nil)) (pe_op op_sub (pv 2) pe_int))))
      (pss_cons (ps_set (i := 11) sc_law.nd rfl (Or.inl rfl) (pe_ix (k_ix (K := K) rfl) (pe_lst (pa_cons (pe_callTy (k_list (K := K) rfl) rfl T.b_list (by decide +kernel) (pa_cons (pv 10) pa_nil)) (pa_cons (pe_slice (k_slT (K := K) rfl) (pv 10) (po_some pe_int) po_none) (pa_cons (pe_op (k_add (K := K) rfl) (pe_tupN (pa_cons (pe_tupN (pa_cons pe_int (pa_cons pe_int pa_nil))) pa_nil)) (pe_slice (k_slT (K := K) rfl) (pv 10) (po_some pe_int) po_none)) (pa_cons (pe_op (k_add (K := K) rfl) (pe_tupN (pa_cons (pe_tupN (pa_cons (pe_un un_neg pe_int) pa_nil)) pa_nil)) (pe_slice (k_slT (K := K) rfl) (pv 10) (po_some pe_int) po_none)) (pa_cons (pe_op (k_add (K := K) rfl) (pe_tupN (pa_cons (pe_tupN (pa_cons pe_int pa_nil)) pa_nil)) (pe_slice (k_slT (K := K) rfl) (pv 10) (po_some pe_int) po_none)) pa_nil)))))) (pe_cal c__law_next (hr.mono (by decide)) rfl pass0 (pa_cons (pv 1) (pa_cons pe_int pa_nil))) (fun _ _ => rfl)))
      (pss_cons (ps_if (pt_not (pt_val (pe_cal c__law_named (hr.mono (by decide)) rfl pass0 (pa_cons (pv 1) (pa_cons pe_int (pa_cons (pe_op (k_catS (K := K) rfl) (pv 7) (pe_lst (pa_cons pe_str pa_nil))) (pa_cons (pe_op (k_catS (K := K) rfl) (pv 5) (pe_lst (pa_cons (pv 10) pa_nil))) (pa_cons (pe_op (k_catS (K := K) rfl) (pv 6) (pe_lst (pa_cons (pv 11) pa_nil))) pa_nil)))))))) (pss_one (ps_ret pe_bl)) pss_nil)
      (pss_cons (ps_set (i := 12) sc_law.nd rfl (Or.inl rfl) (pe_ix (k_ix (K := K) rfl) (pe_lst (pa_cons pe_int (pa_cons pe_int pa_nil))) (pe_cal c__law_next (hr.mono (by decide)) rfl pass0 (pa_cons (pv 1) (pa_cons pe_int pa_nil))) (fun _ _ => rfl)))
      (pss_cons (ps_if (pt_not (pt_val (pe_cal c__law_named (hr.mono (by decide)) rfl pass0 (pa_cons (pv 1) (pa_cons pe_int (pa_cons (pe_op (k_catS (K := K) rfl) (pv 7) (pe_lst (pa_cons pe_str pa_nil))) (pa_cons (pe_op (k_catS (K := K) rfl) (pv 5) (pe_lst (pa_cons (pv 12) pa_nil))) (pa_cons (pe_op (k_catS (K := K) rfl) (pv 6) (pe_lst (pa_cons (pe_ix (k_ix (K := K) rfl) (pe_lst (pa_cons (pe_un un_neg pe_int) (pa_cons pe_int (pa_cons pe_bl pa_nil)))) (pe_cal c__law_next (hr.mono (by decide)) rfl pass0 (pa_cons (pv 1) (pa_cons pe_int pa_nil))) (fun _ _ => rfl)) pa_nil))) pa_nil)))))))) (pss_one (ps_ret pe_bl)) pss_nil)
      (pss_cons (ps_set (i := 13) sc_law.nd rfl (Or.inl rfl) (pe_ix (k_ix (K := K) rfl) (pe_lst (pa_cons (pe_un un_neg pe_int) (pa_cons pe_int (pa_cons pe_bl (pa_cons pe_non pa_nil))))) (pe_cal c__law_next (hr.mono (by decide)) rfl pass0 (pa_cons (pv 1) (pa_cons pe_int pa_nil))) (fun _ _ => rfl)))
      (pss_cons (ps_for PassesOwn.never rfl (k_seq (K := K) rfl (pe_lst (pa_cons pe_int (pa_cons pe_int pa_nil)))) (pg_name (i := 8) sc_law.nd rfl (Or.inl rfl)) (pss_one (ps_if (pt_not (pt_val (pe_cal c__law_named (hr.mono (by decide)) rfl pass0 (pa_cons (pv 1) (pa_cons (pv 8) (pa_cons (pe_lst (pa_cons pe_str (pa_cons pe_str pa_nil))) (pa_cons (pe_lst (pa_cons (pv 2) (pa_cons pe_int pa_nil))) (pa_cons (pe_lst (pa_cons (pe_ix (k_ix (K := K) rfl) (pv 6) pe_int (fun _ _ => rfl)) (pa_cons (pv 13) pa_nil))) pa_nil)))))))) (pss_one (ps_ret pe_bl)) pss_nil)))
      (pss_one (ps_ret pe_bl)))))))))))))))))))), run_law (N := n_law) (by decide) (fun st l => ?_) h⟩)
  have drw : ∀ {Γ : List (Option Rs)} (m : Int), 0 < m → m < 1073741824 → Γ[1]? = some (some (.r (.ref st))) → EvN (sc K st l) (tCall (sp__law_next K) [] E0 (tCons (tVar 1) (tCons (tC (.int m)) tNil))) Γ .v (SomeI fun i => 0 ≤ i ∧ i < m) := fun m m0 m1 h => n_call (st := st) (l := l) rfl h (a_cons d_int a_nil) ⟨m, rfl, m0, m1, rfl, rfl⟩
  have pick : ∀ {P : PyData → Prop} {ds : List PyData} {m : Nat}, AllP P m ds → ∀ i : Int, (0 ≤ i ∧ i < (m : Int)) → ∃ d, atI ds i = some d ∧ P d := fun {P ds m} h i ⟨i0, i1⟩ => by
    obtain ⟨j, rfl⟩ := Int.eq_ofNat_of_zero_le i0
    have hj : j < ds.length := by have := h.1; omega
    exact ⟨ds[j], atI_nat (List.getElem?_eq_getElem hj), h.2 _ (List.getElem_mem hj)⟩
  refine q_asgN (SomeI fun i => 3 ≤ i ∧ i < 6) (n_add (d_int.sm (Q := fun m => m = 3) rfl) (drw 3 (by decide) (by decide) rfl) (fun m n hm hn => by omega)) ?_
  rintro d ⟨v0, rfl, v3, v6⟩
  obtain ⟨v, rfl⟩ := Int.eq_ofNat_of_zero_le (show 0 ≤ v0 by omega)
  have v3 : 3 ≤ v := by omega
  have v5 : v ≤ 5 := by omega
  have rp : ∀ (n : Nat) (i : Int), i = (n : Int) → (.tuple (List.replicate i.toNat [PyData.int 0]).flatten : PyData) = tupD (zr n) := fun n i h => by
    subst h
    rw [rep_flat, Int.toNat_natCast]
    simp [zr]
  have lz : (zr (v - 3)).length ≤ 2 := by simp [zr]; omega
  have zb : ∀ {Γ : List (Option Rs)} (n : Nat), Γ[2]? = some (some (.v (.int (v : Int)))) → n ≤ 3 → n ≤ v → Ev (sc K st l) (tOp (rRepU K) (tTupN (tCons (tC (.int 0)) tNil)) (tOp (rI0 fun i j => .int (i - j)) (tVar 2) (tC (.int (n : Int))))) Γ .v (tupD (zr (v - n))) := fun n h h1 h2 => Ev.to (e_repT (d_tup (a_consV d_int a_nil) (by simp)) (by simp) (d_sub (d_var h) d_int) (by omega) (by omega) (by simp)) (rp _ _ (by omega))
  refine q_asgN (fun d => ∃ s : Nat, 1 ≤ s ∧ s ≤ 3 ∧ d = tupD ((s : Int) :: 1 :: zr (v - 3))) ((n_catT (Pa := fun d => ∃ ds, d = .tuple ds ∧ ∃ x es, ds = x :: es ∧ SomeI (fun i => 1 ≤ i ∧ i < 4) x ∧ es = [.int 1]) (Pb := fun d => d = tupD (zr (v - 3)))
    (n_tupVN ((an_cons (n_add (d_int.sm (Q := fun m => m = 1) rfl) (drw 3 (by decide) (by decide) rfl) (Q := fun i => 1 ≤ i ∧ i < 4) (fun m n hm hn => by omega)) (an_consD (d := .int 1) d_int an_nil)).imp fun ds ⟨x, es, e, hx, d', es', e', hd, he⟩ => ⟨x, es, e, hx, by rw [e', hd, he]⟩) (fun ds h => by obtain ⟨x, es, rfl, _, rfl⟩ := h; simp)) (zb 3 rfl (by decide) v3).n (fun x y hx hy => by
      obtain ⟨ds, rfl, x, es, rfl, _, rfl⟩ := hx
      exact ⟨_, _, rfl, hy, by simp; omega⟩)).imp fun d h => by
        obtain ⟨ds, es, rfl, ⟨ds', e1, x, es', rfl, ⟨i, rfl, i1, i4⟩, rfl⟩, e2⟩ := h
        cases e1
        obtain ⟨s, rfl⟩ := Int.eq_ofNat_of_zero_le (show 0 ≤ i by omega)
        cases e2
        exact ⟨s, by omega, by omega, rfl⟩) ?_
  rintro d ⟨s, s1, s3, rfl⟩
  have h68 := ok68 s1 s3 v3 v5
  have v1' : 1 ≤ v := by omega
  obtain ⟨F, eF⟩ : ∃ F, F = F68 s v := ⟨_, rfl⟩
  refine q_asg (d := .tuple (F.map tupD)) (Ev.to (d_tup (a_consV (d_var rfl) (a_consV (zb 1 rfl (by decide) v1') a_nil)) (by simp)) (by rw [eF]; rfl)) ?_
  refine q_asgW (ds := [.int (v : Int), .tuple (F.map tupD)]) (w_lst (a_consV (d_var rfl) (a_consV (d_var rfl) a_nil)) (by simp)) ?_
  refine s_freezeW (n := 5) (ds := [.int (v : Int), .tuple (F.map tupD)]) rfl ?_
  obtain ⟨S, eS⟩ : ∃ S, S = tupD ((s : Int) :: 1 :: zr (v - 3)) := ⟨_, rfl⟩
  have cutS : ∀ {Γ : List (Option Rs)}, Γ[3]? = some (some (.v S)) → Ev (sc K st l) (tSl (rSlN K) (tVar 3) (tPart (tC (.int 1))) tNoPart) Γ .v (tupD (1 :: zr (v - 3))) := fun h => Ev.to (e_sl (ds := ((s : Int) :: 1 :: zr (v - 3)).map .int) (d_var (by rw [h, eS])) (o_some d_int) o_none) (by rw [show (some (1 : Int)) = some ((1 : Nat) : Int) from rfl, cutD_lo (by simp)]; rfl)
  rw [← eS]
  show Sd (sc K st l) _ [none, some (.r (.ref st)), some (.v (.int (v : Int))), some (.v S), some (.v (.tuple (F.map tupD))), some (.v (.list [.int (v : Int), .tuple (F.map tupD)])), none, none, none, none, none, none, none, none] _
  have bad1 := fun {Γ : List (Option Rs)} (h : Γ[1]? = some (some (.r (.ref st)))) => n_ixLV (c := sc K st l) (Γ := Γ) (P := fun d => isIntD d 1 5 = false) (Q := fun i => 0 ≤ i ∧ i < 3) (e_lstV (ds := [.int 0, .int 6, .bool true]) (a_consV d_int (a_consV d_int (a_consV d_bl a_nil))) (by simp)) (drw 3 (by decide) (by decide) h) (pick ⟨rfl, by decide⟩)
  refine q_asgWN (w_lstN (an_cons (bad1 rfl) an_nil) (fun ds h => by obtain ⟨_, _, rfl, _, rfl⟩ := h; simp)) ?_
  rintro ds ⟨nv, _, rfl, h1, rfl⟩
  show Sd (sc K st l) _ [none, some (.r (.ref st)), some (.v (.int (v : Int))), some (.v S), some (.v (.tuple (F.map tupD))), some (.v (.list [.int (v : Int), .tuple (F.map tupD)])), some (.w [nv]), none, none, none, none, none, none, none] _
  refine s_seqE (fun Γ1 => ∃ nf, Γ1 = [none, some (.r (.ref st)), some (.v (.int (v : Int))), some (.v S), some (.v (.tuple (F.map tupD))), some (.v (.list [.int (v : Int), .tuple (F.map tupD)])), some (.w [nv, nf]), none, none, none, none, none, none, none] ∧ NoF nf v) (s_appWN (Pe := fun d => NoF d v) rfl (n_ixLV (Q := fun i => 0 ≤ i ∧ i < 6) (e_lstV (ds := [.tuple [], .list (F.map tupD), .tuple [tupD (1 :: zr (v - 3))], .tuple [tupD (11 :: 1 :: zr (v - 3))], .tuple (List.replicate (3 : Int).toNat (F.map tupD)).flatten, .none])
    (a_consV (d_tup a_nil (by simp)) (a_consV (Ev.frz (e_listT (d_var rfl) (fl_rows F))) (a_consV (d_tup (a_consV (cutS rfl) a_nil) (by simp)) (a_consV (d_tup (a_consV (Ev.to (e_catT (d_tup (a_consV d_int a_nil) (by simp)) (cutS rfl) (by simp; omega)) rfl) a_nil) (by simp)) (a_consV (e_repT (d_var rfl) (by rw [eF]; simp [F68]) d_int (by decide) (by decide) (by rw [eF]; simp [F68])) (a_consV d_non a_nil)))))) (by simp)) (drw 6 (by decide) (by decide) rfl) (pick ⟨rfl, fun d hd => ?_⟩)) (by simp) (fun d hd => ⟨_, rfl, d, rfl, hd⟩)) ?_
  · simp only [List.mem_cons, List.not_mem_nil, or_false] at hd
    rw [eF] at hd
    exact nof68 s1 s3 v3 v5 hd
  rintro Γ1 ⟨nf, rfl, h2⟩
  refine s_freezeW (n := 6) (ds := [nv, nf]) rfl ?_
  refine q_asgW (ds := (nmF2.map .str)) (w_lst (ds := [.str "variants", .str "family"]) (a_consV d_str (a_consV d_str a_nil)) (by simp)) ?_
  refine s_freezeW (n := 7) (ds := (nmF2.map .str)) rfl ?_
  show Sd (sc K st l) _ [none, some (.r (.ref st)), some (.v (.int (v : Int))), some (.v S), some (.v (.tuple (F.map tupD))), some (.v (.list [.int (v : Int), .tuple (F.map tupD)])), some (.v (.list [nv, nf])), some (.v (.list (nmF2.map .str))), none, none, none, none, none, none] _
  have hf := h68.fam
  have h9 := h68.l9
  have hn := h68.nn
  have e1 := h68.e1
  have e2 := h68.e2
  rw [← eF] at hf h9 hn e1 e2
  have ask2 : ∀ w : Nat, w < 4 → ∃ kk dd, AskP68 w [.int (v : Int), .tuple (F.map tupD)] kk dd := fun w hw => by
    match w, hw with
    | 0, _ => exact ⟨_, _, .inl ⟨F, v, hf, .inl ⟨by decide, rfl, h9, hn, .inl ⟨rfl, rfl, rfl⟩⟩⟩⟩
    | 1, _ => exact ⟨_, _, .inl ⟨F, v, hf, .inl ⟨by decide, rfl, h9, hn, .inr (.inl ⟨rfl, rfl, rfl⟩)⟩⟩⟩
    | 2, _ => exact ⟨_, _, .inl ⟨F, v, hf, .inl ⟨by decide, rfl, h9, hn, .inr (.inr (.inl ⟨rfl, rfl, rfl⟩))⟩⟩⟩
    | 3, _ => exact ⟨_, _, .inl ⟨F, v, hf, .inl ⟨by decide, rfl, h9, hn, .inr (.inr (.inr ⟨rfl, rfl, rfl⟩))⟩⟩⟩
  refine q_for (i_rngN (n := 4) (a_cons d_int a_nil) (by decide)) (fun n Γ1 => ∃ t8, Γ1 = [none, some (.r (.ref st)), some (.v (.int (v : Int))), some (.v S), some (.v (.tuple (F.map tupD))), some (.v (.list [.int (v : Int), .tuple (F.map tupD)])), some (.v (.list [nv, nf])), some (.v (.list (nmF2.map .str))), t8, none, none, none, none, none]) ⟨_, rfl⟩ (fun n a Γ1 hn' hI => ?_) (fun Γ1 hI => ?_)
  · obtain ⟨t8, rfl⟩ := hI
    obtain ⟨hn, rfl⟩ := rngN_at hn'
    exact ⟨_, _, g_name, s_if (a := false) (EvT.to (t_not (t_B (EvN.det (n_call (st := st) (l := l) rfl rfl (a_cons (d_var rfl) (a_cons (d_var rfl) (a_cons (d_var rfl) (a_cons (d_var rfl) a_nil)))) ⟨n, nmF2, _, _, rfl, ask2 n hn, badF2 hn v1' v5 h1 h2, rfl, rfl⟩)))) rfl) (fun z => nomatch z) fun _ => s_next (.inl ⟨_, .inl rfl, _, rfl⟩)⟩
  obtain ⟨t8, rfl⟩ := hI
  have ix0 : ∀ {Γ : List (Option Rs)}, Γ[3]? = some (some (.v S)) → Ev (sc K st l) (tOp (rIx K) (tVar 3) (tC (.int 0))) Γ .v (.int (s : Int)) := fun h => e_ixTv (ds := ((s : Int) :: 1 :: zr (v - 3)).map .int) (d_var (by rw [h, eS])) d_int (show atI (((s : Int) :: 1 :: zr (v - 3)).map PyData.int) ((0 : Nat) : Int) = _ from atI_nat rfl)
  have two : ∀ {Γ : List (Option Rs)} (a b : Int), Ev (sc K st l) (tTupN (tCons (tC (.int a)) (tCons (tC (.int b)) tNil))) Γ .v (tupD [a, b]) := fun a b => d_tup (ds := [a, b].map .int) (a_consV d_int (a_consV d_int a_nil)) (by simp)
  refine q_asgN (fun d => NoE d (R65 F v)) (n_ixLV (Q := fun i => 0 ≤ i ∧ i < 7) (e_lstV (ds := [tupD [1, (s : Int)], tupD [2, 1], tupD [0, 0], tupD [(v : Int), 0], tupD [1, -1], .list [.int 1, .int 0], .tuple [.int 1, .bool true, .int 0]])
    (a_consV (d_tup (ds := [1, (s : Int)].map .int) (a_consV d_int (a_consV (ix0 rfl) a_nil)) (by simp)) (a_consV (two 2 1) (a_consV (two 0 0) (a_consV (d_tup (ds := [(v : Int), 0].map .int) (a_consV (d_var rfl) (a_consV d_int a_nil)) (by simp)) (a_consV (d_tup (ds := [1, -1].map .int) (a_consV d_int (a_consV (e_neg d_int) a_nil)) (by simp)) (a_consV (e_lstV (a_consV d_int (a_consV d_int a_nil)) (by simp)) (a_consV (d_tup (a_consV d_int (a_consV d_bl (a_consV d_int a_nil))) (by simp)) a_nil))))))) (by simp)) (drw 7 (by decide) (by decide) rfl) (pick ⟨rfl, fun d hd => ?_⟩)) ?_
  · simp only [List.mem_cons, List.not_mem_nil, or_false] at hd
    rw [eF]
    exact noe68 h68 hd
  intro ne h3
  show Sd (sc K st l) _ [none, some (.r (.ref st)), some (.v (.int (v : Int))), some (.v S), some (.v (.tuple (F.map tupD))), some (.v (.list [.int (v : Int), .tuple (F.map tupD)])), some (.v (.list [nv, nf])), some (.v (.list (nmF2.map .str))), t8, some (.v ne), none, none, none, none] _
  refine q_no (EvT.to (t_not (t_B (EvN.det (n_call (st := st) (l := l) rfl rfl (a_cons d_int (a_cons (e_catS (d_var rfl) (e_lstV (ds := [.str "first", .str "second"]) (a_consV d_str (a_consV d_str a_nil)) (by simp)) (by simp [nmF2])) (a_cons (e_catS (d_var rfl) (e_lstV (ds := [tupD [1, 0], tupD [2, 0]]) (a_consV (two 1 0) (a_consV (two 2 0) a_nil)) (by simp)) (by simp)) (a_cons (e_catS (d_var rfl) (e_lstV (a_consV (d_var rfl) (a_consV (d_var rfl) a_nil)) (by simp)) (by simp)) a_nil))))
    ⟨4, nmF4, [.int (v : Int), .tuple (F.map tupD), tupD [1, 0], tupD [2, 0]], [nv, nf, ne, ne], rfl, ⟨_, _, .inl ⟨F, v, hf, .inr (.inl ⟨rfl, rfl, [1, 0], [2, 0], rfl, e1, e2, rfl⟩)⟩⟩, badF4 hf e1 h1 h2 h3, rfl, rfl⟩)))) rfl) ?_
  refine q_asg (d := .tuple ((L68 s v).map tupD)) (Ev.to (e_catT (d_tup (a_consV (e_tupRg (ix0 rfl) (by omega) (by omega)) (a_consV (d_tup (a_consV d_int a_nil) (by simp)) a_nil)) (by simp)) (e_repT (d_tup (a_consV (d_tup (ds := []) a_nil (by simp)) a_nil) (by simp)) (by simp) (d_sub (d_var rfl) d_int) (by omega) (by omega) (by simp)) (by rw [rep_flat]; simp; omega)) (by
    rw [rep_flat, show ((v : Int) - 3).toNat = v - 3 by omega, Int.toNat_natCast]
    unfold L68
    rw [List.map_append, List.map_replicate]
    rfl)) ?_
  show Sd (sc K st l) _ [none, some (.r (.ref st)), some (.v (.int (v : Int))), some (.v S), some (.v (.tuple (F.map tupD))), some (.v (.list [.int (v : Int), .tuple (F.map tupD)])), some (.v (.list [nv, nf])), some (.v (.list (nmF2.map .str))), t8, some (.v ne), some (.v (.tuple ((L68 s v).map tupD))), none, none, none] _
  have cutL : ∀ {Γ : List (Option Rs)}, Γ[10]? = some (some (.v (.tuple ((L68 s v).map tupD)))) → Ev (sc K st l) (tSl (rSlN K) (tVar 10) (tPart (tC (.int 1))) tNoPart) Γ .v (.tuple (((L68 s v).drop 1).map tupD)) := fun h => Ev.to (e_sl (d_var h) (o_some d_int) o_none) (by rw [show (some (1 : Int)) = some ((1 : Nat) : Int) from rfl, cutD_lo (by simp [L68]), List.map_drop])
  have ld : (((L68 s v).drop 1).map tupD).length ≤ 10 := by simp [L68]; omega
  refine q_asgN (fun d => SmL d ∧ alB d ((v : Int) - 1) 1001 = false) (n_ixLV (Q := fun i => 0 ≤ i ∧ i < 5) (e_lstV (ds := [.list ((L68 s v).map tupD), .tuple (((L68 s v).drop 1).map tupD), .tuple (tupD [0, 0] :: ((L68 s v).drop 1).map tupD), .tuple (tupD [-1] :: ((L68 s v).drop 1).map tupD), .tuple (tupD [1001] :: ((L68 s v).drop 1).map tupD)])
    (a_consV (Ev.frz (e_listT (d_var rfl) (fl_rows _))) (a_consV (cutL rfl) (a_consV (Ev.to (e_catT (d_tup (a_consV (two 0 0) a_nil) (by simp)) (cutL rfl) (by simp only [List.length_cons, List.length_nil]; omega)) rfl) (a_consV (Ev.to (e_catT (d_tup (a_consV (d_tup (ds := [-1].map .int) (a_consV (e_neg d_int) a_nil) (by simp)) a_nil) (by simp)) (cutL rfl) (by simp only [List.length_cons, List.length_nil]; omega)) rfl) (a_consV (Ev.to (e_catT (d_tup (a_consV (d_tup (ds := [1001].map .int) (a_consV d_int a_nil) (by simp)) a_nil) (by simp)) (cutL rfl) (by simp only [List.length_cons, List.length_nil]; omega)) rfl) a_nil))))) (by simp)) (drw 5 (by decide) (by decide) rfl) (pick ⟨rfl, fun d hd => ?_⟩)) ?_
  · simp only [List.mem_cons, List.not_mem_nil, or_false] at hd
    exact no68 s1 s3 v3 v5 hd
  intro nl h4
  show Sd (sc K st l) _ [none, some (.r (.ref st)), some (.v (.int (v : Int))), some (.v S), some (.v (.tuple (F.map tupD))), some (.v (.list [.int (v : Int), .tuple (F.map tupD)])), some (.v (.list [nv, nf])), some (.v (.list (nmF2.map .str))), t8, some (.v ne), some (.v (.tuple ((L68 s v).map tupD))), some (.v nl), none, none] _
  refine q_no (EvT.to (t_not (t_B (EvN.det (n_call (st := st) (l := l) rfl rfl (a_cons d_int (a_cons (e_catS (d_var rfl) (e_lstV (ds := [.str "lists"]) (a_consV d_str a_nil) (by simp)) (by simp [nmF2])) (a_cons (e_catS (d_var rfl) (e_lstV (a_consV (d_var rfl) a_nil) (by simp)) (by simp)) (a_cons (e_catS (d_var rfl) (e_lstV (a_consV (d_var rfl) a_nil) (by simp)) (by simp)) a_nil))))
    ⟨5, nmF3, [.int (v : Int), .tuple (F.map tupD), .tuple ((L68 s v).map tupD)], [nv, nf, nl], rfl, ⟨_, _, .inl ⟨F, v, hf, .inr (.inr (.inl ⟨rfl, rfl, L68 s v, rfl, l68_ok s3 v3 v5, rfl⟩))⟩⟩, badF3 hf h1 h2 h4, rfl, rfl⟩)))) rfl) ?_
  refine q_asgN (fun d => ∃ m : Int, d = .int m ∧ 0 ≤ m ∧ m ≤ 100) (n_ixLV (Q := fun i => 0 ≤ i ∧ i < 2) (e_lstV (ds := [.int 0, .int 100]) (a_consV d_int (a_consV d_int a_nil)) (by simp)) (drw 2 (by decide) (by decide) rfl) (pick ⟨rfl, fun d hd => ?_⟩)) ?_
  · simp only [List.mem_cons, List.not_mem_nil, or_false] at hd
    rcases hd with rfl | rfl <;> exact ⟨_, rfl, by decide, by decide⟩
  rintro _ ⟨m, rfl, m0, m1⟩
  show Sd (sc K st l) _ [none, some (.r (.ref st)), some (.v (.int (v : Int))), some (.v S), some (.v (.tuple (F.map tupD))), some (.v (.list [.int (v : Int), .tuple (F.map tupD)])), some (.v (.list [nv, nf])), some (.v (.list (nmF2.map .str))), t8, some (.v ne), some (.v (.tuple ((L68 s v).map tupD))), some (.v nl), some (.v (.int m)), none] _
  refine q_no (EvT.to (t_not (t_B (EvN.det (n_callP (k := .v) (P := fun d => d = .bool true) (st := st) (l := l) rfl rfl (ap_cons d_int (ap_cons (e_catS (d_var rfl) (e_lstV (ds := [.str "few"]) (a_consV d_str a_nil) (by simp)) (by simp [nmF2])) (ap_cons (e_catS (d_var rfl) (e_lstV (a_consV (d_var rfl) a_nil) (by simp)) (by simp)) (ap_consN (n_catS (d_var rfl) (n_lstVN (an_cons (n_ixLV (P := fun d => isIntD d 0 100 = false) (Q := fun i => 0 ≤ i ∧ i < 3) (e_lstV (ds := [.int (-1), .int 101, .bool true]) (a_consV (e_neg d_int) (a_consV d_int (a_consV d_bl a_nil))) (by simp)) (drw 3 (by decide) (by decide) rfl) (pick ⟨rfl, by decide⟩)) an_nil) (fun ds h => by obtain ⟨_, _, rfl, _, rfl⟩ := h; simp)) (fun es h => by obtain ⟨_, _, rfl, _, rfl⟩ := h; simp)) ap_nil))))
    (fun ds hd => by
      obtain ⟨_, rfl, _, rfl, _, rfl, _, _, rfl, ⟨_, rfl, nn, _, rfl, h5, rfl⟩, rfl⟩ := hd
      exact ⟨6, nmFw, [.int (v : Int), .tuple (F.map tupD), .int m], [nv, nf, nn], rfl, ⟨_, _, .inl ⟨F, v, hf, .inr (.inr (.inr ⟨rfl, rfl, m, rfl, h9, m0, m1, rfl⟩))⟩⟩, badFw hf h1 h2 h5, rfl, rfl⟩))))) rfl) ?_
  refine q_asgN (fun d => isIntD d 0 20 = false) (n_ixLV (Q := fun i => 0 ≤ i ∧ i < 4) (e_lstV (ds := [.int (-1), .int 21, .bool true, .none]) (a_consV (e_neg d_int) (a_consV d_int (a_consV d_bl (a_consV d_non a_nil)))) (by simp)) (drw 4 (by decide) (by decide) rfl) (pick ⟨rfl, by decide⟩)) ?_
  intro nt h6
  refine q_for (i_seqL (e_lstV (ds := [.int 7, .int 8]) (a_consV d_int (a_consV d_int a_nil)) (by simp)) kv_ne) (fun n Γ1 => ∃ t8, Γ1 = [none, some (.r (.ref st)), some (.v (.int (v : Int))), some (.v S), some (.v (.tuple (F.map tupD))), some (.v (.list [.int (v : Int), .tuple (F.map tupD)])), some (.v (.list [nv, nf])), some (.v (.list (nmF2.map .str))), t8, some (.v ne), some (.v (.tuple ((L68 s v).map tupD))), some (.v nl), some (.v (.int m)), some (.v nt)]) ⟨_, rfl⟩ (fun n a Γ1 hn' hI => ?_) (fun Γ1 hI => ?_)
  · obtain ⟨t8, rfl⟩ := hI
    obtain ⟨w, rfl, h7, h8⟩ : ∃ w : Nat, a = .d (.int (w : Int)) ∧ 7 ≤ w ∧ w ≤ 8 := by
      match n, hn' with
      | 0, h => exact ⟨7, (Option.some.inj h).symm, by decide, by decide⟩
      | 1, h => exact ⟨8, (Option.some.inj h).symm, by decide, by decide⟩
    have ask : ∃ kk dd, AskP68 w [.int (v : Int), .int 20] kk dd := by
      rcases (show w = 7 ∨ w = 8 by omega) with rfl | rfl
      · exact ⟨_, _, .inr ⟨v, 20, rfl, v1', v5, by decide, rfl, .inl ⟨rfl, rfl⟩⟩⟩
      · exact ⟨_, _, .inr ⟨v, 20, rfl, v1', v5, by decide, rfl, .inr ⟨rfl, rfl⟩⟩⟩
    exact ⟨_, _, g_name, s_if (a := false) (EvT.to (t_not (t_B (EvN.det (n_call (st := st) (l := l) rfl rfl (a_cons (d_var rfl) (a_cons (e_lstV (ds := [.str "variants", .str "total"]) (a_consV d_str (a_consV d_str a_nil)) (by simp)) (a_cons (e_lstV (ds := [.int (v : Int), .int 20]) (a_consV (d_var rfl) (a_consV d_int a_nil)) (by simp)) (a_cons (e_lstV (a_consV (e_ixLv (d_var rfl) d_int rfl) (a_consV (d_var rfl) a_nil)) (by simp)) a_nil)))) ⟨w, nmSu, [.int (v : Int), .int 20], [nv, nt], rfl, ask, badSu h7 h8 v1' v5 h1 h6, rfl, rfl⟩)))) rfl) (fun z => nomatch z) fun _ => s_next (.inl ⟨_, .inl rfl, _, rfl⟩)⟩
  obtain ⟨t8, rfl⟩ := hI
  exact s_ret (d_bl (a := true)) (.inr ⟨rfl, rfl⟩) rfl

end W

namespace W
open PySem PySem.Spec PyProof.Rows L2 Lm
theorem all_mk {l : PySem.W.OpenLaw} {w : World} {K : PySem.W.Frag} {h : Heap} {mg : Str → Option Value} {fa : Addr} (X : K.In h) (G : h.Ns mainGlobals mg) (hfa : mg "law" = some (.ref fa))
    {od_is_integer an_is_integer : Option Addr} {sl_is_integer : Array (Option Value)} {oc_is_integer kV_is_integer dc_is_integer pm_is_integer cd_is_integer ct_is_integer : Value} {f_is_integer : Addr}
    (a_is_integer : PySem.W.nsIn K mainGlobals "is_integer" = some (some (.ref f_is_integer))) (l_is_integer : K.lookup f_is_integer = some ⟨oc_is_integer, od_is_integer, .func (PySem.W.fnOf "is_integer" "is_integer" (defArgs s_is_integer) (defBody s_is_integer) (defScope s_is_integer) .none kV_is_integer dc_is_integer pm_is_integer an_is_integer cd_is_integer ct_is_integer), sl_is_integer⟩) (o_is_integer : PySem.W.codeIn K cd_is_integer "is_integer" = true) (k_is_integer : PySem.W.keepIn K (.ref f_is_integer) = true)
    {od_are_integers an_are_integers : Option Addr} {sl_are_integers : Array (Option Value)} {oc_are_integers kV_are_integers dc_are_integers pm_are_integers cd_are_integers ct_are_integers : Value} {f_are_integers : Addr}
    (a_are_integers : PySem.W.nsIn K mainGlobals "are_integers" = some (some (.ref f_are_integers))) (l_are_integers : K.lookup f_are_integers = some ⟨oc_are_integers, od_are_integers, .func (PySem.W.fnOf "are_integers" "are_integers" (defArgs s_are_integers) (defBody s_are_integers) (defScope s_are_integers) .none kV_are_integers dc_are_integers pm_are_integers an_are_integers cd_are_integers ct_are_integers), sl_are_integers⟩) (o_are_integers : PySem.W.codeIn K cd_are_integers "are_integers" = true) (k_are_integers : PySem.W.keepIn K (.ref f_are_integers) = true)
    {od_require an_require : Option Addr} {sl_require : Array (Option Value)} {oc_require kV_require dc_require pm_require cd_require ct_require : Value} {f_require : Addr}
    (a_require : PySem.W.nsIn K mainGlobals "require" = some (some (.ref f_require))) (l_require : K.lookup f_require = some ⟨oc_require, od_require, .func (PySem.W.fnOf "require" "require" (defArgs s_require) (defBody s_require) (defScope s_require) .none kV_require dc_require pm_require an_require cd_require ct_require), sl_require⟩) (o_require : PySem.W.codeIn K cd_require "require" = true) (k_require : PySem.W.keepIn K (.ref f_require) = true)
    {od_check_variants an_check_variants : Option Addr} {sl_check_variants : Array (Option Value)} {oc_check_variants kV_check_variants dc_check_variants pm_check_variants cd_check_variants ct_check_variants : Value} {f_check_variants : Addr}
    (a_check_variants : PySem.W.nsIn K mainGlobals "check_variants" = some (some (.ref f_check_variants))) (l_check_variants : K.lookup f_check_variants = some ⟨oc_check_variants, od_check_variants, .func (PySem.W.fnOf "check_variants" "check_variants" (defArgs s_check_variants) (defBody s_check_variants) (defScope s_check_variants) .none kV_check_variants dc_check_variants pm_check_variants an_check_variants cd_check_variants ct_check_variants), sl_check_variants⟩) (o_check_variants : PySem.W.codeIn K cd_check_variants "check_variants" = true) (k_check_variants : PySem.W.keepIn K (.ref f_check_variants) = true)
    {od_are_lists an_are_lists : Option Addr} {sl_are_lists : Array (Option Value)} {oc_are_lists kV_are_lists dc_are_lists pm_are_lists cd_are_lists ct_are_lists : Value} {f_are_lists : Addr}
    (a_are_lists : PySem.W.nsIn K mainGlobals "are_lists" = some (some (.ref f_are_lists))) (l_are_lists : K.lookup f_are_lists = some ⟨oc_are_lists, od_are_lists, .func (PySem.W.fnOf "are_lists" "are_lists" (defArgs s_are_lists) (defBody s_are_lists) (defScope s_are_lists) .none kV_are_lists dc_are_lists pm_are_lists an_are_lists cd_are_lists ct_are_lists), sl_are_lists⟩) (o_are_lists : PySem.W.codeIn K cd_are_lists "are_lists" = true) (k_are_lists : PySem.W.keepIn K (.ref f_are_lists) = true)
    {od_is_tuple_of_shares an_is_tuple_of_shares : Option Addr} {sl_is_tuple_of_shares : Array (Option Value)} {oc_is_tuple_of_shares kV_is_tuple_of_shares dc_is_tuple_of_shares pm_is_tuple_of_shares cd_is_tuple_of_shares ct_is_tuple_of_shares : Value} {f_is_tuple_of_shares : Addr}
    (a_is_tuple_of_shares : PySem.W.nsIn K mainGlobals "is_tuple_of_shares" = some (some (.ref f_is_tuple_of_shares))) (l_is_tuple_of_shares : K.lookup f_is_tuple_of_shares = some ⟨oc_is_tuple_of_shares, od_is_tuple_of_shares, .func (PySem.W.fnOf "is_tuple_of_shares" "is_tuple_of_shares" (defArgs s_is_tuple_of_shares) (defBody s_is_tuple_of_shares) (defScope s_is_tuple_of_shares) .none kV_is_tuple_of_shares dc_is_tuple_of_shares pm_is_tuple_of_shares an_is_tuple_of_shares cd_is_tuple_of_shares ct_is_tuple_of_shares), sl_is_tuple_of_shares⟩) (o_is_tuple_of_shares : PySem.W.codeIn K cd_is_tuple_of_shares "is_tuple_of_shares" = true) (k_is_tuple_of_shares : PySem.W.keepIn K (.ref f_is_tuple_of_shares) = true)
    {od_is_family an_is_family : Option Addr} {sl_is_family : Array (Option Value)} {oc_is_family kV_is_family dc_is_family pm_is_family cd_is_family ct_is_family : Value} {f_is_family : Addr}
    (a_is_family : PySem.W.nsIn K mainGlobals "is_family" = some (some (.ref f_is_family))) (l_is_family : K.lookup f_is_family = some ⟨oc_is_family, od_is_family, .func (PySem.W.fnOf "is_family" "is_family" (defArgs s_is_family) (defBody s_is_family) (defScope s_is_family) .none kV_is_family dc_is_family pm_is_family an_is_family cd_is_family ct_is_family), sl_is_family⟩) (o_is_family : PySem.W.codeIn K cd_is_family "is_family" = true) (k_is_family : PySem.W.keepIn K (.ref f_is_family) = true)
    {od_check_family an_check_family : Option Addr} {sl_check_family : Array (Option Value)} {oc_check_family kV_check_family dc_check_family pm_check_family cd_check_family ct_check_family : Value} {f_check_family : Addr}
    (a_check_family : PySem.W.nsIn K mainGlobals "check_family" = some (some (.ref f_check_family))) (l_check_family : K.lookup f_check_family = some ⟨oc_check_family, od_check_family, .func (PySem.W.fnOf "check_family" "check_family" (defArgs s_check_family) (defBody s_check_family) (defScope s_check_family) .none kV_check_family dc_check_family pm_check_family an_check_family cd_check_family ct_check_family), sl_check_family⟩) (o_check_family : PySem.W.codeIn K cd_check_family "check_family" = true) (k_check_family : PySem.W.keepIn K (.ref f_check_family) = true)
    {od_greatest_shares an_greatest_shares : Option Addr} {sl_greatest_shares : Array (Option Value)} {oc_greatest_shares kV_greatest_shares dc_greatest_shares pm_greatest_shares cd_greatest_shares ct_greatest_shares : Value} {f_greatest_shares : Addr}
    (a_greatest_shares : PySem.W.nsIn K mainGlobals "greatest_shares" = some (some (.ref f_greatest_shares))) (l_greatest_shares : K.lookup f_greatest_shares = some ⟨oc_greatest_shares, od_greatest_shares, .func (PySem.W.fnOf "greatest_shares" "greatest_shares" (defArgs s_greatest_shares) (defBody s_greatest_shares) (defScope s_greatest_shares) .none kV_greatest_shares dc_greatest_shares pm_greatest_shares an_greatest_shares cd_greatest_shares ct_greatest_shares), sl_greatest_shares⟩) (o_greatest_shares : PySem.W.codeIn K cd_greatest_shares "greatest_shares" = true) (k_greatest_shares : PySem.W.keepIn K (.ref f_greatest_shares) = true)
    {od_entries_below an_entries_below : Option Addr} {sl_entries_below : Array (Option Value)} {oc_entries_below kV_entries_below dc_entries_below pm_entries_below cd_entries_below ct_entries_below : Value} {f_entries_below : Addr}
    (a_entries_below : PySem.W.nsIn K mainGlobals "entries_below" = some (some (.ref f_entries_below))) (l_entries_below : K.lookup f_entries_below = some ⟨oc_entries_below, od_entries_below, .func (PySem.W.fnOf "entries_below" "entries_below" (defArgs s_entries_below) (defBody s_entries_below) (defScope s_entries_below) .none kV_entries_below dc_entries_below pm_entries_below an_entries_below cd_entries_below ct_entries_below), sl_entries_below⟩) (o_entries_below : PySem.W.codeIn K cd_entries_below "entries_below" = true) (k_entries_below : PySem.W.keepIn K (.ref f_entries_below) = true)
    {od_entries an_entries : Option Addr} {sl_entries : Array (Option Value)} {oc_entries kV_entries dc_entries pm_entries cd_entries ct_entries : Value} {f_entries : Addr}
    (a_entries : PySem.W.nsIn K mainGlobals "entries" = some (some (.ref f_entries))) (l_entries : K.lookup f_entries = some ⟨oc_entries, od_entries, .func (PySem.W.fnOf "entries" "entries" (defArgs s_entries) (defBody s_entries) (defScope s_entries) .none kV_entries dc_entries pm_entries an_entries cd_entries ct_entries), sl_entries⟩) (o_entries : PySem.W.codeIn K cd_entries "entries" = true) (k_entries : PySem.W.keepIn K (.ref f_entries) = true)
    {od_is_entry an_is_entry : Option Addr} {sl_is_entry : Array (Option Value)} {oc_is_entry kV_is_entry dc_is_entry pm_is_entry cd_is_entry ct_is_entry : Value} {f_is_entry : Addr}
    (a_is_entry : PySem.W.nsIn K mainGlobals "is_entry" = some (some (.ref f_is_entry))) (l_is_entry : K.lookup f_is_entry = some ⟨oc_is_entry, od_is_entry, .func (PySem.W.fnOf "is_entry" "is_entry" (defArgs s_is_entry) (defBody s_is_entry) (defScope s_is_entry) .none kV_is_entry dc_is_entry pm_is_entry an_is_entry cd_is_entry ct_is_entry), sl_is_entry⟩) (o_is_entry : PySem.W.codeIn K cd_is_entry "is_entry" = true) (k_is_entry : PySem.W.keepIn K (.ref f_is_entry) = true)
    {od_is_used an_is_used : Option Addr} {sl_is_used : Array (Option Value)} {oc_is_used kV_is_used dc_is_used pm_is_used cd_is_used ct_is_used : Value} {f_is_used : Addr}
    (a_is_used : PySem.W.nsIn K mainGlobals "is_used" = some (some (.ref f_is_used))) (l_is_used : K.lookup f_is_used = some ⟨oc_is_used, od_is_used, .func (PySem.W.fnOf "is_used" "is_used" (defArgs s_is_used) (defBody s_is_used) (defScope s_is_used) .none kV_is_used dc_is_used pm_is_used an_is_used cd_is_used ct_is_used), sl_is_used⟩) (o_is_used : PySem.W.codeIn K cd_is_used "is_used" = true) (k_is_used : PySem.W.keepIn K (.ref f_is_used) = true)
    {od_are_together an_are_together : Option Addr} {sl_are_together : Array (Option Value)} {oc_are_together kV_are_together dc_are_together pm_are_together cd_are_together ct_are_together : Value} {f_are_together : Addr}
    (a_are_together : PySem.W.nsIn K mainGlobals "are_together" = some (some (.ref f_are_together))) (l_are_together : K.lookup f_are_together = some ⟨oc_are_together, od_are_together, .func (PySem.W.fnOf "are_together" "are_together" (defArgs s_are_together) (defBody s_are_together) (defScope s_are_together) .none kV_are_together dc_are_together pm_are_together an_are_together cd_are_together ct_are_together), sl_are_together⟩) (o_are_together : PySem.W.codeIn K cd_are_together "are_together" = true) (k_are_together : PySem.W.keepIn K (.ref f_are_together) = true)
    {od_coexist an_coexist : Option Addr} {sl_coexist : Array (Option Value)} {oc_coexist kV_coexist dc_coexist pm_coexist cd_coexist ct_coexist : Value} {f_coexist : Addr}
    (a_coexist : PySem.W.nsIn K mainGlobals "coexist" = some (some (.ref f_coexist))) (l_coexist : K.lookup f_coexist = some ⟨oc_coexist, od_coexist, .func (PySem.W.fnOf "coexist" "coexist" (defArgs s_coexist) (defBody s_coexist) (defScope s_coexist) .none kV_coexist dc_coexist pm_coexist an_coexist cd_coexist ct_coexist), sl_coexist⟩) (o_coexist : PySem.W.codeIn K cd_coexist "coexist" = true) (k_coexist : PySem.W.keepIn K (.ref f_coexist) = true)
    {od_all_heights an_all_heights : Option Addr} {sl_all_heights : Array (Option Value)} {oc_all_heights kV_all_heights dc_all_heights pm_all_heights cd_all_heights ct_all_heights : Value} {f_all_heights : Addr}
    (a_all_heights : PySem.W.nsIn K mainGlobals "all_heights" = some (some (.ref f_all_heights))) (l_all_heights : K.lookup f_all_heights = some ⟨oc_all_heights, od_all_heights, .func (PySem.W.fnOf "all_heights" "all_heights" (defArgs s_all_heights) (defBody s_all_heights) (defScope s_all_heights) .none kV_all_heights dc_all_heights pm_all_heights an_all_heights cd_all_heights ct_all_heights), sl_all_heights⟩) (o_all_heights : PySem.W.codeIn K cd_all_heights "all_heights" = true) (k_all_heights : PySem.W.keepIn K (.ref f_all_heights) = true)
    {od_is_clique an_is_clique : Option Addr} {sl_is_clique : Array (Option Value)} {oc_is_clique kV_is_clique dc_is_clique pm_is_clique cd_is_clique ct_is_clique : Value} {f_is_clique : Addr}
    (a_is_clique : PySem.W.nsIn K mainGlobals "is_clique" = some (some (.ref f_is_clique))) (l_is_clique : K.lookup f_is_clique = some ⟨oc_is_clique, od_is_clique, .func (PySem.W.fnOf "is_clique" "is_clique" (defArgs s_is_clique) (defBody s_is_clique) (defScope s_is_clique) .none kV_is_clique dc_is_clique pm_is_clique an_is_clique cd_is_clique ct_is_clique), sl_is_clique⟩) (o_is_clique : PySem.W.codeIn K cd_is_clique "is_clique" = true) (k_is_clique : PySem.W.keepIn K (.ref f_is_clique) = true)
    {od_greatest_clique an_greatest_clique : Option Addr} {sl_greatest_clique : Array (Option Value)} {oc_greatest_clique kV_greatest_clique dc_greatest_clique pm_greatest_clique cd_greatest_clique ct_greatest_clique : Value} {f_greatest_clique : Addr}
    (a_greatest_clique : PySem.W.nsIn K mainGlobals "greatest_clique" = some (some (.ref f_greatest_clique))) (l_greatest_clique : K.lookup f_greatest_clique = some ⟨oc_greatest_clique, od_greatest_clique, .func (PySem.W.fnOf "greatest_clique" "greatest_clique" (defArgs s_greatest_clique) (defBody s_greatest_clique) (defScope s_greatest_clique) .none kV_greatest_clique dc_greatest_clique pm_greatest_clique an_greatest_clique cd_greatest_clique ct_greatest_clique), sl_greatest_clique⟩) (o_greatest_clique : PySem.W.codeIn K cd_greatest_clique "greatest_clique" = true) (k_greatest_clique : PySem.W.keepIn K (.ref f_greatest_clique) = true)
    {od_first_fault an_first_fault : Option Addr} {sl_first_fault : Array (Option Value)} {oc_first_fault kV_first_fault dc_first_fault pm_first_fault cd_first_fault ct_first_fault : Value} {f_first_fault : Addr}
    (a_first_fault : PySem.W.nsIn K mainGlobals "first_fault" = some (some (.ref f_first_fault))) (l_first_fault : K.lookup f_first_fault = some ⟨oc_first_fault, od_first_fault, .func (PySem.W.fnOf "first_fault" "first_fault" (defArgs s_first_fault) (defBody s_first_fault) (defScope s_first_fault) .none kV_first_fault dc_first_fault pm_first_fault an_first_fault cd_first_fault ct_first_fault), sl_first_fault⟩) (o_first_fault : PySem.W.codeIn K cd_first_fault "first_fault" = true) (k_first_fault : PySem.W.keepIn K (.ref f_first_fault) = true)
    {od_fault an_fault : Option Addr} {sl_fault : Array (Option Value)} {oc_fault kV_fault dc_fault pm_fault cd_fault ct_fault : Value} {f_fault : Addr}
    (a_fault : PySem.W.nsIn K mainGlobals "fault" = some (some (.ref f_fault))) (l_fault : K.lookup f_fault = some ⟨oc_fault, od_fault, .func (PySem.W.fnOf "fault" "fault" (defArgs s_fault) (defBody s_fault) (defScope s_fault) .none kV_fault dc_fault pm_fault an_fault cd_fault ct_fault), sl_fault⟩) (o_fault : PySem.W.codeIn K cd_fault "fault" = true) (k_fault : PySem.W.keepIn K (.ref f_fault) = true)
    {od_bits_of an_bits_of : Option Addr} {sl_bits_of : Array (Option Value)} {oc_bits_of kV_bits_of dc_bits_of pm_bits_of cd_bits_of ct_bits_of : Value} {f_bits_of : Addr}
    (a_bits_of : PySem.W.nsIn K mainGlobals "bits_of" = some (some (.ref f_bits_of))) (l_bits_of : K.lookup f_bits_of = some ⟨oc_bits_of, od_bits_of, .func (PySem.W.fnOf "bits_of" "bits_of" (defArgs s_bits_of) (defBody s_bits_of) (defScope s_bits_of) .none kV_bits_of dc_bits_of pm_bits_of an_bits_of cd_bits_of ct_bits_of), sl_bits_of⟩) (o_bits_of : PySem.W.codeIn K cd_bits_of "bits_of" = true) (k_bits_of : PySem.W.keepIn K (.ref f_bits_of) = true)
    {od_known_at_root an_known_at_root : Option Addr} {sl_known_at_root : Array (Option Value)} {oc_known_at_root kV_known_at_root dc_known_at_root pm_known_at_root cd_known_at_root ct_known_at_root : Value} {f_known_at_root : Addr}
    (a_known_at_root : PySem.W.nsIn K mainGlobals "known_at_root" = some (some (.ref f_known_at_root))) (l_known_at_root : K.lookup f_known_at_root = some ⟨oc_known_at_root, od_known_at_root, .func (PySem.W.fnOf "known_at_root" "known_at_root" (defArgs s_known_at_root) (defBody s_known_at_root) (defScope s_known_at_root) .none kV_known_at_root dc_known_at_root pm_known_at_root an_known_at_root cd_known_at_root ct_known_at_root), sl_known_at_root⟩) (o_known_at_root : PySem.W.codeIn K cd_known_at_root "known_at_root" = true) (k_known_at_root : PySem.W.keepIn K (.ref f_known_at_root) = true)
    {od_known_unlike an_known_unlike : Option Addr} {sl_known_unlike : Array (Option Value)} {oc_known_unlike kV_known_unlike dc_known_unlike pm_known_unlike cd_known_unlike ct_known_unlike : Value} {f_known_unlike : Addr}
    (a_known_unlike : PySem.W.nsIn K mainGlobals "known_unlike" = some (some (.ref f_known_unlike))) (l_known_unlike : K.lookup f_known_unlike = some ⟨oc_known_unlike, od_known_unlike, .func (PySem.W.fnOf "known_unlike" "known_unlike" (defArgs s_known_unlike) (defBody s_known_unlike) (defScope s_known_unlike) .none kV_known_unlike dc_known_unlike pm_known_unlike an_known_unlike cd_known_unlike ct_known_unlike), sl_known_unlike⟩) (o_known_unlike : PySem.W.codeIn K cd_known_unlike "known_unlike" = true) (k_known_unlike : PySem.W.keepIn K (.ref f_known_unlike) = true)
    {od_known_alike an_known_alike : Option Addr} {sl_known_alike : Array (Option Value)} {oc_known_alike kV_known_alike dc_known_alike pm_known_alike cd_known_alike ct_known_alike : Value} {f_known_alike : Addr}
    (a_known_alike : PySem.W.nsIn K mainGlobals "known_alike" = some (some (.ref f_known_alike))) (l_known_alike : K.lookup f_known_alike = some ⟨oc_known_alike, od_known_alike, .func (PySem.W.fnOf "known_alike" "known_alike" (defArgs s_known_alike) (defBody s_known_alike) (defScope s_known_alike) .none kV_known_alike dc_known_alike pm_known_alike an_known_alike cd_known_alike ct_known_alike), sl_known_alike⟩) (o_known_alike : PySem.W.codeIn K cd_known_alike "known_alike" = true) (k_known_alike : PySem.W.keepIn K (.ref f_known_alike) = true)
    {od_is_right_clique an_is_right_clique : Option Addr} {sl_is_right_clique : Array (Option Value)} {oc_is_right_clique kV_is_right_clique dc_is_right_clique pm_is_right_clique cd_is_right_clique ct_is_right_clique : Value} {f_is_right_clique : Addr}
    (a_is_right_clique : PySem.W.nsIn K mainGlobals "is_right_clique" = some (some (.ref f_is_right_clique))) (l_is_right_clique : K.lookup f_is_right_clique = some ⟨oc_is_right_clique, od_is_right_clique, .func (PySem.W.fnOf "is_right_clique" "is_right_clique" (defArgs s_is_right_clique) (defBody s_is_right_clique) (defScope s_is_right_clique) .none kV_is_right_clique dc_is_right_clique pm_is_right_clique an_is_right_clique cd_is_right_clique ct_is_right_clique), sl_is_right_clique⟩) (o_is_right_clique : PySem.W.codeIn K cd_is_right_clique "is_right_clique" = true) (k_is_right_clique : PySem.W.keepIn K (.ref f_is_right_clique) = true)
    {od_is_right_fork an_is_right_fork : Option Addr} {sl_is_right_fork : Array (Option Value)} {oc_is_right_fork kV_is_right_fork dc_is_right_fork pm_is_right_fork cd_is_right_fork ct_is_right_fork : Value} {f_is_right_fork : Addr}
    (a_is_right_fork : PySem.W.nsIn K mainGlobals "is_right_fork" = some (some (.ref f_is_right_fork))) (l_is_right_fork : K.lookup f_is_right_fork = some ⟨oc_is_right_fork, od_is_right_fork, .func (PySem.W.fnOf "is_right_fork" "is_right_fork" (defArgs s_is_right_fork) (defBody s_is_right_fork) (defScope s_is_right_fork) .none kV_is_right_fork dc_is_right_fork pm_is_right_fork an_is_right_fork cd_is_right_fork ct_is_right_fork), sl_is_right_fork⟩) (o_is_right_fork : PySem.W.codeIn K cd_is_right_fork "is_right_fork" = true) (k_is_right_fork : PySem.W.keepIn K (.ref f_is_right_fork) = true)
    {od_cases_after an_cases_after : Option Addr} {sl_cases_after : Array (Option Value)} {oc_cases_after kV_cases_after dc_cases_after pm_cases_after cd_cases_after ct_cases_after : Value} {f_cases_after : Addr}
    (a_cases_after : PySem.W.nsIn K mainGlobals "cases_after" = some (some (.ref f_cases_after))) (l_cases_after : K.lookup f_cases_after = some ⟨oc_cases_after, od_cases_after, .func (PySem.W.fnOf "cases_after" "cases_after" (defArgs s_cases_after) (defBody s_cases_after) (defScope s_cases_after) .none kV_cases_after dc_cases_after pm_cases_after an_cases_after cd_cases_after ct_cases_after), sl_cases_after⟩) (o_cases_after : PySem.W.codeIn K cd_cases_after "cases_after" = true) (k_cases_after : PySem.W.keepIn K (.ref f_cases_after) = true)
    {od_is_right_tree an_is_right_tree : Option Addr} {sl_is_right_tree : Array (Option Value)} {oc_is_right_tree kV_is_right_tree dc_is_right_tree pm_is_right_tree cd_is_right_tree ct_is_right_tree : Value} {f_is_right_tree : Addr}
    (a_is_right_tree : PySem.W.nsIn K mainGlobals "is_right_tree" = some (some (.ref f_is_right_tree))) (l_is_right_tree : K.lookup f_is_right_tree = some ⟨oc_is_right_tree, od_is_right_tree, .func (PySem.W.fnOf "is_right_tree" "is_right_tree" (defArgs s_is_right_tree) (defBody s_is_right_tree) (defScope s_is_right_tree) .none kV_is_right_tree dc_is_right_tree pm_is_right_tree an_is_right_tree cd_is_right_tree ct_is_right_tree), sl_is_right_tree⟩) (o_is_right_tree : PySem.W.codeIn K cd_is_right_tree "is_right_tree" = true) (k_is_right_tree : PySem.W.keepIn K (.ref f_is_right_tree) = true)
    {od_first_buckets an_first_buckets : Option Addr} {sl_first_buckets : Array (Option Value)} {oc_first_buckets kV_first_buckets dc_first_buckets pm_first_buckets cd_first_buckets ct_first_buckets : Value} {f_first_buckets : Addr}
    (a_first_buckets : PySem.W.nsIn K mainGlobals "first_buckets" = some (some (.ref f_first_buckets))) (l_first_buckets : K.lookup f_first_buckets = some ⟨oc_first_buckets, od_first_buckets, .func (PySem.W.fnOf "first_buckets" "first_buckets" (defArgs s_first_buckets) (defBody s_first_buckets) (defScope s_first_buckets) .none kV_first_buckets dc_first_buckets pm_first_buckets an_first_buckets cd_first_buckets ct_first_buckets), sl_first_buckets⟩) (o_first_buckets : PySem.W.codeIn K cd_first_buckets "first_buckets" = true) (k_first_buckets : PySem.W.keepIn K (.ref f_first_buckets) = true)
    {od_earlier_neighbours an_earlier_neighbours : Option Addr} {sl_earlier_neighbours : Array (Option Value)} {oc_earlier_neighbours kV_earlier_neighbours dc_earlier_neighbours pm_earlier_neighbours cd_earlier_neighbours ct_earlier_neighbours : Value} {f_earlier_neighbours : Addr}
    (a_earlier_neighbours : PySem.W.nsIn K mainGlobals "earlier_neighbours" = some (some (.ref f_earlier_neighbours))) (l_earlier_neighbours : K.lookup f_earlier_neighbours = some ⟨oc_earlier_neighbours, od_earlier_neighbours, .func (PySem.W.fnOf "earlier_neighbours" "earlier_neighbours" (defArgs s_earlier_neighbours) (defBody s_earlier_neighbours) (defScope s_earlier_neighbours) .none kV_earlier_neighbours dc_earlier_neighbours pm_earlier_neighbours an_earlier_neighbours cd_earlier_neighbours ct_earlier_neighbours), sl_earlier_neighbours⟩) (o_earlier_neighbours : PySem.W.codeIn K cd_earlier_neighbours "earlier_neighbours" = true) (k_earlier_neighbours : PySem.W.keepIn K (.ref f_earlier_neighbours) = true)
    {od_parted an_parted : Option Addr} {sl_parted : Array (Option Value)} {oc_parted kV_parted dc_parted pm_parted cd_parted ct_parted : Value} {f_parted : Addr}
    (a_parted : PySem.W.nsIn K mainGlobals "parted" = some (some (.ref f_parted))) (l_parted : K.lookup f_parted = some ⟨oc_parted, od_parted, .func (PySem.W.fnOf "parted" "parted" (defArgs s_parted) (defBody s_parted) (defScope s_parted) .none kV_parted dc_parted pm_parted an_parted cd_parted ct_parted), sl_parted⟩) (o_parted : PySem.W.codeIn K cd_parted "parted" = true) (k_parted : PySem.W.keepIn K (.ref f_parted) = true)
    {od_fewest an_fewest : Option Addr} {sl_fewest : Array (Option Value)} {oc_fewest kV_fewest dc_fewest pm_fewest cd_fewest ct_fewest : Value} {f_fewest : Addr}
    (a_fewest : PySem.W.nsIn K mainGlobals "fewest" = some (some (.ref f_fewest))) (l_fewest : K.lookup f_fewest = some ⟨oc_fewest, od_fewest, .func (PySem.W.fnOf "fewest" "fewest" (defArgs s_fewest) (defBody s_fewest) (defScope s_fewest) .none kV_fewest dc_fewest pm_fewest an_fewest cd_fewest ct_fewest), sl_fewest⟩) (o_fewest : PySem.W.codeIn K cd_fewest "fewest" = true) (k_fewest : PySem.W.keepIn K (.ref f_fewest) = true)
    {od_accepts_few an_accepts_few : Option Addr} {sl_accepts_few : Array (Option Value)} {oc_accepts_few kV_accepts_few dc_accepts_few pm_accepts_few cd_accepts_few ct_accepts_few : Value} {f_accepts_few : Addr}
    (a_accepts_few : PySem.W.nsIn K mainGlobals "accepts_few" = some (some (.ref f_accepts_few))) (l_accepts_few : K.lookup f_accepts_few = some ⟨oc_accepts_few, od_accepts_few, .func (PySem.W.fnOf "accepts_few" "accepts_few" (defArgs s_accepts_few) (defBody s_accepts_few) (defScope s_accepts_few) .none kV_accepts_few dc_accepts_few pm_accepts_few an_accepts_few cd_accepts_few ct_accepts_few), sl_accepts_few⟩) (o_accepts_few : PySem.W.codeIn K cd_accepts_few "accepts_few" = true) (k_accepts_few : PySem.W.keepIn K (.ref f_accepts_few) = true)
    {od_accepts_fewest an_accepts_fewest : Option Addr} {sl_accepts_fewest : Array (Option Value)} {oc_accepts_fewest kV_accepts_fewest dc_accepts_fewest pm_accepts_fewest cd_accepts_fewest ct_accepts_fewest : Value} {f_accepts_fewest : Addr}
    (a_accepts_fewest : PySem.W.nsIn K mainGlobals "accepts_fewest" = some (some (.ref f_accepts_fewest))) (l_accepts_fewest : K.lookup f_accepts_fewest = some ⟨oc_accepts_fewest, od_accepts_fewest, .func (PySem.W.fnOf "accepts_fewest" "accepts_fewest" (defArgs s_accepts_fewest) (defBody s_accepts_fewest) (defScope s_accepts_fewest) .none kV_accepts_fewest dc_accepts_fewest pm_accepts_fewest an_accepts_fewest cd_accepts_fewest ct_accepts_fewest), sl_accepts_fewest⟩) (o_accepts_fewest : PySem.W.codeIn K cd_accepts_fewest "accepts_fewest" = true) (k_accepts_fewest : PySem.W.keepIn K (.ref f_accepts_fewest) = true)
    {od_check_sum an_check_sum : Option Addr} {sl_check_sum : Array (Option Value)} {oc_check_sum kV_check_sum dc_check_sum pm_check_sum cd_check_sum ct_check_sum : Value} {f_check_sum : Addr}
    (a_check_sum : PySem.W.nsIn K mainGlobals "check_sum" = some (some (.ref f_check_sum))) (l_check_sum : K.lookup f_check_sum = some ⟨oc_check_sum, od_check_sum, .func (PySem.W.fnOf "check_sum" "check_sum" (defArgs s_check_sum) (defBody s_check_sum) (defScope s_check_sum) .none kV_check_sum dc_check_sum pm_check_sum an_check_sum cd_check_sum ct_check_sum), sl_check_sum⟩) (o_check_sum : PySem.W.codeIn K cd_check_sum "check_sum" = true) (k_check_sum : PySem.W.keepIn K (.ref f_check_sum) = true)
    {od_needed an_needed : Option Addr} {sl_needed : Array (Option Value)} {oc_needed kV_needed dc_needed pm_needed cd_needed ct_needed : Value} {f_needed : Addr}
    (a_needed : PySem.W.nsIn K mainGlobals "needed" = some (some (.ref f_needed))) (l_needed : K.lookup f_needed = some ⟨oc_needed, od_needed, .func (PySem.W.fnOf "needed" "needed" (defArgs s_needed) (defBody s_needed) (defScope s_needed) .none kV_needed dc_needed pm_needed an_needed cd_needed ct_needed), sl_needed⟩) (o_needed : PySem.W.codeIn K cd_needed "needed" = true) (k_needed : PySem.W.keepIn K (.ref f_needed) = true)
    {od_own_part an_own_part : Option Addr} {sl_own_part : Array (Option Value)} {oc_own_part kV_own_part dc_own_part pm_own_part cd_own_part ct_own_part : Value} {f_own_part : Addr}
    (a_own_part : PySem.W.nsIn K mainGlobals "own_part" = some (some (.ref f_own_part))) (l_own_part : K.lookup f_own_part = some ⟨oc_own_part, od_own_part, .func (PySem.W.fnOf "own_part" "own_part" (defArgs s_own_part) (defBody s_own_part) (defScope s_own_part) .none kV_own_part dc_own_part pm_own_part an_own_part cd_own_part ct_own_part), sl_own_part⟩) (o_own_part : PySem.W.codeIn K cd_own_part "own_part" = true) (k_own_part : PySem.W.keepIn K (.ref f_own_part) = true)
    {od_lists_for an_lists_for : Option Addr} {sl_lists_for : Array (Option Value)} {oc_lists_for kV_lists_for dc_lists_for pm_lists_for cd_lists_for ct_lists_for : Value} {f_lists_for : Addr}
    (a_lists_for : PySem.W.nsIn K mainGlobals "lists_for" = some (some (.ref f_lists_for))) (l_lists_for : K.lookup f_lists_for = some ⟨oc_lists_for, od_lists_for, .func (PySem.W.fnOf "lists_for" "lists_for" (defArgs s_lists_for) (defBody s_lists_for) (defScope s_lists_for) .none kV_lists_for dc_lists_for pm_lists_for an_lists_for cd_lists_for ct_lists_for), sl_lists_for⟩) (o_lists_for : PySem.W.codeIn K cd_lists_for "lists_for" = true) (k_lists_for : PySem.W.keepIn K (.ref f_lists_for) = true)
    {od__law_stream an__law_stream : Option Addr} {sl__law_stream : Array (Option Value)} {oc__law_stream kV__law_stream dc__law_stream pm__law_stream cd__law_stream ct__law_stream : Value} {f__law_stream : Addr}
    (a__law_stream : PySem.W.nsIn K mainGlobals "_law_stream" = some (some (.ref f__law_stream))) (l__law_stream : K.lookup f__law_stream = some ⟨oc__law_stream, od__law_stream, .func (PySem.W.fnOf "_law_stream" "_law_stream" (defArgs s__law_stream) (defBody s__law_stream) (defScope s__law_stream) .none kV__law_stream dc__law_stream pm__law_stream an__law_stream cd__law_stream ct__law_stream), sl__law_stream⟩) (o__law_stream : PySem.W.codeIn K cd__law_stream "_law_stream" = true) (k__law_stream : PySem.W.keepIn K (.ref f__law_stream) = true)
    {od__law_next an__law_next : Option Addr} {sl__law_next : Array (Option Value)} {oc__law_next kV__law_next dc__law_next pm__law_next cd__law_next ct__law_next : Value} {f__law_next : Addr}
    (a__law_next : PySem.W.nsIn K mainGlobals "_law_next" = some (some (.ref f__law_next))) (l__law_next : K.lookup f__law_next = some ⟨oc__law_next, od__law_next, .func (PySem.W.fnOf "_law_next" "_law_next" (defArgs s__law_next) (defBody s__law_next) (defScope s__law_next) .none kV__law_next dc__law_next pm__law_next an__law_next cd__law_next ct__law_next), sl__law_next⟩) (o__law_next : PySem.W.codeIn K cd__law_next "_law_next" = true) (k__law_next : PySem.W.keepIn K (.ref f__law_next) = true)
    {od__law_ask an__law_ask : Option Addr} {sl__law_ask : Array (Option Value)} {oc__law_ask kV__law_ask dc__law_ask pm__law_ask cd__law_ask ct__law_ask : Value} {f__law_ask : Addr}
    (a__law_ask : PySem.W.nsIn K mainGlobals "_law_ask" = some (some (.ref f__law_ask))) (l__law_ask : K.lookup f__law_ask = some ⟨oc__law_ask, od__law_ask, .func (PySem.W.fnOf "_law_ask" "_law_ask" (defArgs s__law_ask) (defBody s__law_ask) (defScope s__law_ask) .none kV__law_ask dc__law_ask pm__law_ask an__law_ask cd__law_ask ct__law_ask), sl__law_ask⟩) (o__law_ask : PySem.W.codeIn K cd__law_ask "_law_ask" = true) (k__law_ask : PySem.W.keepIn K (.ref f__law_ask) = true)
    {od__law_told an__law_told : Option Addr} {sl__law_told : Array (Option Value)} {oc__law_told kV__law_told dc__law_told pm__law_told cd__law_told ct__law_told : Value} {f__law_told : Addr}
    (a__law_told : PySem.W.nsIn K mainGlobals "_law_told" = some (some (.ref f__law_told))) (l__law_told : K.lookup f__law_told = some ⟨oc__law_told, od__law_told, .func (PySem.W.fnOf "_law_told" "_law_told" (defArgs s__law_told) (defBody s__law_told) (defScope s__law_told) .none kV__law_told dc__law_told pm__law_told an__law_told cd__law_told ct__law_told), sl__law_told⟩) (o__law_told : PySem.W.codeIn K cd__law_told "_law_told" = true) (k__law_told : PySem.W.keepIn K (.ref f__law_told) = true)
    {od__law_named an__law_named : Option Addr} {sl__law_named : Array (Option Value)} {oc__law_named kV__law_named dc__law_named pm__law_named cd__law_named ct__law_named : Value} {f__law_named : Addr}
    (a__law_named : PySem.W.nsIn K mainGlobals "_law_named" = some (some (.ref f__law_named))) (l__law_named : K.lookup f__law_named = some ⟨oc__law_named, od__law_named, .func (PySem.W.fnOf "_law_named" "_law_named" (defArgs s__law_named) (defBody s__law_named) (defScope s__law_named) .none kV__law_named dc__law_named pm__law_named an__law_named cd__law_named ct__law_named), sl__law_named⟩) (o__law_named : PySem.W.codeIn K cd__law_named "_law_named" = true) (k__law_named : PySem.W.keepIn K (.ref f__law_named) = true)
    {od_law an_law : Option Addr} {sl_law : Array (Option Value)} {oc_law kV_law dc_law pm_law cd_law ct_law : Value} {f_law : Addr}
    (a_law : PySem.W.nsIn K mainGlobals "law" = some (some (.ref f_law))) (l_law : K.lookup f_law = some ⟨oc_law, od_law, .func (PySem.W.fnOf "law" "law" (defArgs s_law) (defBody s_law) (defScope s_law) .none kV_law dc_law pm_law an_law cd_law ct_law), sl_law⟩) (o_law : PySem.W.codeIn K cd_law "law" = true) (k_law : PySem.W.keepIn K (.ref f_law) = true)
    (z_ValueError : PySem.W.nsIn K mainGlobals "ValueError" = some none)
    (z_abs : PySem.W.nsIn K mainGlobals "abs" = some none)
    (z_all : PySem.W.nsIn K mainGlobals "all" = some none)
    (z_any : PySem.W.nsIn K mainGlobals "any" = some none)
    (z_bool : PySem.W.nsIn K mainGlobals "bool" = some none)
    (z_enumerate : PySem.W.nsIn K mainGlobals "enumerate" = some none)
    (z_int : PySem.W.nsIn K mainGlobals "int" = some none)
    (z_isinstance : PySem.W.nsIn K mainGlobals "isinstance" = some none)
    (z_len : PySem.W.nsIn K mainGlobals "len" = some none)
    (z_list : PySem.W.nsIn K mainGlobals "list" = some none)
    (z_max : PySem.W.nsIn K mainGlobals "max" = some none)
    (z_min : PySem.W.nsIn K mainGlobals "min" = some none)
    (z_range : PySem.W.nsIn K mainGlobals "range" = some none)
    (z_set : PySem.W.nsIn K mainGlobals "set" = some none)
    (z_sorted : PySem.W.nsIn K mainGlobals "sorted" = some none)
    (z_sum : PySem.W.nsIn K mainGlobals "sum" = some none)
    (z_tuple : PySem.W.nsIn K mainGlobals "tuple" = some none)
    (z_zip : PySem.W.nsIn K mainGlobals "zip" = some none)
    {tk_MOST_VARIANTS : Tok} (g_MOST_VARIANTS : PySem.W.nsIn K mainGlobals "MOST_VARIANTS" = some (some (.int 5 tk_MOST_VARIANTS)))
    {tk_MOST_BUCKETS : Tok} (g_MOST_BUCKETS : PySem.W.nsIn K mainGlobals "MOST_BUCKETS" = some (some (.int 20 tk_MOST_BUCKETS)))
    {tk_MOST_TUPLES : Tok} (g_MOST_TUPLES : PySem.W.nsIn K mainGlobals "MOST_TUPLES" = some (some (.int 5 tk_MOST_TUPLES)))
    {tk_GREATEST_SUM : Tok} (g_GREATEST_SUM : PySem.W.nsIn K mainGlobals "GREATEST_SUM" = some (some (.int 10 tk_GREATEST_SUM)))
    {tk_GREATEST_BUCKET : Tok} (g_GREATEST_BUCKET : PySem.W.nsIn K mainGlobals "GREATEST_BUCKET" = some (some (.int 1000 tk_GREATEST_BUCKET)))
    {tk_MOST_NODES : Tok} (g_MOST_NODES : PySem.W.nsIn K mainGlobals "MOST_NODES" = some (some (.int 2000 tk_MOST_NODES)))
    {tk_MOST_ENTRIES : Tok} (g_MOST_ENTRIES : PySem.W.nsIn K mainGlobals "MOST_ENTRIES" = some (some (.int 9 tk_MOST_ENTRIES)))
    {tk_MOST_FEW : Tok} (g_MOST_FEW : PySem.W.nsIn K mainGlobals "MOST_FEW" = some (some (.int 100 tk_MOST_FEW)))
    (i_combinations : PySem.W.nsIn K mainGlobals "combinations" = some (some (.type "itertools.combinations")))
    {xC_BadValue xI_BadValue xcc_BadValue xcda_BadValue : Addr} {xkV_BadValue xdoc_BadValue xpm_BadValue xct_BadValue xoc_BadValue xcl_BadValue xccl_BadValue : Value} {xan_BadValue xod_BadValue xcdd_BadValue xcld_BadValue : Option Addr} {xosl_BadValue xcsl_BadValue xccs_BadValue : Array (Option Value)} {xvs_BadValue : Array Value} {xfile_BadValue : Str} {xtf_BadValue : Tok}
    {xnm_BadValue xq_BadValue : Str} {xN_BadValue : Addr} {xbs_BadValue xbm_BadValue xsub_BadValue : List Value} {xsn_BadValue : List Str} {xab_BadValue : Bool} {xcol_BadValue : Option Bool} {xdd_BadValue : Option Addr} {x0_BadValue x1_BadValue x2_BadValue x3_BadValue x5_BadValue : Option Value} {xcd_BadValue : ClassData}
    (xa_BadValue : PySem.W.nsIn K mainGlobals "BadValue" = some (some (.ref xC_BadValue))) (xi_BadValue : PySem.W.findIn K (.ref xC_BadValue) "__init__" = some (some (.ref xI_BadValue)))
    (xl_BadValue : K.lookup xI_BadValue = some ⟨xoc_BadValue, xod_BadValue, .func (PySem.W.ksFn "__init__" "BadValue.__init__" (defArgs s_ini_BadValue) (defBody s_ini_BadValue) (defScope s_ini_BadValue) .none xkV_BadValue xdoc_BadValue xpm_BadValue xan_BadValue (.ref xcda_BadValue) xct_BadValue xcc_BadValue), xosl_BadValue⟩)
    (xo_BadValue : PySem.W.codeIn K (.ref xcda_BadValue) "BadValue.__init__" = true) (xd_BadValue : K.lookup xcda_BadValue = some ⟨xccl_BadValue, xcdd_BadValue, .fields xvs_BadValue, xccs_BadValue⟩) (xv_BadValue : xvs_BadValue[2]? = some (.str xfile_BadValue xtf_BadValue)) (xf_BadValue : ((l.prog.main.file : Str) == xfile_BadValue) = true)
    (xc_BadValue : K.lookup xcc_BadValue = some ⟨xcl_BadValue, xcld_BadValue, .cell (some (.ref xC_BadValue)), xcsl_BadValue⟩) (xk_BadValue : K.lookup xC_BadValue = some (excClassObj xnm_BadValue xq_BadValue xC_BadValue xN_BadValue xbs_BadValue xbm_BadValue true xsn_BadValue xsub_BadValue xab_BadValue xcol_BadValue xdd_BadValue x0_BadValue x1_BadValue x2_BadValue x3_BadValue x5_BadValue "ValueError.__new__")) (xr_BadValue : PySem.HandSPX.refsVE xbm_BadValue = true)
    (xs_BadValue : PySem.W.findIn K (.ref xC_BadValue) "__setattr__" = some (some (.builtin "object.__setattr__"))) (xb_BadValue : PySem.W.subIn K (.ref xC_BadValue) (.type "BaseException") = some true) (xt_BadValue : PySem.W.typeIn K (.ref xC_BadValue) = some (.type "type")) (xp_BadValue : PySem.W.keepIn K (.ref xC_BadValue) = true)
    (xw_BadValue : PySem.W.subIn K (.ref xC_BadValue) (.type "ValueError") = some true) (xz_BadValue : PySem.W.nsIn K cStatics "thirdparty.any" = some none) (xu_BadValue : PySem.W.ks_superIn K xC_BadValue xC_BadValue "__init__" = some (some (.builtin "ValueError.__init__"))) (xy_BadValue : PySem.W.typeIn K (.ref xI_BadValue) = some (.type "function"))
    (xg_BadValue : PySem.W.findIn K (.ref xC_BadValue) "__getattribute__" = some (some (.builtin "BaseException.__getattribute__"))) (xh_BadValue : PySem.W.findIn K (.ref xC_BadValue) "__getattr__" = some none) (xD_BadValue : PySem.W.hasDictIn K xC_BadValue = true) (xn_BadValue : PySem.W.findIn K (.ref xC_BadValue) "name" = some none)
    (xe_BadValue : PySem.W.clsIn K xC_BadValue = some xcd_BadValue) (xx_BadValue : PySem.W.subIn K (.ref xC_BadValue) (.ref xC_BadValue) = some true) (xj_BadValue : PySem.W.nsIn K mainGlobals "super" = some none) (xm_BadValue : (l.prog.main.scope.names.lookup ("super" : Str)).isSome = false)
    {xL0 : Addr} (yA_L : PySem.W.findIn K (.ref xC_BadValue) "__class__" = some (some (.builtin "object.__class__"))) (yN_L : PySem.W.specialIn K (.builtin "object.__class__") "__get__" = some (some (.builtin "getset_descriptor.__get__"))) (yT_L : PySem.W.takesIn K (.builtin "object.__class__") = some true) (yM_L : PySem.W.mroIn K xC_BadValue (.type "object") = some true)
    (yL_L : PySem.W.nsIn K mainGlobals "LeastError" = some (some (.ref xL0))) (yB_L : PySem.W.subIn K (.ref xL0) (.type "BaseException") = some true) (yD_L : PySem.W.hasDictIn K xL0 = true) (yY_L : PySem.W.typeIn K (.ref xL0) = some (.type "type")) (yS_L : PySem.W.subIn K (.ref xC_BadValue) (.ref xL0) = some true) :
    ∃ fd : FuncData, (∀ (s : Shared) (v : Value), BindsTo s fd ⟨[v], []⟩ [("script", v)]) ∧ ∀ base : Heap, K.In base → base.Ns mainGlobals mg → FnOk l.prog w K mg base CX0 17 fa fd ["script"] (spLaw K) := by
  have e := hfa.symm.trans (PySem.W.mg_of X G a_law)
  cases e
  have T : Txt mg := { b_ValueError := PySem.W.mg_none_of X G z_ValueError, b_abs := PySem.W.mg_none_of X G z_abs, b_all := PySem.W.mg_none_of X G z_all, b_any := PySem.W.mg_none_of X G z_any, b_bool := PySem.W.mg_none_of X G z_bool, b_enumerate := PySem.W.mg_none_of X G z_enumerate, b_int := PySem.W.mg_none_of X G z_int, b_isinstance := PySem.W.mg_none_of X G z_isinstance, b_len := PySem.W.mg_none_of X G z_len, b_list := PySem.W.mg_none_of X G z_list, b_max := PySem.W.mg_none_of X G z_max, b_min := PySem.W.mg_none_of X G z_min, b_range := PySem.W.mg_none_of X G z_range, b_set := PySem.W.mg_none_of X G z_set, b_sorted := PySem.W.mg_none_of X G z_sorted, b_sum := PySem.W.mg_none_of X G z_sum, b_tuple := PySem.W.mg_none_of X G z_tuple, b_zip := PySem.W.mg_none_of X G z_zip, k_MOST_VARIANTS := ⟨_, PySem.W.mg_of X G g_MOST_VARIANTS⟩, k_MOST_BUCKETS := ⟨_, PySem.W.mg_of X G g_MOST_BUCKETS⟩, k_MOST_TUPLES := ⟨_, PySem.W.mg_of X G g_MOST_TUPLES⟩, k_GREATEST_SUM := ⟨_, PySem.W.mg_of X G g_GREATEST_SUM⟩, k_GREATEST_BUCKET := ⟨_, PySem.W.mg_of X G g_GREATEST_BUCKET⟩, k_MOST_NODES := ⟨_, PySem.W.mg_of X G g_MOST_NODES⟩, k_MOST_ENTRIES := ⟨_, PySem.W.mg_of X G g_MOST_ENTRIES⟩, k_MOST_FEW := ⟨_, PySem.W.mg_of X G g_MOST_FEW⟩, i_combinations := PySem.W.mg_of X G i_combinations }
  have F_is_integer := fun_mk (st := s_is_integer) l_is_integer o_is_integer k_is_integer
  have b_is_integer := F_is_integer.binds (ps := p_is_integer) fun _ _ _ _ _ _ us hl => match us, hl with | [_, _, _], _ => rfl
  have m_is_integer := PySem.W.mg_of X G a_is_integer
  have F_are_integers := fun_mk (st := s_are_integers) l_are_integers o_are_integers k_are_integers
  have b_are_integers := F_are_integers.binds (ps := p_are_integers) fun _ _ _ _ _ _ us hl => match us, hl with | [_, _, _], _ => rfl
  have m_are_integers := PySem.W.mg_of X G a_are_integers
  have F_require := fun_mk (st := s_require) l_require o_require k_require
  have b_require := F_require.binds (ps := p_require) fun _ _ _ _ _ _ us hl => match us, hl with | [_, _], _ => rfl
  have m_require := PySem.W.mg_of X G a_require
  have F_check_variants := fun_mk (st := s_check_variants) l_check_variants o_check_variants k_check_variants
  have b_check_variants := F_check_variants.binds (ps := p_check_variants) fun _ _ _ _ _ _ us hl => match us, hl with | [_], _ => rfl
  have m_check_variants := PySem.W.mg_of X G a_check_variants
  have F_are_lists := fun_mk (st := s_are_lists) l_are_lists o_are_lists k_are_lists
  have b_are_lists := F_are_lists.binds (ps := p_are_lists) fun _ _ _ _ _ _ us hl => match us, hl with | [_, _, _], _ => rfl
  have m_are_lists := PySem.W.mg_of X G a_are_lists
  have F_is_tuple_of_shares := fun_mk (st := s_is_tuple_of_shares) l_is_tuple_of_shares o_is_tuple_of_shares k_is_tuple_of_shares
  have b_is_tuple_of_shares := F_is_tuple_of_shares.binds (ps := p_is_tuple_of_shares) fun _ _ _ _ _ _ us hl => match us, hl with | [_, _], _ => rfl
  have m_is_tuple_of_shares := PySem.W.mg_of X G a_is_tuple_of_shares
  have F_is_family := fun_mk (st := s_is_family) l_is_family o_is_family k_is_family
  have b_is_family := F_is_family.binds (ps := p_is_family) fun _ _ _ _ _ _ us hl => match us, hl with | [_, _], _ => rfl
  have m_is_family := PySem.W.mg_of X G a_is_family
  have F_check_family := fun_mk (st := s_check_family) l_check_family o_check_family k_check_family
  have b_check_family := F_check_family.binds (ps := p_check_family) fun _ _ _ _ _ _ us hl => match us, hl with | [_, _], _ => rfl
  have m_check_family := PySem.W.mg_of X G a_check_family
  have F_greatest_shares := fun_mk (st := s_greatest_shares) l_greatest_shares o_greatest_shares k_greatest_shares
  have b_greatest_shares := F_greatest_shares.binds (ps := p_greatest_shares) fun _ _ _ _ _ _ us hl => match us, hl with | [_], _ => rfl
  have m_greatest_shares := PySem.W.mg_of X G a_greatest_shares
  have F_entries_below := fun_mk (st := s_entries_below) l_entries_below o_entries_below k_entries_below
  have b_entries_below := F_entries_below.binds (ps := p_entries_below) fun _ _ _ _ _ _ us hl => match us, hl with | [_], _ => rfl
  have m_entries_below := PySem.W.mg_of X G a_entries_below
  have F_entries := fun_mk (st := s_entries) l_entries o_entries k_entries
  have b_entries := F_entries.binds (ps := p_entries) fun _ _ _ _ _ _ us hl => match us, hl with | [_, _], _ => rfl
  have m_entries := PySem.W.mg_of X G a_entries
  have F_is_entry := fun_mk (st := s_is_entry) l_is_entry o_is_entry k_is_entry
  have b_is_entry := F_is_entry.binds (ps := p_is_entry) fun _ _ _ _ _ _ us hl => match us, hl with | [_, _], _ => rfl
  have m_is_entry := PySem.W.mg_of X G a_is_entry
  have F_is_used := fun_mk (st := s_is_used) l_is_used o_is_used k_is_used
  have b_is_used := F_is_used.binds (ps := p_is_used) fun _ _ _ _ _ _ us hl => match us, hl with | [_, _], _ => rfl
  have m_is_used := PySem.W.mg_of X G a_is_used
  have F_are_together := fun_mk (st := s_are_together) l_are_together o_are_together k_are_together
  have b_are_together := F_are_together.binds (ps := p_are_together) fun _ _ _ _ _ _ us hl => match us, hl with | [_, _, _], _ => rfl
  have m_are_together := PySem.W.mg_of X G a_are_together
  have F_coexist := fun_mk (st := s_coexist) l_coexist o_coexist k_coexist
  have b_coexist := F_coexist.binds (ps := p_coexist) fun _ _ _ _ _ _ us hl => match us, hl with | [_, _, _, _], _ => rfl
  have m_coexist := PySem.W.mg_of X G a_coexist
  have F_all_heights := fun_mk (st := s_all_heights) l_all_heights o_all_heights k_all_heights
  have b_all_heights := F_all_heights.binds (ps := p_all_heights) fun _ _ _ _ _ _ us hl => match us, hl with | [_], _ => rfl
  have m_all_heights := PySem.W.mg_of X G a_all_heights
  have F_is_clique := fun_mk (st := s_is_clique) l_is_clique o_is_clique k_is_clique
  have b_is_clique := F_is_clique.binds (ps := p_is_clique) fun _ _ _ _ _ _ us hl => match us, hl with | [_, _], _ => rfl
  have m_is_clique := PySem.W.mg_of X G a_is_clique
  have F_greatest_clique := fun_mk (st := s_greatest_clique) l_greatest_clique o_greatest_clique k_greatest_clique
  have b_greatest_clique := F_greatest_clique.binds (ps := p_greatest_clique) fun _ _ _ _ _ _ us hl => match us, hl with | [_, _], _ => rfl
  have m_greatest_clique := PySem.W.mg_of X G a_greatest_clique
  have F_first_fault := fun_mk (st := s_first_fault) l_first_fault o_first_fault k_first_fault
  have b_first_fault := F_first_fault.binds (ps := p_first_fault) fun _ _ _ _ _ _ us hl => match us, hl with | [_, _], _ => rfl
  have m_first_fault := PySem.W.mg_of X G a_first_fault
  have F_fault := fun_mk (st := s_fault) l_fault o_fault k_fault
  have b_fault := F_fault.binds (ps := p_fault) fun _ _ _ _ _ _ us hl => match us, hl with | [_, _, _], _ => rfl
  have m_fault := PySem.W.mg_of X G a_fault
  have F_bits_of := fun_mk (st := s_bits_of) l_bits_of o_bits_of k_bits_of
  have b_bits_of := F_bits_of.binds (ps := p_bits_of) fun _ _ _ _ _ _ us hl => match us, hl with | [_], _ => rfl
  have m_bits_of := PySem.W.mg_of X G a_bits_of
  have F_known_at_root := fun_mk (st := s_known_at_root) l_known_at_root o_known_at_root k_known_at_root
  have b_known_at_root := F_known_at_root.binds (ps := p_known_at_root) fun _ _ _ _ _ _ us hl => match us, hl with | [_, _], _ => rfl
  have m_known_at_root := PySem.W.mg_of X G a_known_at_root
  have F_known_unlike := fun_mk (st := s_known_unlike) l_known_unlike o_known_unlike k_known_unlike
  have b_known_unlike := F_known_unlike.binds (ps := p_known_unlike) fun _ _ _ _ _ _ us hl => match us, hl with | [_, _, _], _ => rfl
  have m_known_unlike := PySem.W.mg_of X G a_known_unlike
  have F_known_alike := fun_mk (st := s_known_alike) l_known_alike o_known_alike k_known_alike
  have b_known_alike := F_known_alike.binds (ps := p_known_alike) fun _ _ _ _ _ _ us hl => match us, hl with | [_, _, _], _ => rfl
  have m_known_alike := PySem.W.mg_of X G a_known_alike
  have F_is_right_clique := fun_mk (st := s_is_right_clique) l_is_right_clique o_is_right_clique k_is_right_clique
  have b_is_right_clique := F_is_right_clique.binds (ps := p_is_right_clique) fun _ _ _ _ _ _ us hl => match us, hl with | [_, _, _, _], _ => rfl
  have m_is_right_clique := PySem.W.mg_of X G a_is_right_clique
  have F_is_right_fork := fun_mk (st := s_is_right_fork) l_is_right_fork o_is_right_fork k_is_right_fork
  have b_is_right_fork := F_is_right_fork.binds (ps := p_is_right_fork) fun _ _ _ _ _ _ us hl => match us, hl with | [_, _, _, _], _ => rfl
  have m_is_right_fork := PySem.W.mg_of X G a_is_right_fork
  have F_cases_after := fun_mk (st := s_cases_after) l_cases_after o_cases_after k_cases_after
  have b_cases_after := F_cases_after.binds (ps := p_cases_after) fun _ _ _ _ _ _ us hl => match us, hl with | [_, _, _, _], _ => rfl
  have m_cases_after := PySem.W.mg_of X G a_cases_after
  have F_is_right_tree := fun_mk (st := s_is_right_tree) l_is_right_tree o_is_right_tree k_is_right_tree
  have b_is_right_tree := F_is_right_tree.binds (ps := p_is_right_tree) fun _ _ _ _ _ _ us hl => match us, hl with | [_, _, _, _], _ => rfl
  have m_is_right_tree := PySem.W.mg_of X G a_is_right_tree
  have F_first_buckets := fun_mk (st := s_first_buckets) l_first_buckets o_first_buckets k_first_buckets
  have b_first_buckets := F_first_buckets.binds (ps := p_first_buckets) fun _ _ _ _ _ _ us hl => match us, hl with | [_, _, _], _ => rfl
  have m_first_buckets := PySem.W.mg_of X G a_first_buckets
  have F_earlier_neighbours := fun_mk (st := s_earlier_neighbours) l_earlier_neighbours o_earlier_neighbours k_earlier_neighbours
  have b_earlier_neighbours := F_earlier_neighbours.binds (ps := p_earlier_neighbours) fun _ _ _ _ _ _ us hl => match us, hl with | [_, _], _ => rfl
  have m_earlier_neighbours := PySem.W.mg_of X G a_earlier_neighbours
  have F_parted := fun_mk (st := s_parted) l_parted o_parted k_parted
  have b_parted := F_parted.binds (ps := p_parted) fun _ _ _ _ _ _ us hl => match us, hl with | [_, _], _ => rfl
  have m_parted := PySem.W.mg_of X G a_parted
  have F_fewest := fun_mk (st := s_fewest) l_fewest o_fewest k_fewest
  have b_fewest := F_fewest.binds (ps := p_fewest) fun _ _ _ _ _ _ us hl => match us, hl with | [_, _], _ => rfl
  have m_fewest := PySem.W.mg_of X G a_fewest
  have F_accepts_few := fun_mk (st := s_accepts_few) l_accepts_few o_accepts_few k_accepts_few
  have b_accepts_few := F_accepts_few.binds (ps := p_accepts_few) fun _ _ _ _ _ _ us hl => match us, hl with | [_, _, _, _], _ => rfl
  have m_accepts_few := PySem.W.mg_of X G a_accepts_few
  have F_accepts_fewest := fun_mk (st := s_accepts_fewest) l_accepts_fewest o_accepts_fewest k_accepts_fewest
  have b_accepts_fewest := F_accepts_fewest.binds (ps := p_accepts_fewest) fun _ _ _ _ _ _ us hl => match us, hl with | [_, _, _], _ => rfl
  have m_accepts_fewest := PySem.W.mg_of X G a_accepts_fewest
  have F_check_sum := fun_mk (st := s_check_sum) l_check_sum o_check_sum k_check_sum
  have b_check_sum := F_check_sum.binds (ps := p_check_sum) fun _ _ _ _ _ _ us hl => match us, hl with | [_, _], _ => rfl
  have m_check_sum := PySem.W.mg_of X G a_check_sum
  have F_needed := fun_mk (st := s_needed) l_needed o_needed k_needed
  have b_needed := F_needed.binds (ps := p_needed) fun _ _ _ _ _ _ us hl => match us, hl with | [_, _], _ => rfl
  have m_needed := PySem.W.mg_of X G a_needed
  have F_own_part := fun_mk (st := s_own_part) l_own_part o_own_part k_own_part
  have b_own_part := F_own_part.binds (ps := p_own_part) fun _ _ _ _ _ _ us hl => match us, hl with | [_, _, _], _ => rfl
  have m_own_part := PySem.W.mg_of X G a_own_part
  have F_lists_for := fun_mk (st := s_lists_for) l_lists_for o_lists_for k_lists_for
  have b_lists_for := F_lists_for.binds (ps := p_lists_for) fun _ _ _ _ _ _ us hl => match us, hl with | [_, _], _ => rfl
  have m_lists_for := PySem.W.mg_of X G a_lists_for
  have F__law_stream := fun_mk (st := s__law_stream) l__law_stream o__law_stream k__law_stream
  have b__law_stream := F__law_stream.binds (ps := p__law_stream) fun _ _ _ _ _ _ us hl => match us, hl with | [_], _ => rfl
  have m__law_stream := PySem.W.mg_of X G a__law_stream
  have F__law_next := fun_mk (st := s__law_next) l__law_next o__law_next k__law_next
  have b__law_next := F__law_next.binds (ps := p__law_next) fun _ _ _ _ _ _ us hl => match us, hl with | [_, _], _ => rfl
  have m__law_next := PySem.W.mg_of X G a__law_next
  have F__law_ask := fun_mk (st := s__law_ask) l__law_ask o__law_ask k__law_ask
  have b__law_ask := F__law_ask.binds (ps := p__law_ask) fun _ _ _ _ _ _ us hl => match us, hl with | [_, _], _ => rfl
  have m__law_ask := PySem.W.mg_of X G a__law_ask
  have F__law_told := fun_mk (st := s__law_told) l__law_told o__law_told k__law_told
  have b__law_told := F__law_told.binds (ps := p__law_told) fun _ _ _ _ _ _ us hl => match us, hl with | [_, _], _ => rfl
  have m__law_told := PySem.W.mg_of X G a__law_told
  have F__law_named := fun_mk (st := s__law_named) l__law_named o__law_named k__law_named
  have b__law_named := F__law_named.binds (ps := p__law_named) fun _ _ _ _ _ _ us hl => match us, hl with | [_, _, _, _, _], _ => rfl
  have m__law_named := PySem.W.mg_of X G a__law_named
  have F_law := fun_mk (st := s_law) l_law o_law k_law
  have O_BadValue : OexC K xC_BadValue := ⟨⟨_, _, _, _, _, _, _, _, _, _, _, _, _, _, _, xk_BadValue, xr_BadValue⟩, xs_BadValue, xb_BadValue, xt_BadValue, xp_BadValue⟩
  have I_BadValue := fun base => ok_ini_BadValue (P := l.prog) (w := w) (mg := mg) (base := base) xl_BadValue xo_BadValue xd_BadValue xv_BadValue xf_BadValue xc_BadValue O_BadValue xn_BadValue (PySem.W.mg_none_of X G xj_BadValue) xw_BadValue xz_BadValue xu_BadValue xm_BadValue
  have J_BadValue : Binds K (PySem.W.ksFn "__init__" "BadValue.__init__" (defArgs s_ini_BadValue) (defBody s_ini_BadValue) (defScope s_ini_BadValue) .none xkV_BadValue xdoc_BadValue xpm_BadValue xan_BadValue (.ref xcda_BadValue) xct_BadValue xcc_BadValue) ["self", "name"] [] := .all fun us hl => match us, hl with | [_, _], _ => rfl
  have E_BadValue : ∀ base, Exc1 l.prog w K mg base "BadValue" "name" xC_BadValue := fun base => ⟨O_BadValue, ⟨xg_BadValue, xh_BadValue, xb_BadValue, xD_BadValue⟩, PySem.W.mg_of X G xa_BadValue, xn_BadValue, exm_self xb_BadValue xe_BadValue xt_BadValue xx_BadValue, _, _, xi_BadValue, xy_BadValue, I_BadValue base, J_BadValue⟩
  have H_BadValue : ExcH K mg xC_BadValue xL0 := ⟨⟨xg_BadValue, xh_BadValue, xb_BadValue, xD_BadValue, yA_L, yN_L, yT_L, yM_L⟩, PySem.W.mg_of X G yL_L, PySem.W.exm_ref yB_L yD_L yY_L yS_L, kit_val xw_BadValue⟩
  refine ⟨PySem.W.fnOf "law" "law" (defArgs s_law) (defBody s_law) (defScope s_law) .none kV_law dc_law pm_law an_law cd_law ct_law, fun s v => .of_eq rfl, fun base _ _ => ?_⟩
  have c_is_integer : Cal l.prog w K mg base CX0 1 "is_integer" p_is_integer (sp_is_integer K) := ⟨_, _, ok_is_integer F_is_integer T, m_is_integer, k_is_integer, b_is_integer⟩
  have c_require : Cal l.prog w K mg base CX0 1 "require" p_require (sp_require K) := ⟨_, _, ok_require F_require T, m_require, k_require, b_require⟩
  have c_greatest_shares : Cal l.prog w K mg base CX0 1 "greatest_shares" p_greatest_shares (sp_greatest_shares K) := ⟨_, _, ok_greatest_shares F_greatest_shares T, m_greatest_shares, k_greatest_shares, b_greatest_shares⟩
  have c_entries_below : Cal l.prog w K mg base CX0 1 "entries_below" p_entries_below (sp_entries_belowX K) := ⟨_, _, ok_entries_below F_entries_below T, m_entries_below, k_entries_below, b_entries_below⟩
  have c_is_used : Cal l.prog w K mg base CX0 1 "is_used" p_is_used (sp_is_used K) := ⟨_, _, ok_is_used F_is_used T, m_is_used, k_is_used, b_is_used⟩
  have c_all_heights : Cal l.prog w K mg base CX0 1 "all_heights" p_all_heights (sp_all_heights K) := ⟨_, _, ok_all_heights F_all_heights T, m_all_heights, k_all_heights, b_all_heights⟩
  have c_first_fault : Cal l.prog w K mg base CX0 1 "first_fault" p_first_fault (sp_first_fault K) := ⟨_, _, ok_first_fault F_first_fault T, m_first_fault, k_first_fault, b_first_fault⟩
  have c_bits_of : Cal l.prog w K mg base CX0 1 "bits_of" p_bits_of (sp_bits_of K) := ⟨_, _, ok_bits_of F_bits_of T, m_bits_of, k_bits_of, b_bits_of⟩
  have c_known_unlike : Cal l.prog w K mg base CX0 1 "known_unlike" p_known_unlike (sp_No K) := ⟨_, _, fn_never, m_known_unlike, k_known_unlike, b_known_unlike⟩
  have c_own_part : Cal l.prog w K mg base CX0 1 "own_part" p_own_part (sp_own_part K) := ⟨_, _, ok_own_part F_own_part T, m_own_part, k_own_part, b_own_part⟩
  have c__law_stream : Cal l.prog w K mg base CX0 1 "_law_stream" p__law_stream (sp__law_stream K) := ⟨_, _, ok__law_stream F__law_stream T, m__law_stream, k__law_stream, b__law_stream⟩
  have c__law_next : Cal l.prog w K mg base CX0 1 "_law_next" p__law_next (sp__law_next K) := ⟨_, _, ok__law_next F__law_next T, m__law_next, k__law_next, b__law_next⟩
  have c_are_integers : Cal l.prog w K mg base CX0 2 "are_integers" p_are_integers (sp_are_integers K) := ⟨_, _, ok_are_integers F_are_integers T c_is_integer, m_are_integers, k_are_integers, b_are_integers⟩
  have c_check_variants : Cal l.prog w K mg base CX0 2 "check_variants" p_check_variants (sp_check_variants K) := ⟨_, _, ok_check_variants F_check_variants T c_require c_is_integer, m_check_variants, k_check_variants, b_check_variants⟩
  have c_are_together : Cal l.prog w K mg base CX0 2 "are_together" p_are_together (sp_are_together K) := ⟨_, _, ok_are_together F_are_together T c_is_used, m_are_together, k_are_together, b_are_together⟩
  have c_known_alike : Cal l.prog w K mg base CX0 2 "known_alike" p_known_alike (sp_No K) := ⟨_, _, fn_never, m_known_alike, k_known_alike, b_known_alike⟩
  have c_parted : Cal l.prog w K mg base CX0 2 "parted" p_parted (sp_parted K) := ⟨_, _, ok_parted F_parted T c_greatest_shares, m_parted, k_parted, b_parted⟩
  have c_are_lists : Cal l.prog w K mg base CX0 3 "are_lists" p_are_lists (sp_are_lists68 K) := ⟨_, _, ok_are_lists F_are_lists T c_are_integers, m_are_lists, k_are_lists, b_are_lists⟩
  have c_is_tuple_of_shares : Cal l.prog w K mg base CX0 3 "is_tuple_of_shares" p_is_tuple_of_shares (sp_is_tuple_of_sharesX K) := ⟨_, _, ok_is_tuple_of_shares F_is_tuple_of_shares T c_are_integers, m_is_tuple_of_shares, k_is_tuple_of_shares, b_is_tuple_of_shares⟩
  have c_is_entry : Cal l.prog w K mg base CX0 3 "is_entry" p_is_entry (sp_is_entry68 K) := ⟨_, _, ok_is_entry F_is_entry T c_are_integers, m_is_entry, k_is_entry, b_is_entry⟩
  have c_is_clique : Cal l.prog w K mg base CX0 3 "is_clique" p_is_clique (sp_is_clique K) := ⟨_, _, ok_is_clique F_is_clique T c_are_together, m_is_clique, k_is_clique, b_is_clique⟩
  have c_known_at_root : Cal l.prog w K mg base CX0 3 "known_at_root" p_known_at_root (sp_known_at_root K) := ⟨_, _, ok_known_at_root F_known_at_root T c_bits_of c_are_together, m_known_at_root, k_known_at_root, b_known_at_root⟩
  have c_earlier_neighbours : Cal l.prog w K mg base CX0 3 "earlier_neighbours" p_earlier_neighbours (sp_earlier_neighbours K) := ⟨_, _, ok_earlier_neighbours F_earlier_neighbours T c_are_together, m_earlier_neighbours, k_earlier_neighbours, b_earlier_neighbours⟩
  have c_check_sum : Cal l.prog w K mg base CX0 3 "check_sum" p_check_sum (sp_check_sum K) := ⟨_, _, ok_check_sum F_check_sum T c_check_variants c_require c_is_integer, m_check_sum, k_check_sum, b_check_sum⟩
  have c_is_family : Cal l.prog w K mg base CX0 4 "is_family" p_is_family (sp_is_familyX K) := ⟨_, _, ok_is_family F_is_family T c_check_variants c_is_tuple_of_shares, m_is_family, k_is_family, b_is_family⟩
  have c_is_right_clique : Cal l.prog w K mg base CX0 4 "is_right_clique" p_is_right_clique (sp_No K) := ⟨_, _, fn_never, m_is_right_clique, k_is_right_clique, b_is_right_clique⟩
  have c_is_right_fork : Cal l.prog w K mg base CX0 4 "is_right_fork" p_is_right_fork (sp_No K) := ⟨_, _, fn_never, m_is_right_fork, k_is_right_fork, b_is_right_fork⟩
  have c_needed : Cal l.prog w K mg base CX0 4 "needed" p_needed (sp_needed K) := ⟨_, _, ok_needed F_needed T c_check_sum, m_needed, k_needed, b_needed⟩
  have c_lists_for : Cal l.prog w K mg base CX0 4 "lists_for" p_lists_for (sp_lists_for K) := ⟨_, _, ok_lists_for F_lists_for T c_check_sum c_own_part, m_lists_for, k_lists_for, b_lists_for⟩
  have c_check_family : Cal l.prog w K mg base CX0 5 "check_family" p_check_family (sp_check_family K) := ⟨_, _, ok_check_family F_check_family T c_require c_is_family, m_check_family, k_check_family, b_check_family⟩
  have c_cases_after : Cal l.prog w K mg base CX0 5 "cases_after" p_cases_after (sp_cases_after68 K) := ⟨_, _, ok_cases_after F_cases_after T c_is_right_clique c_is_right_fork c_known_alike c_known_unlike, m_cases_after, k_cases_after, b_cases_after⟩
  have c_entries : Cal l.prog w K mg base CX0 6 "entries" p_entries (sp_entries K) := ⟨_, _, ok_entries F_entries T c_check_family c_entries_below c_greatest_shares, m_entries, k_entries, b_entries⟩
  have c_greatest_clique : Cal l.prog w K mg base CX0 6 "greatest_clique" p_greatest_clique (sp_greatest_clique K) := ⟨_, _, ok_greatest_clique F_greatest_clique T c_check_family c_all_heights c_is_clique, m_greatest_clique, k_greatest_clique, b_greatest_clique⟩
  have c_fault : Cal l.prog w K mg base CX0 6 "fault" p_fault (sp_fault K) := ⟨_, _, ok_fault F_fault T c_check_family c_require c_are_lists c_first_fault, m_fault, k_fault, b_fault⟩
  have c_is_right_tree : Cal l.prog w K mg base CX0 6 "is_right_tree" p_is_right_tree (sp_is_right_tree68 K) := ⟨_, _, ok_is_right_tree F_is_right_tree T c_cases_after c_known_at_root, m_is_right_tree, k_is_right_tree, b_is_right_tree⟩
  have c_coexist : Cal l.prog w K mg base CX0 7 "coexist" p_coexist (sp_coexist K) := ⟨_, _, ok_coexist F_coexist T c_entries c_require c_are_together c_is_entry, m_coexist, k_coexist, b_coexist⟩
  have c_accepts_few : Cal l.prog w K mg base CX0 7 "accepts_few" p_accepts_few (sp_accepts_few68 K) := ⟨_, _, ok_accepts_few F_accepts_few T c_entries c_require c_is_right_tree c_is_integer, m_accepts_few, k_accepts_few, b_accepts_few⟩
  have c_accepts_fewest : Cal l.prog w K mg base CX0 7 "accepts_fewest" p_accepts_fewest (sp_accepts_fewest68 K) := ⟨_, _, ok_accepts_fewest F_accepts_fewest T c_entries c_is_right_tree c_fault c_is_integer c_are_lists, m_accepts_fewest, k_accepts_fewest, b_accepts_fewest⟩
  have c_first_buckets : Cal l.prog w K mg base CX0 12 "first_buckets" p_first_buckets (sp_first_buckets K) := ⟨_, _, ok_first_buckets F_first_buckets T m_first_buckets b_first_buckets, m_first_buckets, k_first_buckets, b_first_buckets⟩
  have c_fewest : Cal l.prog w K mg base CX0 13 "fewest" p_fewest (sp_fewest K) := ⟨_, _, ok_fewest F_fewest T c_entries c_greatest_clique c_first_buckets c_earlier_neighbours c_parted c_entries_below, m_fewest, k_fewest, b_fewest⟩
  have c__law_ask : Cal l.prog w K mg base CX0 14 "_law_ask" p__law_ask (sp__law_ask68 K) := ⟨_, _, ok__law_ask F__law_ask T c_lists_for c_entries c_greatest_clique c_fewest c_accepts_fewest c_coexist c_fault c_accepts_few c_needed, m__law_ask, k__law_ask, b__law_ask⟩
  have X_require := ok_requireX F_require T (E_BadValue base)
  have X_check_variants := fn_or (sp' := spRef K xC_BadValue RcV) ((fn_up0 (CX := L2.CX l.prog w) (ok_check_variants F_check_variants T c_require c_is_integer)).mono (k := 5) (by decide)) (ok_check_variantsX F_check_variants T c_is_integer X_require m_require k_require b_require)
  have X_is_family := fn_or (sp' := spRef K xC_BadValue RcIf) ((fn_up0 (CX := L2.CX l.prog w) (ok_is_family F_is_family T c_check_variants c_is_tuple_of_shares)).mono (k := 6) (by decide)) (ok_is_familyX F_is_family T c_is_tuple_of_shares X_check_variants m_check_variants k_check_variants b_check_variants)
  have X_check_family := fn_or (sp' := spRef K xC_BadValue RcFa) ((fn_up0 (CX := L2.CX l.prog w) (ok_check_family F_check_family T c_require c_is_family)).mono (k := 7) (by decide)) (ok_check_familyX F_check_family T X_is_family m_is_family k_is_family b_is_family X_require m_require k_require b_require)
  have X_entries := fn_or (sp' := spRef K xC_BadValue RcFa) ((fn_up0 (CX := L2.CX l.prog w) (ok_entries F_entries T c_check_family c_entries_below c_greatest_shares)).mono (k := 8) (by decide)) (ok_entriesX F_entries T c_entries_below c_greatest_shares X_check_family m_check_family k_check_family b_check_family)
  have X_greatest_clique := fn_or (sp' := spRef K xC_BadValue RcFa) ((fn_up0 (CX := L2.CX l.prog w) (ok_greatest_clique F_greatest_clique T c_check_family c_all_heights c_is_clique)).mono (k := 8) (by decide)) (ok_greatest_cliqueX F_greatest_clique T c_all_heights c_is_clique X_check_family m_check_family k_check_family b_check_family)
  have X_fewest := fn_or (sp' := spRef K xC_BadValue RcFa) ((fn_up0 (CX := L2.CX l.prog w) (ok_fewest F_fewest T c_entries c_greatest_clique c_first_buckets c_earlier_neighbours c_parted c_entries_below)).mono (k := 13) (by decide)) (ok_fewestX F_fewest T c_greatest_clique c_first_buckets c_earlier_neighbours c_parted c_entries_below X_entries m_entries k_entries b_entries)
  have X_accepts_fewest := fn_or (sp' := spRef K xC_BadValue RcF3) ((fn_up0 (CX := L2.CX l.prog w) (ok_accepts_fewest F_accepts_fewest T c_entries c_is_right_tree c_fault c_is_integer c_are_lists)).mono (k := 9) (by decide)) (ok_accepts_fewestX F_accepts_fewest T c_is_right_tree c_fault c_is_integer c_are_lists X_entries m_entries k_entries b_entries)
  have X_coexist := fn_or (sp' := spRef K xC_BadValue RcCx) ((fn_up0 (CX := L2.CX l.prog w) (ok_coexist F_coexist T c_entries c_require c_are_together c_is_entry)).mono (k := 9) (by decide)) (ok_coexistX F_coexist T c_are_together c_is_entry X_entries m_entries k_entries b_entries X_require m_require k_require b_require)
  have X_fault := fn_or (sp' := spRef K xC_BadValue RcFt) ((fn_up0 (CX := L2.CX l.prog w) (ok_fault F_fault T c_check_family c_require c_are_lists c_first_fault)).mono (k := 8) (by decide)) (ok_faultX F_fault T c_are_lists c_first_fault X_check_family m_check_family k_check_family b_check_family X_require m_require k_require b_require)
  have X_accepts_few := fn_or (sp' := spRef K xC_BadValue RcAf) ((fn_up0 (CX := L2.CX l.prog w) (ok_accepts_few F_accepts_few T c_entries c_require c_is_right_tree c_is_integer)).mono (k := 9) (by decide)) (ok_accepts_fewX F_accepts_few T c_is_right_tree c_is_integer X_entries m_entries k_entries b_entries X_require m_require k_require b_require)
  have X_check_sum := fn_or (sp' := spRef K xC_BadValue RcSu) ((fn_up0 (CX := L2.CX l.prog w) (ok_check_sum F_check_sum T c_check_variants c_require c_is_integer)).mono (k := 6) (by decide)) (ok_check_sumX F_check_sum T c_is_integer X_check_variants m_check_variants k_check_variants b_check_variants X_require m_require k_require b_require)
  have X_needed := fn_or (sp' := spRef K xC_BadValue RcSu) ((fn_up0 (CX := L2.CX l.prog w) (ok_needed F_needed T c_check_sum)).mono (k := 7) (by decide)) (ok_neededX F_needed T X_check_sum m_check_sum k_check_sum b_check_sum)
  have X_lists_for := fn_or (sp' := spRef K xC_BadValue RcSu) ((fn_up0 (CX := L2.CX l.prog w) (ok_lists_for F_lists_for T c_check_sum c_own_part)).mono (k := 7) (by decide)) (ok_lists_forX F_lists_for T c_own_part X_check_sum m_check_sum k_check_sum b_check_sum)
  have X__law_ask := fn_or (sp' := spRef K xC_BadValue RcA68) ((fn_up0 (CX := L2.CX l.prog w) (ok__law_ask F__law_ask T c_lists_for c_entries c_greatest_clique c_fewest c_accepts_fewest c_coexist c_fault c_accepts_few c_needed)).mono (k := 14) (by decide)) (ok__law_askX F__law_ask T X_entries m_entries k_entries b_entries X_greatest_clique m_greatest_clique k_greatest_clique b_greatest_clique X_fewest m_fewest k_fewest b_fewest X_accepts_fewest m_accepts_fewest k_accepts_fewest b_accepts_fewest X_coexist m_coexist k_coexist b_coexist X_fault m_fault k_fault b_fault X_accepts_few m_accepts_few k_accepts_few b_accepts_few X_needed m_needed k_needed b_needed X_lists_for m_lists_for k_lists_for b_lists_for)
  have c__law_told : Cal l.prog w K mg base CX0 15 "_law_told" p__law_told (sp__law_told68 K) := ⟨_, _, (fn_down0 (fun vs H Q E h => h) (ok__law_toldX F__law_told T (E_BadValue base) H_BadValue X__law_ask m__law_ask k__law_ask b__law_ask)).mono (by decide), m__law_told, k__law_told, b__law_told⟩
  have c__law_named : Cal l.prog w K mg base CX0 16 "_law_named" p__law_named (sp__law_named68 K) := ⟨_, _, ok__law_named F__law_named T c__law_told c__law_next, m__law_named, k__law_named, b__law_named⟩
  exact ok_law F_law T c__law_stream c__law_next c__law_named
theorem walk {l : PySem.W.OpenLaw} {q : Program} {loose : List Str} {XP : (Str → Option Value) → Heap → Prop} {YP : World → Heap → Prop} {d : DefRec} {K : Params → PySem.W.Frag} (hn : l.most = some 63) (hdf : d.params.defaults = [])
    (hY : ∀ (w : World) (h : Heap), YP w h → (K w.params).In h)
    (F : ∀ (w : World) (mg : Str → Option Value) (fa : Addr) (h : Heap), (K w.params).In h → h.Ns mainGlobals mg → mg d.name = some (.ref fa) →
      ∃ fd : FuncData, (∀ (s : Shared) (u : Value), BindsTo s fd ⟨[u], []⟩ [("script", u)]) ∧ ∀ base : Heap, (K w.params).In base → base.Ns mainGlobals mg → FnOk l.prog w (K w.params) mg base CX0 17 fa fd ["script"] (spLaw (K w.params))) :
    PySem.W.WalkO q loose XP YP l.row.toRowW d [] (fun f vs => PySem.call f vs) :=
  L2.walk_of (n := 63) (k := 17) (x := "script") (CX := fun _ => CX0) (sp := fun w => spLaw (K w.params)) hn (by decide) hdf ⟨rfl, by decide, by decide⟩ hY F (fun _ _ a ns hl _ hS => ⟨a, ns, rfl, hS, hl, fun _ => rfl⟩) fun _ _ _ _ _ z => z
end W
open PySem PySem.W PyProof.Rows
set_option maxRecDepth 100000 in
set_option maxHeartbeats 0 in
theorem PySem.Challenge.cw_leastmoved_k68_refusals_of_populations_holds : PySem.Challenge.rw_leastmoved_k68_refusals_of_populations.Holds := by
  w_on; o_law; k_head; (case hw => w_witness2)
  k_fill
  refine W.walk (l := PySem.Challenge.rw_leastmoved_k68_refusals_of_populations) rfl rfl (fun w h Y => PySem.W.kIn_of Y) ?F
  case F =>
    intro w mg fa h KX G hmg
    refine' W.all_mk KX G hmg ?a_is_integer ?l_is_integer ?o_is_integer ?k_is_integer ?a_are_integers ?l_are_integers ?o_are_integers ?k_are_integers ?a_require ?l_require ?o_require ?k_require ?a_check_variants ?l_check_variants ?o_check_variants ?k_check_variants ?a_are_lists ?l_are_lists ?o_are_lists ?k_are_lists ?a_is_tuple_of_shares ?l_is_tuple_of_shares ?o_is_tuple_of_shares ?k_is_tuple_of_shares ?a_is_family ?l_is_family ?o_is_family ?k_is_family ?a_check_family ?l_check_family ?o_check_family ?k_check_family ?a_greatest_shares ?l_greatest_shares ?o_greatest_shares ?k_greatest_shares ?a_entries_below ?l_entries_below ?o_entries_below ?k_entries_below ?a_entries ?l_entries ?o_entries ?k_entries ?a_is_entry ?l_is_entry ?o_is_entry ?k_is_entry ?a_is_used ?l_is_used ?o_is_used ?k_is_used ?a_are_together ?l_are_together ?o_are_together ?k_are_together ?a_coexist ?l_coexist ?o_coexist ?k_coexist ?a_all_heights ?l_all_heights ?o_all_heights ?k_all_heights ?a_is_clique ?l_is_clique ?o_is_clique ?k_is_clique ?a_greatest_clique ?l_greatest_clique ?o_greatest_clique ?k_greatest_clique ?a_first_fault ?l_first_fault ?o_first_fault ?k_first_fault ?a_fault ?l_fault ?o_fault ?k_fault ?a_bits_of ?l_bits_of ?o_bits_of ?k_bits_of ?a_known_at_root ?l_known_at_root ?o_known_at_root ?k_known_at_root ?a_known_unlike ?l_known_unlike ?o_known_unlike ?k_known_unlike ?a_known_alike ?l_known_alike ?o_known_alike ?k_known_alike ?a_is_right_clique ?l_is_right_clique ?o_is_right_clique ?k_is_right_clique ?a_is_right_fork ?l_is_right_fork ?o_is_right_fork ?k_is_right_fork ?a_cases_after ?l_cases_after ?o_cases_after ?k_cases_after ?a_is_right_tree ?l_is_right_tree ?o_is_right_tree ?k_is_right_tree ?a_first_buckets ?l_first_buckets ?o_first_buckets ?k_first_buckets ?a_earlier_neighbours ?l_earlier_neighbours ?o_earlier_neighbours ?k_earlier_neighbours ?a_parted ?l_parted ?o_parted ?k_parted ?a_fewest ?l_fewest ?o_fewest ?k_fewest ?a_accepts_few ?l_accepts_few ?o_accepts_few ?k_accepts_few ?a_accepts_fewest ?l_accepts_fewest ?o_accepts_fewest ?k_accepts_fewest ?a_check_sum ?l_check_sum ?o_check_sum ?k_check_sum ?a_needed ?l_needed ?o_needed ?k_needed ?a_own_part ?l_own_part ?o_own_part ?k_own_part ?a_lists_for ?l_lists_for ?o_lists_for ?k_lists_for ?a__law_stream ?l__law_stream ?o__law_stream ?k__law_stream ?a__law_next ?l__law_next ?o__law_next ?k__law_next ?a__law_ask ?l__law_ask ?o__law_ask ?k__law_ask ?a__law_told ?l__law_told ?o__law_told ?k__law_told ?a__law_named ?l__law_named ?o__law_named ?k__law_named ?a_law ?l_law ?o_law ?k_law ?z_ValueError ?z_abs ?z_all ?z_any ?z_bool ?z_enumerate ?z_int ?z_isinstance ?z_len ?z_list ?z_max ?z_min ?z_range ?z_set ?z_sorted ?z_sum ?z_tuple ?z_zip ?g_MOST_VARIANTS ?g_MOST_BUCKETS ?g_MOST_TUPLES ?g_GREATEST_SUM ?g_GREATEST_BUCKET ?g_MOST_NODES ?g_MOST_ENTRIES ?g_MOST_FEW ?i_combinations ?xa_BadValue ?xi_BadValue ?xl_BadValue ?xo_BadValue ?xd_BadValue ?xv_BadValue ?xf_BadValue ?xc_BadValue ?xk_BadValue ?xr_BadValue ?xs_BadValue ?xb_BadValue ?xt_BadValue ?xp_BadValue ?xw_BadValue ?xz_BadValue ?xu_BadValue ?xy_BadValue ?xg_BadValue ?xh_BadValue ?xD_BadValue ?xn_BadValue ?xe_BadValue ?xx_BadValue ?xj_BadValue ?xm_BadValue ?yA_L ?yN_L ?yT_L ?yM_L ?yL_L ?yB_L ?yD_L ?yY_L ?yS_L
    (case a_is_integer => k_is); (case l_is_integer => k_is); (case o_is_integer => k_is); (case k_is_integer => k_is)
    (case a_are_integers => k_is); (case l_are_integers => k_is); (case o_are_integers => k_is); (case k_are_integers => k_is)
    (case a_require => k_is); (case l_require => k_is); (case o_require => k_is); (case k_require => k_is)
    (case a_check_variants => k_is); (case l_check_variants => k_is); (case o_check_variants => k_is); (case k_check_variants => k_is)
    (case a_are_lists => k_is); (case l_are_lists => k_is); (case o_are_lists => k_is); (case k_are_lists => k_is)
    (case a_is_tuple_of_shares => k_is); (case l_is_tuple_of_shares => k_is); (case o_is_tuple_of_shares => k_is); (case k_is_tuple_of_shares => k_is)
    (case a_is_family => k_is); (case l_is_family => k_is); (case o_is_family => k_is); (case k_is_family => k_is)
    (case a_check_family => k_is); (case l_check_family => k_is); (case o_check_family => k_is); (case k_check_family => k_is)
    (case a_greatest_shares => k_is); (case l_greatest_shares => k_is); (case o_greatest_shares => k_is); (case k_greatest_shares => k_is)
    (case a_entries_below => k_is); (case l_entries_below => k_is); (case o_entries_below => k_is); (case k_entries_below => k_is)
    (case a_entries => k_is); (case l_entries => k_is); (case o_entries => k_is); (case k_entries => k_is)
    (case a_is_entry => k_is); (case l_is_entry => k_is); (case o_is_entry => k_is); (case k_is_entry => k_is)
    (case a_is_used => k_is); (case l_is_used => k_is); (case o_is_used => k_is); (case k_is_used => k_is)
    (case a_are_together => k_is); (case l_are_together => k_is); (case o_are_together => k_is); (case k_are_together => k_is)
    (case a_coexist => k_is); (case l_coexist => k_is); (case o_coexist => k_is); (case k_coexist => k_is)
    (case a_all_heights => k_is); (case l_all_heights => k_is); (case o_all_heights => k_is); (case k_all_heights => k_is)
    (case a_is_clique => k_is); (case l_is_clique => k_is); (case o_is_clique => k_is); (case k_is_clique => k_is)
    (case a_greatest_clique => k_is); (case l_greatest_clique => k_is); (case o_greatest_clique => k_is); (case k_greatest_clique => k_is)
    (case a_first_fault => k_is); (case l_first_fault => k_is); (case o_first_fault => k_is); (case k_first_fault => k_is)
    (case a_fault => k_is); (case l_fault => k_is); (case o_fault => k_is); (case k_fault => k_is)
    (case a_bits_of => k_is); (case l_bits_of => k_is); (case o_bits_of => k_is); (case k_bits_of => k_is)
    (case a_known_at_root => k_is); (case l_known_at_root => k_is); (case o_known_at_root => k_is); (case k_known_at_root => k_is)
    (case a_known_unlike => k_is); (case l_known_unlike => k_is); (case o_known_unlike => k_is); (case k_known_unlike => k_is)
    (case a_known_alike => k_is); (case l_known_alike => k_is); (case o_known_alike => k_is); (case k_known_alike => k_is)
    (case a_is_right_clique => k_is); (case l_is_right_clique => k_is); (case o_is_right_clique => k_is); (case k_is_right_clique => k_is)
    (case a_is_right_fork => k_is); (case l_is_right_fork => k_is); (case o_is_right_fork => k_is); (case k_is_right_fork => k_is)
    (case a_cases_after => k_is); (case l_cases_after => k_is); (case o_cases_after => k_is); (case k_cases_after => k_is)
    (case a_is_right_tree => k_is); (case l_is_right_tree => k_is); (case o_is_right_tree => k_is); (case k_is_right_tree => k_is)
    (case a_first_buckets => k_is); (case l_first_buckets => k_is); (case o_first_buckets => k_is); (case k_first_buckets => k_is)
    (case a_earlier_neighbours => k_is); (case l_earlier_neighbours => k_is); (case o_earlier_neighbours => k_is); (case k_earlier_neighbours => k_is)
    (case a_parted => k_is); (case l_parted => k_is); (case o_parted => k_is); (case k_parted => k_is)
    (case a_fewest => k_is); (case l_fewest => k_is); (case o_fewest => k_is); (case k_fewest => k_is)
    (case a_accepts_few => k_is); (case l_accepts_few => k_is); (case o_accepts_few => k_is); (case k_accepts_few => k_is)
    (case a_accepts_fewest => k_is); (case l_accepts_fewest => k_is); (case o_accepts_fewest => k_is); (case k_accepts_fewest => k_is)
    (case a_check_sum => k_is); (case l_check_sum => k_is); (case o_check_sum => k_is); (case k_check_sum => k_is)
    (case a_needed => k_is); (case l_needed => k_is); (case o_needed => k_is); (case k_needed => k_is)
    (case a_own_part => k_is); (case l_own_part => k_is); (case o_own_part => k_is); (case k_own_part => k_is)
    (case a_lists_for => k_is); (case l_lists_for => k_is); (case o_lists_for => k_is); (case k_lists_for => k_is)
    (case a__law_stream => k_is); (case l__law_stream => k_is); (case o__law_stream => k_is); (case k__law_stream => k_is)
    (case a__law_next => k_is); (case l__law_next => k_is); (case o__law_next => k_is); (case k__law_next => k_is)
    (case a__law_ask => k_is); (case l__law_ask => k_is); (case o__law_ask => k_is); (case k__law_ask => k_is)
    (case a__law_told => k_is); (case l__law_told => k_is); (case o__law_told => k_is); (case k__law_told => k_is)
    (case a__law_named => k_is); (case l__law_named => k_is); (case o__law_named => k_is); (case k__law_named => k_is)
    (case a_law => k_is); (case l_law => k_is); (case o_law => k_is); (case k_law => k_is)
    (case z_ValueError => k_is)
    (case z_abs => k_is)
    (case z_all => k_is)
    (case z_any => k_is)
    (case z_bool => k_is)
    (case z_enumerate => k_is)
    (case z_int => k_is)
    (case z_isinstance => k_is)
    (case z_len => k_is)
    (case z_list => k_is)
    (case z_max => k_is)
    (case z_min => k_is)
    (case z_range => k_is)
    (case z_set => k_is)
    (case z_sorted => k_is)
    (case z_sum => k_is)
    (case z_tuple => k_is)
    (case z_zip => k_is)
    (case g_MOST_VARIANTS => k_is)
    (case g_MOST_BUCKETS => k_is)
    (case g_MOST_TUPLES => k_is)
    (case g_GREATEST_SUM => k_is)
    (case g_GREATEST_BUCKET => k_is)
    (case g_MOST_NODES => k_is)
    (case g_MOST_ENTRIES => k_is)
    (case g_MOST_FEW => k_is)
    (case i_combinations => k_is)
    (case xa_BadValue => k_is)
    (case xi_BadValue => k_is)
    (case xl_BadValue => k_is)
    (case xo_BadValue => k_is)
    (case xd_BadValue => k_is)
    (case xv_BadValue => exact rfl)
    (case xf_BadValue => first | rfl | decide +kernel)
    (case xc_BadValue => k_is)
    (case xk_BadValue => k_is)
    (case xr_BadValue => first | rfl | decide +kernel)
    (case xs_BadValue => k_is)
    (case xb_BadValue => k_is)
    (case xt_BadValue => k_is)
    (case xp_BadValue => k_is)
    (case xw_BadValue => k_is)
    (case xz_BadValue => k_is)
    (case xu_BadValue => ks_is)
    (case xy_BadValue => k_is)
    (case xg_BadValue => k_is)
    (case xh_BadValue => k_is)
    (case xD_BadValue => k_is)
    (case xn_BadValue => k_is)
    (case xe_BadValue => k_is)
    (case xx_BadValue => k_is)
    (case xj_BadValue => k_is)
    (case xm_BadValue => first | rfl | decide +kernel)
    (case yA_L => k_is)
    (case yN_L => k_is)
    (case yT_L => k_is)
    (case yM_L => k_is)
    (case yL_L => k_is)
    (case yB_L => k_is)
    (case yD_L => k_is)
    (case yY_L => k_is)
    (case yS_L => k_is)
