import PyProof.Rows.All
import Wide.All
import OpenK.AllK
import Wide.FinOn
import HandS.ForMost
import HandS.TupAny
import HandS.Zip
import HandS.IsInst
import HandS.Walk
import HandS.SortInts
import HandS.Strs
import HandS.SetFor
import HandS.Evl
import PyProof.Draws
import KE.GoesEnum
import KE.KItemsList
import HandS.Gcd
import KE.KMathGC
import HandS.Deep
import HandS.Wide
import HandS.TupLe
import PyProof.ListNew
import HandS.GenList
import HandS.Sort
import HandS.ExcInit
import HandS.WordsExc
import HandS.FStr
import KE.KExcSuper
import KE.KSuper
import HandS.ExcOwn
import HandS.ExcField
import HandS.TupMul
import HandS.Style
import PyProof.CallType
import HandS.Conv
import PyProof.P3In
import PyProof.Rows.SeqMore
import KE.SortData
import KE.SortLaws
import KE.SortKeyHeap
import HandS.SortKw
import HandS.ExcIs
import KE.KExcIs
import HandS.WideBits
import HandS.Flow
import HandS.Small
import HandS.Steps
import HandS.Text
import HandS.LawCells
import PyProof.StrBlock2
import KE.IntTextLaws
import HandS.ReplaceLit
import PySem.Challenge.RW_leastmoved_k93_problems_of_texts
set_option Elab.async false
set_option linter.all false
set_option maxRecDepth 100000
set_option maxHeartbeats 4000000
namespace Lm
open PySem PySem.Spec PyProof.Rows L2

/-- what is around: the written part, and (perhaps) the stream with the script's copy -/
structure Ct where
  K : PySem.W.Frag
  so : Option (Addr × Addr)
def okA (c : Ct) (a : Addr) : Prop := ∀ st l, c.so = some (st, l) → a ≠ st
/-- the stream at st: a copy of the script at l, a cell, a place -/
def Str1 (K : PySem.W.Frag) (st l : Addr) (H : Hp) : Prop :=
  ∃ (ns : List Int) (x k : Int), H st = some (.lst [.ref l, .int x, .int k]) ∧ H l = some (.lst (ns.map V.int)) ∧ l ≠ st ∧ 0 ≤ k
def Ji (c : Ct) (H : Hp) : Prop := ∀ st l, c.so = some (st, l) → Str1 c.K st l H
def Rr (c : Ct) (H H' : Hp) : Prop := (∀ a o, okA c a → H a = some o → H' a = some o) ∧ (Ji c H → Ji c H')
variable {c : Ct} {H H' H0 H1 H2 H3 : Hp}
theorem Rr.rf : Rr c H H := ⟨fun _ _ _ h => h, fun h => h⟩
theorem Rr.tr (a : Rr c H H1) (b : Rr c H1 H2) : Rr c H H2 := ⟨fun x o k h => b.1 x o k (a.1 x o k h), fun h => b.2 (a.2 h)⟩
theorem Ji.same (j : Ji c H) (e : Same H H') : Ji c H' := fun st l h => by
  obtain ⟨ns, x, k, h1, h2, h3, h4⟩ := j st l h
  exact ⟨ns, x, k, e _ _ h1, e _ _ h2, h3, h4⟩
theorem Rr.same (e : Same H H') : Rr c H H' := ⟨fun x o _ h => e x o h, fun j => j.same e⟩
theorem okA.fresh (j : Ji c H) {p : Addr} (h : H p = none) : okA c p := fun st l e z => by
  obtain ⟨ns, x, k, h1, _⟩ := j st l e
  rw [z, h1] at h
  cases h
theorem okA.tup (j : Ji c H) {p : Addr} {o : HO} (h : H p = some o) (n : ∀ xs, o ≠ .lst xs) : okA c p := fun st l e z => by
  obtain ⟨ns, x, k, h1, _⟩ := j st l e
  rw [z, h1] at h
  exact n _ (Option.some.inj h).symm
theorem Rr.back (r : Rr c H H') (j : Ji c H) {p : Addr} (h : H' p = none) : H p = none := by
  cases q : H p with
  | none => rfl
  | some o =>
    have k : okA c p := fun st l e z => by
      obtain ⟨ns, x, k, h1, _⟩ := r.2 j st l e
      rw [z, h1] at h
      cases h
    rw [r.1 p o k q] at h
    cases h
/-- a tuple (one that has no dict of its own) -/
def TpN (K : PySem.W.Frag) (H : Hp) (a : Addr) (xs : List V) : Prop :=
  (∃ o : Obj, o.dict = none ∧ H a = some (.frz o (.tup xs))) ∨
    ∃ (o : Obj) (its : Array Value) (n : Nat), K.lookup a = some o ∧ o.cls = .type "tuple" ∧ o.dict = none ∧ o.data = .seq its n ∧ its.size ≤ sizeLine ∧ Vals xs its.toList
theorem TpN.sq {K : PySem.W.Frag} {a : Addr} {xs : List V} (h : TpN K H a xs) : SqT K H a xs := by
  rcases h with ⟨o, _, h⟩ | ⟨o, its, n, h1, h2, _, h3, h4, h5⟩
  · exact .inl (.inr ⟨o, h⟩)
  · exact .inr ⟨o, its, n, h1, h2, h3, h4, h5⟩
theorem Rr.tup (r : Rr c H H') (j : Ji c H) {a : Addr} {xs : List V} (h : TpN c.K H a xs) : TpN c.K H' a xs := by
  rcases h with ⟨o, q, h⟩ | h
  · exact .inl ⟨o, q, r.1 _ _ (okA.tup j h (fun _ => by simp)) h⟩
  · exact .inr h
theorem Rr.lst (r : Rr c H H') {a : Addr} {xs : List V} (k : okA c a) (h : SqL c.K H a xs) : SqL c.K H' a xs := by
  rcases h with (h | ⟨o, h⟩) | h
  · exact .inl (.inl (r.1 _ _ k h))
  · exact .inl (.inr ⟨o, r.1 _ _ k h⟩)
  · exact .inr h

/-! ### values as data: ints, texts, tuples; lists whose addresses are not the stream's -/
mutual
inductive Bo (c : Ct) (H : Hp) : V → PyData → Prop
  | non : Bo c H .non .none
  | bl (b : Bool) : Bo c H (.bl b) (.bool b)
  | int (i : Int) : Bo c H (.int i) (.int i)
  | str (x : Str) : Bo c H (.str x) (.str x)
  | lst {a : Addr} {xs : List V} {ds : List PyData} : okA c a → SqL c.K H a xs → BoAll c H xs ds → Bo c H (.ref a) (.list ds)
  | tup {a : Addr} {xs : List V} {ds : List PyData} : TpN c.K H a xs → BoAll c H xs ds → Bo c H (.ref a) (.tuple ds)
inductive BoAll (c : Ct) (H : Hp) : List V → List PyData → Prop
  | nil : BoAll c H [] []
  | cons {v : V} {vs : List V} {d : PyData} {ds : List PyData} : Bo c H v d → BoAll c H vs ds → BoAll c H (v :: vs) (d :: ds)
end
mutual
theorem Bo.up (h : ∀ a xs, TpN c.K H a xs → TpN c.K H' a xs) (g : ∀ a xs, okA c a → SqL c.K H a xs → SqL c.K H' a xs) : ∀ {v : V} {d : PyData}, Bo c H v d → Bo c H' v d
  | _, _, .non => .non
  | _, _, .bl b => .bl b
  | _, _, .int b => .int b
  | _, _, .str b => .str b
  | _, _, .lst k s a => .lst k (g _ _ k s) (BoAll.up h g a)
  | _, _, .tup s a => .tup (h _ _ s) (BoAll.up h g a)
theorem BoAll.up (h : ∀ a xs, TpN c.K H a xs → TpN c.K H' a xs) (g : ∀ a xs, okA c a → SqL c.K H a xs → SqL c.K H' a xs) : ∀ {v : List V} {d : List PyData}, BoAll c H v d → BoAll c H' v d
  | _, _, .nil => .nil
  | _, _, .cons a b => .cons (Bo.up h g a) (BoAll.up h g b)
end
theorem Bo.mono (j : Ji c H) (r : Rr c H H') {v : V} {d : PyData} (h : Bo c H v d) : Bo c H' v d := h.up (fun _ _ s => r.tup j s) (fun _ _ k s => r.lst k s)
theorem BoAll.mono (j : Ji c H) (r : Rr c H H') {v : List V} {d : List PyData} (h : BoAll c H v d) : BoAll c H' v d := h.up (fun _ _ s => r.tup j s) (fun _ _ k s => r.lst k s)
theorem sqT_same {K : PySem.W.Frag} (e : Same H H') {a : Addr} {xs : List V} (h : TpN K H a xs) : TpN K H' a xs := by
  rcases h with ⟨o, q, h⟩ | h
  · exact .inl ⟨o, q, e _ _ h⟩
  · exact .inr h
theorem Bo.same (e : Same H H') {v : V} {d : PyData} (h : Bo c H v d) : Bo c H' v d := h.up (fun _ _ s => sqT_same e s) (fun _ _ k s => e.seq s)
theorem BoAll.same (e : Same H H') {v : List V} {d : List PyData} (h : BoAll c H v d) : BoAll c H' v d := h.up (fun _ _ s => sqT_same e s) (fun _ _ k s => e.seq s)
theorem BoAll.len : ∀ {v : List V} {d : List PyData}, BoAll c H v d → v.length = d.length
  | _, _, .nil => rfl
  | _, _, .cons _ b => by simp [BoAll.len b]
theorem BoAll.get : ∀ {v : List V} {d : List PyData} {i : Nat} {x : V}, BoAll c H v d → v[i]? = some x → ∃ e, d[i]? = some e ∧ Bo c H x e
  | _, _, _, _, .nil, h => by simp at h
  | _, _, 0, x, .cons a b, h => by
    have e : _ = x := Option.some.inj h
    subst e
    exact ⟨_, rfl, a⟩
  | _, _, i + 1, x, .cons a b, h => BoAll.get (i := i) b (by simpa using h)
theorem BoAll.gets : ∀ {v : List V} {d : List PyData} {i : Nat} {e : PyData}, BoAll c H v d → d[i]? = some e → ∃ x, v[i]? = some x ∧ Bo c H x e
  | _, _, _, _, .nil, h => by simp at h
  | _, _, 0, x, .cons a b, h => by
    have e : _ = x := Option.some.inj h
    subst e
    exact ⟨_, rfl, a⟩
  | _, _, i + 1, x, .cons a b, h => BoAll.gets (i := i) b (by simpa using h)
theorem BoAll.app : ∀ {v w : List V} {d e : List PyData}, BoAll c H v d → BoAll c H w e → BoAll c H (v ++ w) (d ++ e)
  | _, _, _, _, .nil, b => b
  | _, _, _, _, .cons a r, b => .cons a (BoAll.app r b)
theorem BoAll.set : ∀ {v : List V} {d : List PyData} {i : Nat} {x : V} {e : PyData}, BoAll c H v d → Bo c H x e → BoAll c H (v.set i x) (d.set i e)
  | _, _, _, _, _, .nil, b => .nil
  | _, _, 0, _, _, .cons a r, b => .cons b r
  | _, _, i + 1, _, _, .cons a r, b => .cons a (BoAll.set r b)
theorem BoAll.take : ∀ {v : List V} {d : List PyData} (i : Nat), BoAll c H v d → BoAll c H (v.take i) (d.take i)
  | _, _, 0, _ => .nil
  | _, _, i + 1, .nil => .nil
  | _, _, i + 1, .cons a b => .cons a (BoAll.take i b)
theorem BoAll.drop : ∀ {v : List V} {d : List PyData} (i : Nat), BoAll c H v d → BoAll c H (v.drop i) (d.drop i)
  | _, _, 0, h => h
  | _, _, i + 1, .nil => .nil
  | _, _, i + 1, .cons a b => BoAll.drop i b
theorem Bo.int' {v : V} {i : Int} (h : Bo c H v (.int i)) : v = .int i := by cases h; rfl
theorem Bo.bl' {v : V} {i : Bool} (h : Bo c H v (.bool i)) : v = .bl i := by cases h; rfl
theorem Bo.non' {v : V} (h : Bo c H v .none) : v = .non := by cases h; rfl
theorem Bo.str' {v : V} {i : Str} (h : Bo c H v (.str i)) : v = .str i := by cases h; rfl
theorem Bo.tup' {v : V} {ds : List PyData} (h : Bo c H v (.tuple ds)) : ∃ a xs, v = .ref a ∧ TpN c.K H a xs ∧ BoAll c H xs ds := by cases h with | tup s a => exact ⟨_, _, rfl, s, a⟩
theorem Bo.lst' {v : V} {ds : List PyData} (h : Bo c H v (.list ds)) : ∃ a xs, v = .ref a ∧ okA c a ∧ SqL c.K H a xs ∧ BoAll c H xs ds := by cases h with | lst k s a => exact ⟨_, _, rfl, k, s, a⟩
theorem BoAll.ints : ∀ {v : List V} {ns : List Int}, BoAll c H v (ns.map PyData.int) → v = ns.map V.int
  | v, [], h => by cases h; rfl
  | v, n :: ns, h => by
    cases h with
    | cons a b => rw [a.int', BoAll.ints b]; rfl
theorem BoAll.ofInts : ∀ (ns : List Int), BoAll c H (ns.map V.int) (ns.map PyData.int)
  | [] => .nil
  | n :: ns => .cons (.int n) (BoAll.ofInts ns)
theorem BoAll.bools : ∀ {v : List V} {ns : List Bool}, BoAll c H v (ns.map PyData.bool) → v = ns.map V.bl
  | v, [], h => by cases h; rfl
  | v, n :: ns, h => by
    cases h with
    | cons a b => rw [a.bl', BoAll.bools b]; rfl
mutual
theorem Bo.dp : ∀ {v : V} {d : PyData}, Bo c H v d → Dp c.K H v d
  | _, _, .non => .non
  | _, _, .bl b => .bl b
  | _, _, .int b => .int b
  | _, _, .str b => .str b
  | _, _, .lst _ s a => .lst s (BoAll.dp a)
  | _, _, .tup s a => .tup s.sq (BoAll.dp a)
theorem BoAll.dp : ∀ {v : List V} {d : List PyData}, BoAll c H v d → DpAll c.K H v d
  | _, _, .nil => .nil
  | _, _, .cons a b => .cons (Bo.dp a) (BoAll.dp b)
end
/-! no stream, no care -/
mutual
theorem Bo.pure : ∀ {v : V} {d : PyData}, Bo c H v d → Bo ⟨c.K, none⟩ H v d
  | _, _, .non => .non
  | _, _, .bl b => .bl b
  | _, _, .int b => .int b
  | _, _, .str b => .str b
  | _, _, .lst _ s a => .lst (fun _ _ e => nomatch e) s (BoAll.pure a)
  | _, _, .tup s a => .tup s (BoAll.pure a)
theorem BoAll.pure : ∀ {v : List V} {d : List PyData}, BoAll c H v d → BoAll ⟨c.K, none⟩ H v d
  | _, _, .nil => .nil
  | _, _, .cons a b => .cons (Bo.pure a) (BoAll.pure b)
end
/-! data without lists -/
mutual
def flatD : PyData → Bool
  | .none => true
  | .bool _ => true
  | .int _ => true
  | .str _ => true
  | .tuple ds => flatAll ds
  | _ => false
def flatAll : List PyData → Bool
  | [] => true
  | d :: ds => flatD d && flatAll ds
end
theorem flatAll_ints (ns : List Int) : flatAll (ns.map PyData.int) = true := by
  induction ns with
  | nil => rfl
  | cons n ns ih =>
    show (flatD (.int n) && flatAll (ns.map PyData.int)) = true
    rw [ih]
    rfl
theorem flatAll_mem {ds : List PyData} (h : ∀ d ∈ ds, flatD d = true) : flatAll ds = true := by
  induction ds with
  | nil => rfl
  | cons d ds ih =>
    show (flatD d && flatAll ds) = true
    rw [h d (by simp), ih fun e he => h e (by simp [he])]
    rfl
mutual
theorem Bo.flat {c' : Ct} (hk : c'.K = c.K) : ∀ {v : V} {d : PyData}, flatD d = true → Bo c H v d → Bo c' H v d
  | _, _, _, .non => .non
  | _, _, _, .bl b => .bl b
  | _, _, _, .int b => .int b
  | _, _, _, .str b => .str b
  | _, _, q, .lst _ s a => by simp [flatD] at q
  | _, _, q, .tup s a => .tup (by rw [hk]; exact s) (BoAll.flat hk (by simpa [flatD] using q) a)
theorem BoAll.flat {c' : Ct} (hk : c'.K = c.K) : ∀ {v : List V} {d : List PyData}, flatAll d = true → BoAll c H v d → BoAll c' H v d
  | _, _, _, .nil => .nil
  | _, _, q, .cons a b => by
    have q' : (flatD _ && flatAll _) = true := q
    rw [Bool.and_eq_true] at q'
    exact .cons (Bo.flat hk q'.1 a) (BoAll.flat hk q'.2 b)
end

/-! ### the heap without some addresses -/
def mns (H : Hp) (O : List Addr) : Hp := fun a => if a ∈ O then none else H a
theorem mns_in {O : List Addr} {a : Addr} (h : a ∈ O) : mns H O a = none := if_pos h
theorem mns_out {O : List Addr} {a : Addr} (h : a ∉ O) : mns H O a = H a := if_neg h
theorem mns_same {O : List Addr} : Same (mns H O) H := fun a o h => by
  by_cases q : a ∈ O
  · rw [mns_in q] at h; cases h
  · rw [mns_out q] at h; exact h
theorem mns_some {O : List Addr} {a : Addr} {o : HO} (h : mns H O a = some o) : a ∉ O ∧ H a = some o := by
  by_cases q : a ∈ O
  · rw [mns_in q] at h; cases h
  · rw [mns_out q] at h; exact ⟨q, h⟩
theorem mns_sub {O O' : List Addr} (s : ∀ a, a ∈ O' → a ∈ O) : Same (mns H O) (mns H O') := fun a o h => by
  obtain ⟨q, h⟩ := mns_some h
  rw [mns_out (fun z => q (s a z))]
  exact h
theorem mns_nil : mns H [] = H := by
  funext a
  exact mns_out (by simp)
theorem Rr.mns {O : List Addr} (r : Rr c H H') (j : Ji c (mns H O)) (q : ∀ a ∈ O, okA c a) : Rr c (mns H O) (mns H' O) := by
  refine ⟨fun a o k h => ?_, fun _ st l e => ?_⟩
  · obtain ⟨n, h⟩ := mns_some h
    rw [mns_out n]
    exact r.1 a o k h
  · obtain ⟨ns, x, k, h1, h2, h3, h4⟩ := j st l e
    obtain ⟨n1, h1⟩ := mns_some h1
    obtain ⟨n2, h2⟩ := mns_some h2
    have jH : Ji c H := j.same mns_same
    obtain ⟨ns', x', k', g1, g2, g3, g4⟩ := r.2 jH st l e
    refine ⟨ns', x', k', ?_, ?_, g3, g4⟩
    · rw [mns_out n1]; exact g1
    · rw [mns_out n2]; exact g2
end Lm


namespace Lm
open PySem PySem.Spec PyProof.Rows L2
variable {c : Ct} {H H' H0 H1 H2 H3 : Hp} {O : List Addr}

/-! flat data leans on tuples alone -/
mutual
theorem Bo.flatTo {c' : Ct} (h : ∀ a xs, TpN c.K H a xs → TpN c'.K H' a xs) : ∀ {v : V} {d : PyData}, flatD d = true → Bo c H v d → Bo c' H' v d
  | _, _, _, .non => .non
  | _, _, _, .bl b => .bl b
  | _, _, _, .int b => .int b
  | _, _, _, .str b => .str b
  | _, _, q, .lst _ s a => by simp [flatD] at q
  | _, _, q, .tup s a => .tup (h _ _ s) (BoAll.flatTo h (by simpa [flatD] using q) a)
theorem BoAll.flatTo {c' : Ct} (h : ∀ a xs, TpN c.K H a xs → TpN c'.K H' a xs) : ∀ {v : List V} {d : List PyData}, flatAll d = true → BoAll c H v d → BoAll c' H' v d
  | _, _, _, .nil => .nil
  | _, _, q, .cons a b => by
    have q' : (flatD _ && flatAll _) = true := q
    rw [Bool.and_eq_true] at q'
    exact .cons (Bo.flatTo h q'.1 a) (BoAll.flatTo h q'.2 b)
end
/-- what may be written -/
def OwnU : HO → Prop
  | .lst _ => True
  | .dK _ => True
  | .dT _ => True
  | .set _ _ => True
  | _ => False
theorem sqT_mns {K : PySem.W.Frag} (hO : ∀ a ∈ O, ∃ u, H a = some u ∧ OwnU u) {a : Addr} {xs : List V} (h : TpN K H a xs) : TpN K (mns H O) a xs := by
  have n : ∀ u, H a = some u → ¬ OwnU u → mns H O a = some u := fun u e k => by
    have : a ∉ O := fun z => by
      obtain ⟨y, q, w⟩ := hO a z
      rw [q] at e
      exact k (Option.some.inj e ▸ w)
    rw [mns_out this]; exact e
  rcases h with ⟨o, q, h⟩ | h
  · exact .inl ⟨o, q, n _ h fun w => w⟩
  · exact .inr h
theorem sqT_upd {K : PySem.W.Frag} {p : Addr} {zs : List V} {o : HO} (hp : H p = some (.lst zs)) {a : Addr} {xs : List V} (h : TpN K H a xs) : TpN K (upd H p o) a xs := by
  have n : ∀ u, H a = some u → (∀ ys, u ≠ .lst ys) → upd H p o a = some u := fun u e k => by
    have : a ≠ p := fun z => by
      rw [z, hp] at e
      exact k zs (Option.some.inj e).symm
    rw [upd_ne this]; exact e
  rcases h with ⟨o, q, h⟩ | h
  · exact .inl ⟨o, q, n _ h fun _ => by simp⟩
  · exact .inr h

/-! ### lists of one's own: the addresses that may be written -/
mutual
inductive Fo (c : Ct) (H : Hp) : V → PyData → List Addr → Prop
  | leaf {v : V} {d : PyData} : flatD d = true → Bo c H v d → Fo c H v d []
  | lst {a : Addr} {xs : List V} {ds : List PyData} {fp : List Addr} : H a = some (.lst xs) → FoAll c H xs ds fp → Fo c H (.ref a) (.list ds) (a :: fp)
inductive FoAll (c : Ct) (H : Hp) : List V → List PyData → List Addr → Prop
  | nil : FoAll c H [] [] []
  | cons {v : V} {vs : List V} {d : PyData} {ds : List PyData} {f fs : List Addr} : Fo c H v d f → FoAll c H vs ds fs → FoAll c H (v :: vs) (d :: ds) (f ++ fs)
end
mutual
theorem Fo.up (h : ∀ a xs, TpN c.K H a xs → TpN c.K H' a xs) : ∀ {v : V} {d : PyData} {fp : List Addr}, (∀ a ∈ fp, ∀ o, H a = some o → H' a = some o) → Fo c H v d fp → Fo c H' v d fp
  | _, _, _, _, .leaf q b => .leaf q (b.flatTo h q)
  | _, _, _, k, .lst e a => .lst (k _ (by simp) _ e) (FoAll.up h (fun b hb => k b (by simp [hb])) a)
theorem FoAll.up (h : ∀ a xs, TpN c.K H a xs → TpN c.K H' a xs) : ∀ {v : List V} {d : List PyData} {fp : List Addr}, (∀ a ∈ fp, ∀ o, H a = some o → H' a = some o) → FoAll c H v d fp → FoAll c H' v d fp
  | _, _, _, _, .nil => .nil
  | _, _, _, k, .cons a b => .cons (Fo.up h (fun x hx => k x (by simp [hx])) a) (FoAll.up h (fun x hx => k x (by simp [hx])) b)
end
mutual
theorem Fo.bo : ∀ {v : V} {d : PyData} {fp : List Addr}, (∀ a ∈ fp, okA c a) → Fo c H v d fp → Bo c H v d
  | _, _, _, _, .leaf _ b => b
  | _, _, _, k, .lst e a => .lst (k _ (by simp)) (.inl (.inl e)) (FoAll.bo (fun b hb => k b (by simp [hb])) a)
theorem FoAll.bo : ∀ {v : List V} {d : List PyData} {fp : List Addr}, (∀ a ∈ fp, okA c a) → FoAll c H v d fp → BoAll c H v d
  | _, _, _, _, .nil => .nil
  | _, _, _, k, .cons a b => .cons (Fo.bo (fun x hx => k x (by simp [hx])) a) (FoAll.bo (fun x hx => k x (by simp [hx])) b)
end
theorem FoAll.leaves : ∀ {v : List V} {d : List PyData}, flatAll d = true → BoAll c H v d → FoAll c H v d []
  | _, _, _, .nil => .nil
  | _, _, q, .cons a b => by
    have q' : (flatD _ && flatAll _) = true := q
    rw [Bool.and_eq_true] at q'
    exact .cons (f := []) (fs := []) (.leaf q'.1 a) (FoAll.leaves q'.2 b)
mutual
theorem Fo.isL : ∀ {v : V} {d : PyData} {fp : List Addr}, Fo c H v d fp → ∀ a ∈ fp, ∃ xs, H a = some (.lst xs)
  | _, _, _, .leaf _ _, a, h => by simp at h
  | _, _, _, .lst e f, a, h => by
    rcases List.mem_cons.mp h with q | q
    · rw [q]; exact ⟨_, e⟩
    · exact FoAll.isL f a q
theorem FoAll.isL : ∀ {v : List V} {d : List PyData} {fp : List Addr}, FoAll c H v d fp → ∀ a ∈ fp, ∃ xs, H a = some (.lst xs)
  | _, _, _, .nil, a, h => by simp at h
  | _, _, _, .cons e f, a, h => by
    rcases List.mem_append.mp h with q | q
    · exact Fo.isL e a q
    · exact FoAll.isL f a q
end
theorem FoAll.app : ∀ {v w : List V} {d e : List PyData} {f g : List Addr}, FoAll c H v d f → FoAll c H w e g → FoAll c H (v ++ w) (d ++ e) (f ++ g)
  | _, _, _, _, _, _, .nil, b => b
  | _, _, _, _, _, _, .cons a r, b => by
    rw [List.append_assoc]
    exact .cons a (FoAll.app r b)
/-- a flat list of one's own -/
theorem Fo.list' {v : V} {ds : List PyData} {fp : List Addr} (h : Fo c H v (.list ds) fp) : ∃ a xs f, v = .ref a ∧ fp = a :: f ∧ H a = some (.lst xs) ∧ FoAll c H xs ds f := by
  cases h with
  | leaf q _ => simp [flatD] at q
  | lst e a => exact ⟨_, _, _, rfl, rfl, e, a⟩
theorem FoAll.flat0 : ∀ {v : List V} {d : List PyData} {f : List Addr}, flatAll d = true → FoAll c H v d f → f = [] ∧ BoAll c H v d
  | _, _, _, _, .nil => ⟨rfl, .nil⟩
  | _, _, _, q, .cons a b => by
    have q' : (flatD _ && flatAll _) = true := q
    rw [Bool.and_eq_true] at q'
    obtain ⟨e1, b1⟩ := FoAll.flat0 q'.2 b
    cases a with
    | leaf _ x => exact ⟨by rw [e1]; rfl, .cons x b1⟩
    | lst _ _ => simp [flatD] at q'

/-! ### what the slots hold -/
inductive Rs where
  /-- a value that will not change -/
  | v (d : PyData)
  /-- a list of one's own -/
  | o (d : PyData)
  /-- this very value -/
  | r (x : V)
  /-- a dict or set of one's own -/
  | d (u : HO)
  /-- a list of one's own whose items stay -/
  | w (ds : List PyData)
def RepO (c : Ct) (O : List Addr) (H : Hp) (x : Option V) : Option Rs → List Addr → Prop
  | none, fp => fp = []
  | some (.v d), fp => fp = [] ∧ ∃ v, x = some v ∧ Bo c (mns H O) v d
  | some (.o d), fp => ∃ v, x = some v ∧ Fo c H v d fp
  | some (.r y), fp => fp = [] ∧ x = some y
  | some (.d u), fp => ∃ a, fp = [a] ∧ x = some (.ref a) ∧ H a = some u ∧ OwnU u
  | some (.w ds), fp => ∃ a xs, fp = [a] ∧ x = some (.ref a) ∧ H a = some (.lst xs) ∧ BoAll c (mns H O) xs ds
inductive Reps (c : Ct) (O : List Addr) (H : Hp) : L2.St → List (Option Rs) → List Addr → Prop
  | nil : Reps c O H [] [] []
  | cons {x : Option V} {s : Option Rs} {f fs : List Addr} {σ : L2.St} {Γ : List (Option Rs)} : RepO c O H x s f → Reps c O H σ Γ fs → Reps c O H (x :: σ) (s :: Γ) (f ++ fs)
theorem Reps.len {σ : L2.St} {Γ : List (Option Rs)} {fp : List Addr} (h : Reps c O H σ Γ fp) : σ.length = Γ.length := by
  induction h with
  | nil => rfl
  | cons _ _ ih => simp [ih]
theorem Reps.map {O' : List Addr} {σ : L2.St} {Γ : List (Option Rs)} {fp : List Addr} (h : Reps c O H σ Γ fp) (k : ∀ x s f, (∀ a ∈ f, a ∈ fp) → RepO c O H x s f → RepO c O' H' x s f) : Reps c O' H' σ Γ fp := by
  induction h with
  | nil => exact .nil
  | cons a b ih => exact .cons (k _ _ _ (fun x hx => by simp [hx]) a) (ih fun x s f q => k x s f fun y hy => by simp [q y hy])
/-- the i-th slot, and how it is changed -/
theorem Reps.nth {σ : L2.St} {Γ : List (Option Rs)} {fp : List Addr} (h : Reps c O H σ Γ fp) : ∀ {i : Nat} {s : Option Rs}, Γ[i]? = some s →
    ∃ x f pre post, σ[i]? = some x ∧ RepO c O H x s f ∧ fp = pre ++ (f ++ post) ∧
      ∀ (O' : List Addr) (H' : Hp) (x' : Option V) (s' : Option Rs) (f' : List Addr), (∀ y t g, (∀ a ∈ g, a ∈ pre ++ post) → RepO c O H y t g → RepO c O' H' y t g) → RepO c O' H' x' s' f' → Reps c O' H' (σ.set i x') (Γ.set i s') (pre ++ (f' ++ post)) := by
  induction h with
  | nil => intro i s e; simp at e
  | cons a b ih =>
    rename_i x0 s0 f0 fs0 σ0 Γ0
    intro i s e
    cases i with
    | zero =>
      have e' : s0 = s := by simpa using e
      subst e'
      refine ⟨x0, f0, [], fs0, rfl, a, rfl, fun O' H' x' s' f' k r => ?_⟩
      show Reps c O' H' (x' :: σ0) (s' :: Γ0) (f' ++ fs0)
      exact .cons r (b.map fun y t g q z => k y t g (fun u hu => by simpa using q u hu) z)
    | succ i =>
      obtain ⟨x, f, pre, post, h1, h2, h3, h4⟩ := ih (i := i) (by simpa using e)
      refine ⟨x, f, f0 ++ pre, post, by simpa using h1, h2, by rw [h3]; simp, fun O' H' x' s' f' k r => ?_⟩
      have := h4 O' H' x' s' f' (fun y t g q z => k y t g (fun u hu => by have := q u hu; simp at this ⊢; rcases this with w | w <;> simp [w]) z) r
      rw [List.append_assoc]
      exact .cons (k _ _ _ (fun u hu => by simp [hu]) a) this

/-- the entry's heap H0, the addresses of one's own O, the heap H, the slots σ and what they hold -/
structure Env (c : Ct) (H0 : Hp) (O : List Addr) (H : Hp) (σ : L2.St) (Γ : List (Option Rs)) : Prop where
  r0 : Rr c H0 (mns H O)
  j : Ji c (mns H O)
  fr : ∀ a ∈ O, H0 a = none
  dm : ∀ a ∈ O, ∃ u, H a = some u ∧ OwnU u
  rep : ∃ fp, Reps c O H σ Γ fp ∧ fp.Nodup ∧ ∀ a ∈ fp, a ∈ O
variable {σ : L2.St} {Γ : List (Option Rs)}
theorem Env.jH (e : Env c H0 O H σ Γ) : Ji c H := e.j.same mns_same
theorem Env.okO (e : Env c H0 O H σ Γ) : ∀ a ∈ O, okA c a := fun a ha st l q z => by
  obtain ⟨ns, x, k, h1, _⟩ := e.j st l q
  rw [← z, mns_in ha] at h1
  cases h1
theorem Env.rH (e : Env c H0 O H σ Γ) : Rr c H0 H := e.r0.tr (Rr.same mns_same)
theorem Env.len (e : Env c H0 O H σ Γ) : σ.length = Γ.length := let ⟨_, h, _⟩ := e.rep; h.len
/-- the heap goes on -/
theorem Env.on (e : Env c H0 O H σ Γ) (r : Rr c H H') : Env c H0 O H' σ Γ := by
  have rm := r.mns e.j e.okO
  refine ⟨e.r0.tr rm, rm.2 e.j, e.fr, fun a ha => ?_, ?_⟩
  · obtain ⟨u, q, w⟩ := e.dm a ha
    exact ⟨u, r.1 a _ (e.okO a ha) q, w⟩
  · obtain ⟨fp, h, nd, sub⟩ := e.rep
    refine ⟨fp, h.map fun x s f q z => ?_, nd, sub⟩
    cases s with
    | none => exact z
    | some s =>
      cases s with
      | v d => exact ⟨z.1, z.2.elim fun v hv => ⟨v, hv.1, hv.2.mono e.j rm⟩⟩
      | o d => exact z.elim fun v hv => ⟨v, hv.1, hv.2.up (fun _ _ s => r.tup e.jH s) fun a ha o ho => r.1 a o (e.okO a (sub a (q a ha))) ho⟩
      | r y => exact z
      | d u => exact z.elim fun a ⟨w1, w2, w3, w4⟩ => ⟨a, w1, w2, r.1 a _ (e.okO a (sub a (q a (by rw [w1]; simp)))) w3, w4⟩
      | w ds => exact z.elim fun a ⟨xs, w1, w2, w3, w4⟩ => ⟨a, xs, w1, w2, r.1 a _ (e.okO a (sub a (q a (by rw [w1]; simp)))) w3, w4.mono e.j rm⟩
theorem Env.slotV (e : Env c H0 O H σ Γ) {i : Nat} {d : PyData} (h : Γ[i]? = some (some (.v d))) : ∃ v, σ[i]? = some (some v) ∧ Bo c (mns H O) v d := by
  obtain ⟨fp, hr, nd, sub⟩ := e.rep
  obtain ⟨x, f, pre, post, h1, h2, h3, h4⟩ := hr.nth h
  obtain ⟨v, hv, b⟩ := h2.2
  subst hv
  exact ⟨v, h1, b⟩
theorem Env.slotO (e : Env c H0 O H σ Γ) {i : Nat} {d : PyData} (h : Γ[i]? = some (some (.o d))) : ∃ v fp, σ[i]? = some (some v) ∧ Fo c H v d fp ∧ fp.Nodup ∧ ∀ a ∈ fp, a ∈ O := by
  obtain ⟨fp, hr, nd, sub⟩ := e.rep
  obtain ⟨x, f, pre, post, h1, h2, h3, h4⟩ := hr.nth h
  obtain ⟨v, hv, b⟩ := h2
  subst hv
  subst h3
  have n2 := (List.nodup_append.mp nd).2.1
  exact ⟨v, f, h1, b, (List.nodup_append.mp n2).1, fun a ha => sub a (by simp [ha])⟩
theorem Env.slotR (e : Env c H0 O H σ Γ) {i : Nat} {y : V} (h : Γ[i]? = some (some (.r y))) : σ[i]? = some (some y) := by
  obtain ⟨fp, hr, nd, sub⟩ := e.rep
  obtain ⟨x, f, pre, post, h1, h2, h3, h4⟩ := hr.nth h
  have hy : x = some y := h2.2
  rw [h1, hy]
/-- any slot is given another value that does not change -/
theorem Env.setV (e : Env c H0 O H σ Γ) {i : Nat} {v : V} {d : PyData} (b : Bo c (mns H O) v d) : Env c H0 O H (σ.set i (some v)) (Γ.set i (some (.v d))) := by
  refine ⟨e.r0, e.j, e.fr, e.dm, ?_⟩
  obtain ⟨fp, hr, nd, sub⟩ := e.rep
  by_cases hi : i < Γ.length
  · obtain ⟨x, f, pre, post, h1, h2, h3, h4⟩ := hr.nth (s := Γ[i]) (List.getElem?_eq_getElem hi)
    subst h3
    refine ⟨pre ++ ([] ++ post), h4 O H _ _ [] (fun _ _ _ _ z => z) ⟨rfl, v, rfl, b⟩, ?_, fun a ha => sub a ?_⟩
    · refine nd.sublist ?_
      simp
    · simp at ha ⊢
      rcases ha with q | q <;> simp [q]
  · have hs : ¬ i < σ.length := by rw [hr.len]; exact hi
    rw [List.set_eq_of_length_le (by omega), List.set_eq_of_length_le (by omega)]
    exact ⟨fp, hr, nd, sub⟩
/-- a slot is forgotten, whatever it holds then -/
theorem Env.setN (e : Env c H0 O H σ Γ) {i : Nat} {x : Option V} : Env c H0 O H (σ.set i x) (Γ.set i none) := by
  refine ⟨e.r0, e.j, e.fr, e.dm, ?_⟩
  obtain ⟨fp, hr, nd, sub⟩ := e.rep
  by_cases hi : i < Γ.length
  · obtain ⟨y, f, pre, post, h1, h2, h3, h4⟩ := hr.nth (s := Γ[i]) (List.getElem?_eq_getElem hi)
    subst h3
    refine ⟨pre ++ ([] ++ post), h4 O H _ _ [] (fun _ _ _ _ z => z) rfl, ?_, fun a ha => sub a ?_⟩
    · refine nd.sublist ?_
      simp
    · simp at ha ⊢
      rcases ha with q | q <;> simp [q]
  · have hs : ¬ i < σ.length := by rw [hr.len]; exact hi
    rw [List.set_eq_of_length_le (by omega), List.set_eq_of_length_le (by omega)]
    exact ⟨fp, hr, nd, sub⟩
/-- a slot is given a new list -/
theorem Env.setO (e : Env c H0 O H σ Γ) (r : Rr c H H') {i : Nat} {v : V} {d : PyData} {f : List Addr} (b : Fo c H' v d f) (nd' : f.Nodup) (new : ∀ a ∈ f, H a = none) :
    Env c H0 (f ++ O) H' (σ.set i (some v)) (Γ.set i (some (.o d))) := by
  have e' := e.on r
  have hdis : ∀ a ∈ f, a ∉ O := fun a ha hO => by
    obtain ⟨xs, q, _⟩ := e.dm a hO
    rw [new a ha] at q
    cases q
  have hn : ∀ a ∈ f, mns H O a = none := fun a ha => by
    rw [mns_out (hdis a ha)]; exact new a ha
  have same : Same (mns H O) (mns H' (f ++ O)) → True := fun _ => trivial
  have hrm : Rr c (mns H O) (mns H' (f ++ O)) := by
    have rm := r.mns e.j e.okO
    refine ⟨fun a o k h => ?_, fun _ st l q => ?_⟩
    · have h' := rm.1 a o k h
      obtain ⟨n1, h'⟩ := mns_some h'
      have : a ∉ f := fun z => by rw [hn a z] at h; cases h
      rw [mns_out (by simp [this, n1])]
      exact h'
    · obtain ⟨ns, x, k, h1, h2, h3, h4⟩ := e.j st l q
      obtain ⟨ns', x', k', g1, g2, g3, g4⟩ := e'.j st l q
      obtain ⟨m1, g1⟩ := mns_some g1
      obtain ⟨m2, g2⟩ := mns_some g2
      have a1 : st ∉ f := fun z => by rw [hn _ z] at h1; cases h1
      have a2 : l ∉ f := fun z => by rw [hn _ z] at h2; cases h2
      exact ⟨ns', x', k', by rw [mns_out (by simp [a1, m1])]; exact g1, by rw [mns_out (by simp [a2, m2])]; exact g2, g3, g4⟩
  have jn : Ji c (mns H' (f ++ O)) := hrm.2 e.j
  refine ⟨e.r0.tr hrm, jn, fun a ha => ?_, fun a ha => ?_, ?_⟩
  · rcases List.mem_append.mp ha with q | q
    · have := e.r0
      cases h : H0 a with
      | none => rfl
      | some o =>
        have jH0 : okA c a := fun st l q' z => by
          obtain ⟨ns, x, k, h1, _⟩ := e.j st l q'
          rw [← z, hn a q] at h1
          cases h1
        have := e.r0.1 a o jH0 h
        rw [hn a q] at this
        cases this
    · exact e.fr a q
  · rcases List.mem_append.mp ha with q | q
    · exact (b.isL a q).elim fun xs h => ⟨_, h, trivial⟩
    · exact e'.dm a q
  · obtain ⟨fp, hr, nd, sub⟩ := e.rep
    have keep : ∀ y t g, (∀ a ∈ g, a ∈ O) → RepO c O H y t g → RepO c (f ++ O) H' y t g := fun y t g hg z => by
      cases t with
      | none => exact z
      | some t =>
        cases t with
        | v d => exact ⟨z.1, z.2.elim fun v hv => ⟨v, hv.1, hv.2.mono e.j hrm⟩⟩
        | o d => exact z.elim fun v hv => ⟨v, hv.1, hv.2.up (fun _ _ s => r.tup e.jH s) fun a ha o ho => r.1 a o (e.okO a (hg a ha)) ho⟩
        | r y => exact z
        | d u => exact z.elim fun a ⟨w1, w2, w3, w4⟩ => ⟨a, w1, w2, r.1 a _ (e.okO a (hg a (by rw [w1]; simp))) w3, w4⟩
        | w ds => exact z.elim fun a ⟨xs, w1, w2, w3, w4⟩ => ⟨a, xs, w1, w2, r.1 a _ (e.okO a (hg a (by rw [w1]; simp))) w3, w4.mono e.j hrm⟩
    by_cases hi : i < Γ.length
    · obtain ⟨x, g, pre, post, h1, h2, h3, h4⟩ := hr.nth (s := Γ[i]) (List.getElem?_eq_getElem hi)
      subst h3
      refine ⟨pre ++ (f ++ post), h4 _ _ _ _ f (fun y t g' q z => keep y t g' (fun a ha => sub a (by have := q a ha; simp at this ⊢; rcases this with w | w <;> simp [w])) z) ⟨v, rfl, b⟩, ?_, fun a ha => ?_⟩
      · have n0 : (pre ++ post).Nodup := nd.sublist (by simp)
        rw [List.nodup_append] at n0 ⊢
        refine ⟨n0.1, ?_, ?_⟩
        · rw [List.nodup_append]
          refine ⟨nd', n0.2.1, fun a ha b' hb q => ?_⟩
          subst q
          exact hdis a ha (sub a (by simp [hb]))
        · intro a ha b' hb q
          subst q
          rcases List.mem_append.mp hb with w | w
          · exact hdis a w (sub a (by simp [ha]))
          · exact n0.2.2 a ha a w rfl
      · simp only [List.mem_append] at ha ⊢
        rcases ha with q | q | q
        · exact .inr (sub a (by simp [q]))
        · exact .inl q
        · exact .inr (sub a (by simp [q]))
    · have hs : ¬ i < σ.length := by rw [hr.len]; exact hi
      rw [List.set_eq_of_length_le (by omega), List.set_eq_of_length_le (by omega)]
      exact ⟨fp, hr.map fun x s g q z => keep x s g (fun a ha => sub a (q a ha)) z, nd, fun a ha => by simp [sub a ha]⟩
/-- a list of one's own is written: the slot's list at p -/
theorem Env.write (e : Env c H0 O H σ Γ) {i : Nat} {ds es : List PyData} (h : Γ[i]? = some (some (.o (.list ds)))) :
    ∃ p xs f, σ[i]? = some (some (.ref p)) ∧ H p = some (.lst xs) ∧ FoAll c H xs ds f ∧ p ∉ f ∧ (∀ a ∈ f, a ∈ O) ∧
      ∀ ys : List V, FoAll c (upd H p (.lst ys)) ys es f → Env c H0 O (upd H p (.lst ys)) σ (Γ.set i (some (.o (.list es)))) := by
  obtain ⟨fp, hr, nd, sub⟩ := e.rep
  obtain ⟨x, f0, pre, post, h1, h2, h3, h4⟩ := hr.nth h
  obtain ⟨v, hv, b⟩ := h2
  subst hv
  obtain ⟨p, xs, f, rfl, rfl, hp, hfa⟩ := b.list'
  subst h3
  have hpO : p ∈ O := sub p (by simp)
  have n2 := (List.nodup_append.mp nd).2.1
  have hpf : p ∉ f := fun z => by
    have := (List.nodup_append.mp n2).1
    exact (List.nodup_cons.mp this).1 z
  refine ⟨p, xs, f, h1, hp, hfa, hpf, fun a ha => sub a (by simp [ha]), fun ys hy => ?_⟩
  have em : mns (upd H p (.lst ys)) O = mns H O := by
    funext a
    by_cases ha : a ∈ O
    · rw [mns_in ha, mns_in ha]
    · rw [mns_out ha, mns_out ha, upd_ne (fun z => ha (by rw [z]; exact hpO))]
  refine ⟨by rw [em]; exact e.r0, by rw [em]; exact e.j, e.fr, fun a ha => ?_, ?_⟩
  · by_cases q : a = p
    · rw [q]; exact ⟨_, upd_same, trivial⟩
    · rw [upd_ne q]; exact e.dm a ha
  · have hσ : σ.set i (some (.ref p)) = σ := by
      obtain ⟨hlt, e1⟩ := List.getElem?_eq_some_iff.mp h1
      rw [← e1]
      exact List.set_getElem_self hlt
    have := h4 O (upd H p (.lst ys)) (some (.ref p)) (some (.o (.list es))) (p :: f) (fun y t g q z => ?_) ⟨.ref p, rfl, .lst upd_same hy⟩
    · rw [hσ] at this
      exact ⟨_, this, nd, sub⟩
    · cases t with
      | none => exact z
      | some t =>
        cases t with
        | v d => exact ⟨z.1, z.2.elim fun v hv => ⟨v, hv.1, by rw [em]; exact hv.2⟩⟩
        | o d =>
          refine z.elim fun v hv => ⟨v, hv.1, hv.2.up (fun _ _ s => sqT_upd hp s) fun a ha o ho => ?_⟩
          have : a ≠ p := fun w => by
            subst w
            have hm := q a ha
            rcases List.mem_append.mp hm with u | u
            · exact (List.nodup_append.mp nd).2.2 a u a (by simp) rfl
            · exact (List.nodup_append.mp n2).2.2 a (by simp) a u rfl
          rw [upd_ne this]
          exact ho
        | r y => exact z
        | d u =>
          refine z.elim fun a ⟨w1, w2, w3, w4⟩ => ⟨a, w1, w2, ?_, w4⟩
          have : a ≠ p := fun w => by
            subst w
            have hm := q a (by rw [w1]; simp)
            rcases List.mem_append.mp hm with u | u
            · exact (List.nodup_append.mp nd).2.2 a u a (by simp) rfl
            · exact (List.nodup_append.mp n2).2.2 a (by simp) a u rfl
          rw [upd_ne this]
          exact w3
        | w ds =>
          refine z.elim fun a ⟨xs, w1, w2, w3, w4⟩ => ⟨a, xs, w1, w2, ?_, by rw [em]; exact w4⟩
          have : a ≠ p := fun w => by
            subst w
            have hm := q a (by rw [w1]; simp)
            rcases List.mem_append.mp hm with u | u
            · exact (List.nodup_append.mp nd).2.2 a u a (by simp) rfl
            · exact (List.nodup_append.mp n2).2.2 a (by simp) a u rfl
          rw [upd_ne this]
          exact w3
/-- a later entry is as good as an earlier one -/
theorem Env.base (e : Env c H0 O H σ Γ) : Env c (mns H O) O H σ Γ := ⟨Rr.rf, e.j, fun a ha => mns_in ha, e.dm, e.rep⟩
theorem Env.fromB {O1 : List Addr} {σ1 : L2.St} {Γ1 : List (Option Rs)} (e : Env c H0 O H σ Γ) (e1 : Env c (mns H O) O1 H1 σ1 Γ1) : Env c H0 O1 H1 σ1 Γ1 :=
  ⟨e.r0.tr e1.r0, e1.j, (fun a ha => by
    have h1 := e1.fr a ha
    cases h : H0 a with
    | none => rfl
    | some o =>
      have k : okA c a := fun st l q z => by
        obtain ⟨ns, x, k, g1, _⟩ := e.j st l q
        rw [← z, h1] at g1
        cases g1
      have := e.r0.1 a o k h
      rw [h1] at this
      cases this), e1.dm, e1.rep⟩
end Lm


namespace Lm
open PySem PySem.Spec PyProof.Rows L2
section
variable {X : Cx} {H : Hp}
def NewT (H : Hp) (xs : List V) (Q : VK) : Prop := ∀ p o, o.dict = none → H p = none → Q (.ref p) (upd H p (.frz o (.tup xs)))
theorem newT {pins : List (Addr × Obj)} {σ : L2.St} {s : Shared} {xs : List V} {us : List Value} {Q : VK} (I : Inv X pins σ H s) (r : Vals xs us) (z : xs.length ≤ sizeLine) (q : NewT H xs Q) :
    EP X pins σ Q (.ref s.heap.objs.size) { s with heap := s.heap.push { cls := .type "tuple", data := .seq us.toArray } } := by
  refine ⟨.ref s.heap.objs.size, upd H s.heap.objs.size (.frz { cls := .type "tuple", data := .seq us.toArray } (.tup xs)), I.laid (t' := s.toks) (fun b u e => Heap.get?_push_of_some _ e) (Nat.le_refl _) ?_, rfl, q _ _ rfl (I.hok.fresh (Nat.le_refl _))⟩
  exact ⟨Heap.get?_push_size _ rfl, z, us, r, ⟨_, Heap.get?_push_size _ rfl, rfl, _, rfl⟩⟩
def tTupN (t : TA) : TE := fun σ H Q => t σ H fun xs H1 => xs.length ≤ sizeLine ∧ NewT H1 xs Q
theorem pe_tupN {es : List Expr} {t : TA} {pos : Pos} {x1} (h : PA X es t) : PE X (.Tuple es x1 pos) (tTupN t) := by
  refine ⟨fun pins s σ H Q I hq => ?_⟩
  refine wpAny_Tuple_spliced (thn (h.run pos pins s σ H _ I hq) fun us s1 ⟨xs, H1, I1, r, z, q⟩ => ⟨by rw [← r.length]; exact z, ?_⟩)
  exact newT I1 r z q
/-- tuple(list), tuple(tuple) -/
def rTuple (K : PySem.W.Frag) : List V → Hp → VK → Prop := fun xs H Q => ∃ p ys, xs = [.ref p] ∧ ((SqL K H p ys ∧ NewT H ys Q) ∨ (SqT K H p ys ∧ Q (.ref p) H))
theorem cr_tuple : CallR X (.type "tuple") (rTuple X.K) := by
  intro pins s σ H xs us Q I r h
  obtain ⟨p, ys, rfl, h⟩ := h
  obtain ⟨u, rfl, rx⟩ := vals1 r
  cases rx
  rcases h with ⟨hq, q⟩ | ⟨hq, q⟩
  · obtain ⟨its, r', pl, hz⟩ := I.list hq
    have hlen := r'.length
    refine call_tuple_list pl.isList (fun h' kp => ?_) (by simp only [List.size_toArray] <;> omega)
    have I1 : Inv X pins σ H { s with heap := h' } := I.kept (t' := s.toks) kp
    exact newT I1 r' hz q
  · obtain ⟨its, r', pl, hz⟩ := I.tuple hq
    exact call_tuple_same pl ⟨.ref p, H, I, rfl, q⟩
/-- t + u -/
def rCatN (K : PySem.W.Frag) : R2 := fun x y H Q => ∃ a b xs ys, x = .ref a ∧ y = .ref b ∧ SqT K H a xs ∧ SqT K H b ys ∧ xs.length + ys.length ≤ sizeLine ∧
  (xs = [] → Q (.ref b) H) ∧ (xs ≠ [] → ys = [] → Q (.ref a) H) ∧ (xs ≠ [] → ys ≠ [] → NewT H (xs ++ ys) Q)
theorem op_catN : OpR X (binaryOp .Add) (rCatN X.K) := by
  intro pins s σ H x y v u Q I rx ry h
  obtain ⟨a, b, xs, ys, rfl, rfl, ha, hb, hz, q0, q1, q2⟩ := h
  cases rx
  cases ry
  obtain ⟨its, r1, p1, _⟩ := I.tuple ha
  obtain ⟨its2, r2, p2, _⟩ := I.tuple hb
  by_cases hx : xs = []
  · subst hx
    cases r1
    exact cat_tup0 p1 p2 ⟨.ref b, H, I, rfl, q0 rfl⟩
  · refine HT.cat_tup p1 p2 (fun z => hx (r1.nil_iff.mp z)) (fun z => ⟨.ref a, H, I, rfl, q1 hx (r2.nil_iff.mp z)⟩) (fun z => ?_) (by rw [← r1.length, ← r2.length]; exact hz)
    have := newT (Q := Q) I (r1.append r2) (by rw [List.length_append]; exact hz) (q2 hx (fun w => z (r2.nil_iff.mpr w)))
    exact this
/-- t[lo:hi] -/
def rSlN (K : PySem.W.Frag) : V → Option Int → Option Int → Hp → VK → Prop := fun x lo hi H Q => ∃ a xs, x = .ref a ∧ SqT K H a xs ∧
  (HT.sIx xs.length 0 lo = 0 ∧ HT.sIx xs.length xs.length hi = xs.length → Q (.ref a) H) ∧ (¬ (HT.sIx xs.length 0 lo = 0 ∧ HT.sIx xs.length xs.length hi = xs.length) → NewT H (cutV xs lo hi) Q)
theorem sl_tupN : SlR X (rSlN X.K) := by
  intro pins s σ H x v vl vu lo hi sl Q I rx hs pl pu h
  obtain ⟨a, xs, rfl, hx, q1, q2⟩ := h
  cases rx
  obtain ⟨its, r, ht, hz⟩ := I.tuple hx
  have hlen : its.toArray.size = xs.length := by rw [List.size_toArray]; exact r.length.symm
  refine ⟨"tuple", _, PyProof.Rows.slot_tuple_getitem.lookup, ht.typeIs, ?_⟩
  by_cases hw : HT.sIx xs.length 0 lo = 0 ∧ HT.sIx xs.length xs.length hi = xs.length
  · exact getItem_tuple_whole ht hs pl pu (by rw [hlen]; exact hw) ⟨.ref a, H, I, rfl, q1 hw⟩
  · refine HT.getItem_tuple_cut ht hs pl pu (by rw [hlen]; exact hw) ?_ (by rw [hlen]; exact hz)
    rw [hlen]
    have := newT (Q := Q) I ((r.drop (HT.sIx xs.length 0 lo)).take (HT.sIx xs.length xs.length hi - HT.sIx xs.length 0 lo)) (Nat.le_trans (cutV_length xs lo hi) hz) (q2 hw)
    exact this
end
end Lm
namespace Lm
open PySem PySem.Spec PyProof.Rows L2
section
variable {X : Cx}
end
end Lm


namespace Lm
open PySem PySem.Spec PyProof.Rows L2
variable {c : Ct} {H H' H0 H1 H2 H3 : Hp} {O : List Addr} {σ : L2.St} {Γ : List (Option Rs)}

/-- what an expression gives: a value that stays, a new list, something to be read at once -/
inductive Kd | v | o | b
def Res (c : Ct) (O : List Addr) (H H2 : Hp) (v : V) (d : PyData) : Kd → Prop
  | .v => Bo c (mns H2 O) v d
  | .o => ∃ fp, Fo c H2 v d fp ∧ fp.Nodup ∧ ∀ a ∈ fp, H a = none
  | .b => Bo c H2 v d
theorem Res.bo {v : V} {d : PyData} {k : Kd} (e : Env c H0 O H σ Γ) (h : Res c O H H2 v d k) : Bo c H2 v d := by
  cases k with
  | v => exact Bo.same mns_same h
  | o =>
    obtain ⟨fp, f, nd, new⟩ := h
    exact f.bo fun a ha => okA.fresh e.jH (new a ha)
  | b => exact h
theorem Res.on {v : V} {d : PyData} {k : Kd} (e : Env c H0 O H σ Γ) (r1 : Rr c H H2) (r : Rr c H2 H3) (h : Res c O H H2 v d k) : Res c O H H3 v d k := by
  have e2 := e.on r1
  cases k with
  | v => exact Bo.mono e2.j (r.mns e2.j e2.okO) h
  | o =>
    obtain ⟨fp, f, nd, new⟩ := h
    exact ⟨fp, f.up (fun _ _ s => r.tup e2.jH s) (fun a ha o q => r.1 a o (okA.fresh e.jH (new a ha)) q), nd, new⟩
  | b => exact Bo.mono e2.jH r h
/-- fresh behind is fresh before -/
theorem Res.back {v : V} {d : PyData} {k : Kd} (e : Env c H0 O H σ Γ) (r1 : Rr c H H2) (h : Res c O H2 H3 v d k) : Res c O H H3 v d k := by
  cases k with
  | v => exact h
  | o =>
    obtain ⟨fp, f, nd, new⟩ := h
    exact ⟨fp, f, nd, fun a ha => r1.back e.jH (new a ha)⟩
  | b => exact h
theorem Bo.flatM {v : V} {d : PyData} (e : Env c H0 O H σ Γ) (r : Rr c H H2) (q : flatD d = true) (h : Bo c H2 v d) : Bo c (mns H2 O) v d :=
  h.flatTo (fun a xs s => sqT_mns (fun b hb => (e.on r).dm b hb) s) q

def Ev (c : Ct) (te : TE) (Γ : List (Option Rs)) (k : Kd) (d : PyData) : Prop :=
  ∀ H0 O H σ, Env c H0 O H σ Γ → ∀ Q : VK, (∀ v H2, Rr c H H2 → Res c O H H2 v d k → Q v H2) → te σ H Q
/-- .. one of several -/
def EvN (c : Ct) (te : TE) (Γ : List (Option Rs)) (k : Kd) (P : PyData → Prop) : Prop :=
  ∀ H0 O H σ, Env c H0 O H σ Γ → ∀ Q : VK, (∀ v d H2, P d → Rr c H H2 → Res c O H H2 v d k → Q v H2) → te σ H Q
def EvT (c : Ct) (tt : TT) (Γ : List (Option Rs)) (b : Bool) : Prop :=
  ∀ H0 O H σ, Env c H0 O H σ Γ → ∀ Q : Bool → Hp → Prop, (∀ H2, Rr c H H2 → Q b H2) → tt σ H Q
/-- arguments, to be read; (kv) each a value that stays -/
def EvA (c : Ct) (ta : TA) (Γ : List (Option Rs)) (kv : Bool) (ds : List PyData) : Prop :=
  ∀ H0 O H σ, Env c H0 O H σ Γ → ∀ Q : List V → Hp → Prop, (∀ vs H2, Rr c H H2 → BoAll c (if kv then mns H2 O else H2) vs ds → Q vs H2) → ta σ H Q
section
variable {te ta tb tx : TE} {tt tu : TT} {tr : TA} {k ka kb : Kd} {d x y z : PyData} {i j : Int} {a b : Bool} {kv : Bool} {ds : List PyData}
theorem Ev.n (h : Ev c te Γ k d) : EvN c te Γ k (fun x => x = d) := fun H0 O H σ e Q q => h H0 O H σ e Q fun v H2 r s => q v d H2 rfl r s
theorem EvN.det (h : EvN c te Γ k (fun x => x = d)) : Ev c te Γ k d := fun H0 O H σ e Q q => h H0 O H σ e Q fun v d H2 p r s => by subst p; exact q v H2 r s
theorem EvN.imp {P P' : PyData → Prop} (h : EvN c te Γ k P) (i : ∀ d, P d → P' d) : EvN c te Γ k P' := fun H0 O H σ e Q q => h H0 O H σ e Q fun v d H2 p => q v d H2 (i d p)
theorem Ev.to (h : Ev c te Γ k x) (e : x = y) : Ev c te Γ k y := e ▸ h
theorem EvT.to (h : EvT c tt Γ a) (e : a = b) : EvT c tt Γ b := e ▸ h
/-- flat data stay -/
theorem Ev.fl (h : Ev c te Γ k d) (f : flatD d = true) : Ev c te Γ .v d := fun H0 O H σ e Q q => h H0 O H σ e Q fun v H2 r s => q v H2 r (Bo.flatM e r f (Res.bo e s))
theorem Ev.fo (h : Ev c te Γ k d) (f : flatD d = true) : Ev c te Γ .o d := fun H0 O H σ e Q q => h H0 O H σ e Q fun v H2 r s => q v H2 r ⟨[], .leaf f (Res.bo e s), List.nodup_nil, fun _ h => nomatch h⟩
theorem EvN.fo {P : PyData → Prop} (h : EvN c te Γ k P) (f : ∀ d, P d → flatD d = true) : EvN c te Γ .o P := fun H0 O H σ e Q q => h H0 O H σ e Q fun v d H2 p r s => q v d H2 p r ⟨[], .leaf (f d p) (Res.bo e s), List.nodup_nil, fun _ h => nomatch h⟩
theorem EvN.fl {P : PyData → Prop} (h : EvN c te Γ k P) (f : ∀ d, P d → flatD d = true) : EvN c te Γ .v P := fun H0 O H σ e Q q => h H0 O H σ e Q fun v d H2 p r s => q v d H2 p r (Bo.flatM e r (f d p) (Res.bo e s))

/-! ### leaves -/
theorem d_int : Ev c (tC (.int i)) Γ .v (.int i) := fun H0 O H σ e Q q => q _ H Rr.rf (.int i)
theorem d_bl : Ev c (tC (.bl a)) Γ .v (.bool a) := fun H0 O H σ e Q q => q _ H Rr.rf (.bl a)
theorem d_str {s : Str} : Ev c (tC (.str s)) Γ .v (.str s) := fun H0 O H σ e Q q => q _ H Rr.rf (.str s)
theorem d_non : Ev c (tC .non) Γ .v .none := fun H0 O H σ e Q q => q _ H Rr.rf .non
theorem d_var {n : Nat} (h : Γ[n]? = some (some (.v d))) : Ev c (tVar n) Γ .v d := fun H0 O H σ e Q q => by
  obtain ⟨v, hv, b⟩ := e.slotV h
  exact ⟨v, hv, q v H Rr.rf b⟩
theorem d_varO {n : Nat} (h : Γ[n]? = some (some (.o d))) : Ev c (tVar n) Γ .b d := fun H0 O H σ e Q q => by
  obtain ⟨v, fp, hv, f, nd, sub⟩ := e.slotO h
  exact ⟨v, hv, q v H Rr.rf (f.bo fun a ha => e.okO a (sub a ha))⟩
/-! ### two operands -/
theorem d_bin {r : R2} (ha : Ev c ta Γ ka x) (hb : Ev c tb Γ kb y)
    (hr : ∀ H O v u (Q : VK), Bo c H v x → Bo c H u y → (∀ v' H2, Rr c H H2 → Bo c (mns H2 O) v' z → Q v' H2) → r v u H Q) : Ev c (tOp r ta tb) Γ .v z := fun H0 O H σ e Q q =>
  ha H0 O H σ e _ fun v H1 r1 s1 => hb H0 O H1 σ (e.on r1) _ fun u H2 r2 s2 =>
    hr H2 O v u Q (Res.bo e (Res.on e r1 r2 s1)) (Res.bo (e.on r1) s2) fun v' H3 r3 b => q v' H3 ((r1.tr r2).tr r3) b
theorem d_I {C : Int → Int → Prop} {g : Int → Int → V} {w : V} (ha : Ev c ta Γ ka (.int i)) (hb : Ev c tb Γ kb (.int j)) (hc : C i j) (hw : g i j = w) (hz : ∀ H, Bo c H w z) : Ev c (tOp (rI C g) ta tb) Γ .v z :=
  d_bin ha hb fun H O v u Q bv bu q => ⟨i, j, bv.int', bu.int', hc, q _ H Rr.rf (hw ▸ hz _)⟩
theorem d_I0 {g : Int → Int → V} {w : V} (ha : Ev c ta Γ ka (.int i)) (hb : Ev c tb Γ kb (.int j)) (hw : g i j = w) (hz : ∀ H, Bo c H w z) : Ev c (tOp (rI0 g) ta tb) Γ .v z :=
  d_bin ha hb fun H O v u Q bv bu q => ⟨i, j, bv.int', bu.int', q _ H Rr.rf (hw ▸ hz _)⟩
theorem d_lt (ha : Ev c ta Γ ka (.int i)) (hb : Ev c tb Γ kb (.int j)) : Ev c (tOp (rI0 fun i j => .bl (decide (i < j))) ta tb) Γ .v (.bool (decide (i < j))) := d_I0 ha hb rfl fun _ => .bl _
theorem d_le (ha : Ev c ta Γ ka (.int i)) (hb : Ev c tb Γ kb (.int j)) : Ev c (tOp (rI0 fun i j => .bl (decide (i ≤ j))) ta tb) Γ .v (.bool (decide (i ≤ j))) := d_I0 ha hb rfl fun _ => .bl _
theorem d_gt (ha : Ev c ta Γ ka (.int i)) (hb : Ev c tb Γ kb (.int j)) : Ev c (tOp (rI0 fun i j => .bl (decide (j < i))) ta tb) Γ .v (.bool (decide (j < i))) := d_I0 ha hb rfl fun _ => .bl _
theorem d_ge (ha : Ev c ta Γ ka (.int i)) (hb : Ev c tb Γ kb (.int j)) : Ev c (tOp (rI0 fun i j => .bl (decide (j ≤ i))) ta tb) Γ .v (.bool (decide (j ≤ i))) := d_I0 ha hb rfl fun _ => .bl _
theorem d_fdiv (ha : Ev c ta Γ ka (.int i)) (hb : Ev c tb Γ kb (.int j)) (h : CDiv i j) : Ev c (tOp (rI CDiv fun i j => .int (i / j)) ta tb) Γ .v (.int (i / j)) := d_I ha hb h rfl fun _ => .int _
/-- == and != of scalars -/
def scalD : PyData → Option V
  | .none => some .non
  | .bool b => some (.bl b)
  | .int i => some (.int i)
  | .str s => some (.str s)
  | _ => none
theorem Bo.scal {v w : V} (h : Bo c H v d) (e : scalD d = some w) : v = w := by
  cases h with
  | non => exact Option.some.inj e
  | bl _ => exact Option.some.inj e
  | int _ => exact Option.some.inj e
  | str _ => exact Option.some.inj e
  | lst _ _ _ => cases e
  | tup _ _ => cases e
theorem decI {i j : Int} : decide (V.int i = V.int j) = decide (i = j) := by
  by_cases h : i = j
  · subst h; simp
  · rw [decide_eq_false h, decide_eq_false (fun e => h (V.int.inj e))]
def isNoneD : PyData → Bool
  | .none => true
  | _ => false
theorem Bo.isN {v : V} (h : Bo c H v d) : decide (v = V.non) = isNoneD d := by
  cases h <;> simp [isNoneD]
/-- is None -/
theorem d_isN (ha : Ev c ta Γ ka x) : Ev c (tOp (fun x y H Q => y = .non ∧ Q (.bl (decide (x = .non))) H) ta (tC .non)) Γ .v (.bool (isNoneD x)) :=
  d_bin ha d_non fun H O v u Q bv bu q => ⟨bu.non', by rw [bv.isN]; exact q _ H Rr.rf (.bl _)⟩
/-- an item -/
theorem atI_bo {v : List V} (h : BoAll c H v ds) (e : atI ds i = some d) : ∃ x, atI v i = some x ∧ Bo c H x d := by
  unfold atI at e ⊢
  rw [h.len]
  cases q : ixN ds.length i with
  | none => rw [q] at e; cases e
  | some n =>
    rw [q] at e
    exact h.gets e
/-! ### truth -/
theorem d_notV (ha : Ev c ta Γ ka (.bool a)) : Ev c (tNotV ta) Γ .v (.bool (!a)) := fun H0 O H σ e Q q =>
  ha H0 O H σ e _ fun v H1 r1 s1 => ⟨a, (Res.bo e s1).bl', q _ H1 r1 (.bl _)⟩
theorem d_andV (ha : Ev c ta Γ ka (.bool a)) (hb : a = true → Ev c tb Γ .v (.bool b)) : Ev c (tAndV ta tb) Γ .v (.bool (a && b)) := fun H0 O H σ e Q q =>
  ha H0 O H σ e _ fun v H1 r1 s1 => ⟨a, (Res.bo e s1).bl', by
    cases a with
    | true =>
      refine iteT (hb rfl H0 O H1 σ (e.on r1) _ fun u H2 r2 s2 => ?_)
      rw [(Res.bo (e.on r1) s2).bl']
      exact q _ H2 (r1.tr r2) (.bl _)
    | false => exact iteF (q _ H1 r1 (.bl _))⟩
theorem t_test (h : Ev c te Γ k (.bool a)) : EvT c (tTest te) Γ a := fun H0 O H σ e Q q => h H0 O H σ e _ fun v H2 r s => ⟨a, (Res.bo e s).bl', q H2 r⟩
theorem t_B (h : Ev c te Γ k (.bool a)) : EvT c (tB te) Γ a := fun H0 O H σ e Q q => h H0 O H σ e _ fun v H2 r s => ⟨a, (Res.bo e s).bl', q H2 r⟩
theorem t_not (h : EvT c tt Γ a) : EvT c (tNot tt) Γ (!a) := fun H0 O H σ e Q q => h H0 O H σ e _ fun H2 r => q H2 r
theorem t_and (h : EvT c tt Γ a) (g : a = true → EvT c tu Γ b) : EvT c (tAnd tt tu) Γ (a && b) := fun H0 O H σ e Q q => h H0 O H σ e _ fun H2 r => by
  cases a with
  | true => exact iteT (g rfl H0 O H2 σ (e.on r) _ fun H3 r3 => q H3 (r.tr r3))
  | false => exact iteF (q H2 r)
theorem t_or (h : EvT c tt Γ a) (g : a = false → EvT c tu Γ b) : EvT c (tOr tt tu) Γ (a || b) := fun H0 O H σ e Q q => h H0 O H σ e _ fun H2 r => by
  cases a with
  | false => exact iteF (g rfl H0 O H2 σ (e.on r) _ fun H3 r3 => q H3 (r.tr r3))
  | true => exact iteT (q H2 r)
theorem t_yes : EvT c tYes Γ true := fun H0 O H σ e Q q => q H Rr.rf
theorem d_if (h : EvT c tt Γ a) (h1 : a = true → Ev c ta Γ k d) (h2 : a = false → Ev c tb Γ k d) : Ev c (tIf tt ta tb) Γ k d := fun H0 O H σ e Q q => h H0 O H σ e _ fun H1 r1 => by
  cases a with
  | true => exact iteT (h1 rfl H0 O H1 σ (e.on r1) _ fun v H2 r2 s => q v H2 (r1.tr r2) (s.back e r1))
  | false => exact iteF (h2 rfl H0 O H1 σ (e.on r1) _ fun v H2 r2 s => q v H2 (r1.tr r2) (s.back e r1))
/-! ### arguments -/
theorem a_nil : EvA c tNil Γ kv [] := fun H0 O H σ e Q q => q [] H Rr.rf .nil
theorem a_cons (h : Ev c te Γ k d) (hr : EvA c tr Γ false ds) : EvA c (tCons te tr) Γ false (d :: ds) := fun H0 O H σ e Q q =>
  h H0 O H σ e _ fun v H1 r1 s1 => hr H0 O H1 σ (e.on r1) _ fun vs H2 r2 s2 => q _ H2 (r1.tr r2) (.cons (Res.bo e (s1.on e r1 r2)) s2)
theorem a_consV (h : Ev c te Γ .v d) (hr : EvA c tr Γ true ds) : EvA c (tCons te tr) Γ true (d :: ds) := fun H0 O H σ e Q q =>
  h H0 O H σ e _ fun v H1 r1 s1 => hr H0 O H1 σ (e.on r1) _ fun vs H2 r2 s2 => q _ H2 (r1.tr r2) (.cons (s1.on e r1 r2) s2)
end
end Lm


namespace Lm
open PySem PySem.Spec PyProof.Rows L2
variable {c : Ct} {H H' H0 H1 H2 H3 : Hp} {O : List Addr} {σ : L2.St} {Γ Γ' : List (Option Rs)}

/-! ### what is walked -/
/-- an item: data, or a tuple made for the target alone -/
inductive Im where
  | d (x : PyData)
  | t (xs : List Im)
mutual
inductive Lo (c : Ct) (F : Hp) (fz : Bool) (H : Hp) : V → Im → Prop
  | leaf {v : V} {d : PyData} : (flatD d = true ∧ Bo c H v d) ∨ (fz = true ∧ Bo c F v d) → Lo c F fz H v (.d d)
  | tup {a : Addr} {xs : List V} {ds : List Im} : SqT c.K H a xs → LoAll c F fz H xs ds → Lo c F fz H (.ref a) (.t ds)
inductive LoAll (c : Ct) (F : Hp) (fz : Bool) (H : Hp) : List V → List Im → Prop
  | nil : LoAll c F fz H [] []
  | cons {v : V} {vs : List V} {d : Im} {ds : List Im} : Lo c F fz H v d → LoAll c F fz H vs ds → LoAll c F fz H (v :: vs) (d :: ds)
end
theorem LoAll.ofFlat {F : Hp} {fz : Bool} : ∀ {v : List V} {d : List PyData}, flatAll d = true → BoAll c H v d → LoAll c F fz H v (d.map Im.d)
  | _, _, _, .nil => .nil
  | _, _, q, .cons a b => by
    have q' : (flatD _ && flatAll _) = true := q
    rw [Bool.and_eq_true] at q'
    exact .cons (.leaf (.inl ⟨q'.1, a⟩)) (LoAll.ofFlat q'.2 b)
theorem LoAll.ofFz {F : Hp} : ∀ {v : List V} {d : List PyData}, BoAll c F v d → LoAll c F true H v (d.map Im.d)
  | _, _, .nil => .nil
  | _, _, .cons a b => .cons (.leaf (.inr ⟨rfl, a⟩)) (LoAll.ofFz b)
theorem LoAll.len {F : Hp} {fz : Bool} : ∀ {v : List V} {d : List Im}, LoAll c F fz H v d → v.length = d.length
  | _, _, .nil => rfl
  | _, _, .cons _ b => by simp [LoAll.len b]
/-- a tuple's parts -/
theorem Lo.parts {F : Hp} {fz : Bool} {v : V} {ds : List PyData} (j : Ji c F) (r : Rr c F H) (h : Lo c F fz H v (.d (.tuple ds))) : ∃ a xs, v = .ref a ∧ SqT c.K H a xs ∧ LoAll c F fz H xs (ds.map Im.d) := by
  cases h with
  | leaf h =>
    rcases h with ⟨q, b⟩ | ⟨q, b⟩
    · obtain ⟨a, xs, rfl, s, al⟩ := b.tup'
      exact ⟨a, xs, rfl, s.sq, .ofFlat (by simpa [flatD] using q) al⟩
    · obtain ⟨a, xs, rfl, s, al⟩ := b.tup'
      subst q
      exact ⟨a, xs, rfl, (r.tup j s).sq, .ofFz al⟩
def WD (c : Ct) (F : Hp) (fz : Bool) (J : It) (ds : List Im) : Prop :=
  Ji c F ∧ Walk J ds.length (fun H => Rr c F H) (fun i H x H' => Same H H' ∧ ∃ d, ds[i]? = some d ∧ Lo c F fz H' x d)
def EvI (c : Ct) (wi : TI) (Γ : List (Option Rs)) (fz : Bool) (ds : List Im) : Prop :=
  ∀ H0 O H σ, Env c H0 O H σ Γ → ∀ R : It → Hp → Prop, (∀ J H1, Rr c H H1 → WD c (if fz then mns H1 O else H1) fz J ds → R J H1) → wi σ H R
/-- a target takes an item -/
def EvG (c : Ct) (g : TG) (d : Im) (Γ Γ' : List (Option Rs)) (js : List Nat) : Prop :=
  ∀ H0 O H σ F fz x, Env c H0 O H σ Γ → Ji c F → Rr c F H → (fz = true → Rr c F (mns H O)) → Lo c F fz H x d → ∀ Q : L2.St → Hp → Prop,
    (∀ σ', Env c H0 O H σ' Γ' → (∀ vs, (∀ j ∈ js, j ∈ vs) → wipe σ' vs = wipe σ vs) → Q σ' H) → g x σ H Q
def EvGs (c : Ct) (g : TGs) (ds : List Im) (Γ Γ' : List (Option Rs)) (js : List Nat) : Prop :=
  ∀ H0 O H σ F fz xs, Env c H0 O H σ Γ → Ji c F → Rr c F H → (fz = true → Rr c F (mns H O)) → LoAll c F fz H xs ds → ∀ Q : L2.St → Hp → Prop,
    (∀ σ', Env c H0 O H σ' Γ' → (∀ vs, (∀ j ∈ js, j ∈ vs) → wipe σ' vs = wipe σ vs) → Q σ' H) → g xs σ H Q
theorem wipe_set {x : Option V} {j : Nat} {σ : L2.St} : ∀ {vs : List Nat}, j ∈ vs → wipe (σ.set j x) vs = wipe σ vs
  | [], h => by simp at h
  | v :: vs, h => by
    unfold wipe
    by_cases hj : j ∈ vs
    · rw [wipe_set hj]
    · have e : j = v := by simpa [hj] using h
      subst e
      have : ∀ (us : List Nat) (σ : L2.St), (wipe (σ.set j x) us).set j none = (wipe σ us).set j none := by
        intro us
        induction us with
        | nil => intro σ; simp [wipe]
        | cons u us ih =>
          intro σ
          show ((wipe (σ.set j x) us).set u none).set j none = ((wipe σ us).set u none).set j none
          by_cases q : u = j
          · subst q; simpa using ih σ
          · rw [List.set_comm _ _ q, ih σ, List.set_comm _ _ (fun z => q z.symm)]
      exact this vs σ
theorem wipe_wipe {σ : L2.St} : ∀ {vs us : List Nat}, (∀ v ∈ vs, v ∈ us) → wipe (wipe σ vs) us = wipe σ us
  | [], us, h => rfl
  | v :: vs, us, h => by
    show wipe ((wipe σ vs).set v none) us = wipe σ us
    rw [wipe_set (h v (by simp)), wipe_wipe fun w hw => h w (by simp [hw])]
def wipeG (Γ : List (Option Rs)) : List Nat → List (Option Rs)
  | [] => Γ
  | v :: vs => (wipeG Γ vs).set v none
theorem Env.wipe (e : Env c H0 O H σ Γ) : ∀ vs : List Nat, Env c H0 O H (L2.wipe σ vs) (wipeG Γ vs)
  | [] => e
  | v :: vs => (Env.wipe e vs).setN
theorem g_name {j : Nat} {d : PyData} : EvG c (gName j) (.d d) Γ (Γ.set j (some (.v d))) [j] := fun H0 O H σ F fz x e jF rF rM h Q q => by
  have b : Bo c (mns H O) x d := by
    cases h with
    | leaf h =>
      rcases h with ⟨f, b⟩ | ⟨f, b⟩
      · exact b.flatTo (fun a xs s => sqT_mns (fun b hb => e.dm b hb) s) f
      · exact b.mono jF (rM f)
  exact q _ (e.setV b) fun vs hv => wipe_set (hv j (by simp))
theorem g_nil : EvGs c gNil [] Γ Γ [] := fun H0 O H σ F fz xs e jF rF rM h Q q => by
  cases h
  exact ⟨rfl, q σ e fun _ _ => rfl⟩
theorem g_cons {g : TG} {gs : TGs} {d : Im} {ds : List Im} {Γ1 Γ2 : List (Option Rs)} {js ks : List Nat} (h : EvG c g d Γ Γ1 js) (hs : EvGs c gs ds Γ1 Γ2 ks) : EvGs c (gCons g gs) (d :: ds) Γ Γ2 (js ++ ks) := fun H0 O H σ F fz xs e jF rF rM l Q q => by
  cases l with
  | cons a b =>
    exact ⟨_, _, rfl, h H0 O H σ F fz _ e jF rF rM a _ fun σ1 e1 w1 => hs H0 O H σ1 F fz _ e1 jF rF rM b _ fun σ2 e2 w2 => q σ2 e2 fun vs hv =>
      (w2 vs fun j hj => hv j (by simp [hj])).trans (w1 vs fun j hj => hv j (by simp [hj]))⟩
theorem g_tupD {n : Nat} {gs : TGs} {ds : List PyData} {js : List Nat} (hn : ds.length = n) (hs : EvGs c gs (ds.map Im.d) Γ Γ' js) : EvG c (gTup c.K n gs) (.d (.tuple ds)) Γ Γ' js := fun H0 O H σ F fz x e jF rF rM h Q q => by
  obtain ⟨a, xs, rfl, s, al⟩ := h.parts jF rF
  exact ⟨_, _, rfl, s, al.len.trans (by simpa using hn), hs H0 O H σ F fz _ e jF rF rM al Q q⟩
end Lm


namespace Lm
open PySem PySem.Spec PyProof.Rows L2
variable {c : Ct} {H H' H0 H1 H2 H3 : Hp} {O : List Addr} {σ : L2.St} {Γ Γ' : List (Option Rs)}
variable {te ta tb tx tl : TE} {tt tu : TT} {tr : TA} {k ka kb : Kd} {d x y z : PyData} {i j : Int} {a b : Bool} {kv fz : Bool} {ds es : List PyData}

/-! ### what is walked: lists, tuples, ranges -/
theorem sizeOk {n : Nat} (h : n ≤ 1000000) : n ≤ sizeLine := Nat.le_trans h (by decide)
theorem map_get? {α : Type} {f : PyData → α} {i : Nat} {d : PyData} (h : ds[i]? = some d) : (ds.map f)[i]? = some (f d) := by simp [h]
/-- the frozen part -/
theorem Res.frozen {v : V} (e : Env c H0 O H σ Γ) (r : Rr c H H2) (h : Res c O H H2 v d k) (hk : k ≠ .b) : Bo c (mns H2 O) v d := by
  cases k with
  | v => exact h
  | o =>
    obtain ⟨fp, f, nd, new⟩ := h
    have e2 := e.on r
    have no : ∀ a ∈ fp, a ∉ O := fun a ha hO => by
      obtain ⟨xs, q, _⟩ := e.dm a hO
      rw [new a ha] at q
      cases q
    exact (f.up (fun a xs s => sqT_mns (fun b hb => e2.dm b hb) s) fun a ha o q => by rw [mns_out (no a ha)]; exact q).bo fun a ha => okA.fresh e.jH (new a ha)
  | b => exact absurd rfl hk
theorem i_core {J : It} {xs : List V} {F : Hp} (jF : Ji c F) (hw : Walk J xs.length (fun H => Rr c F H) (YAt xs)) (hb : BoAll c F xs ds) (hf : fz = true ∨ flatAll ds = true) : WD c F fz J (ds.map Im.d) := by
  refine ⟨jF, ?_⟩
  have hl : xs.length = (ds.map Im.d).length := by rw [hb.len]; simp
  rw [hl] at hw
  refine hw.mono (fun _ h => h) fun i H x H' hi g y => ?_
  obtain ⟨rfl, hx⟩ := y
  obtain ⟨d, hd, bd⟩ := hb.get hx
  refine ⟨Same.refl _, .d d, map_get? hd, .leaf ?_⟩
  rcases hf with hf | hf
  · exact .inr ⟨hf, bd⟩
  · refine .inl ⟨?_, bd.mono jF g⟩
    have : ∀ (l : List PyData), flatAll l = true → ∀ d ∈ l, flatD d = true := by
      intro l
      induction l with
      | nil => intro _ _ h; simp at h
      | cons a l ih =>
        intro q d hd
        have q' : (flatD a && flatAll l) = true := q
        rw [Bool.and_eq_true] at q'
        rcases List.mem_cons.mp hd with w | w
        · rw [w]; exact q'.1
        · exact ih q'.2 d w
    exact this ds hf d (List.mem_of_getElem? hd)
theorem i_listB (h : Ev c tl Γ k (.list ds)) (hf : flatAll ds = true) : EvI c (iList c.K tl) Γ false (ds.map Im.d) := fun H0 O H σ e R q =>
  h H0 O H σ e _ fun v H1 r s => by
    obtain ⟨p, xs, rfl, kp, sl, al⟩ := (Res.bo e s).lst'
    have j1 := (e.on r).jH
    exact ⟨p, rfl, ⟨xs, sl⟩, q _ H1 r (i_core j1 (walk_list.mono (fun H h => h.lst kp sl) fun _ _ _ _ _ _ y => y) al (.inr hf))⟩
theorem i_list (h : Ev c tl Γ k (.list ds)) (hk : k ≠ .b) : EvI c (iList c.K tl) Γ true (ds.map Im.d) := fun H0 O H σ e R q =>
  h H0 O H σ e _ fun v H1 r s => by
    obtain ⟨p, xs, rfl, kp, sl, al⟩ := (Res.frozen e r s hk).lst'
    exact ⟨p, rfl, ⟨xs, mns_same.seq sl⟩, q _ H1 r (i_core (e.on r).j (walk_list.mono (fun H h => h.lst kp sl) fun _ _ _ _ _ _ y => y) al (.inl rfl))⟩
theorem i_tup (h : Ev c tl Γ k (.tuple ds)) (hk : k ≠ .b) : EvI c (iTup c.K tl) Γ true (ds.map Im.d) := fun H0 O H σ e R q =>
  h H0 O H σ e _ fun v H1 r s => by
    obtain ⟨p, xs, rfl, sl, al⟩ := (Res.frozen e r s hk).tup'
    exact ⟨p, rfl, ⟨xs, (sqT_same mns_same sl).sq⟩, q _ H1 r (i_core (e.on r).j (walk_tup.mono (fun H h => (h.tup (e.on r).j sl).sq) fun _ _ _ _ _ _ y => y) al (.inl rfl))⟩
/-- the upI from lo on, n of them -/
def upI (lo : Int) (n : Nat) : List Int := (List.range n).map fun (i : Nat) => lo + (i : Int)
theorem i_range {F : Hp} (jF : Ji c F) {lo : Int} {n : Nat} : WD c F fz (Itr lo n) ((upI lo n).map fun i => Im.d (.int i)) := by
  refine ⟨jF, ?_⟩
  have hl : ((upI lo n).map fun i => Im.d (.int i)).length = n := by simp [upI]
  rw [hl]
  refine walk_range.mono (fun _ _ => trivial) fun i H x H' hi g y => ?_
  obtain ⟨rfl, rfl⟩ := y
  exact ⟨Same.refl _, .d (.int (lo + i)), by simp [upI, hi], .leaf (.inl ⟨rfl, .int _⟩)⟩
theorem i_rng1 {n : Int} (h : EvA c tr Γ kv [.int n]) (hn : n ≤ 1000000) (hn' : -1000000 ≤ n) : EvI c (iRng1 tr) Γ true ((upI 0 n.toNat).map fun i => Im.d (.int i)) := fun H0 O H σ e R q =>
  h H0 O H σ e _ fun vs H1 r s => by
    cases s with
    | cons b bs =>
      cases bs
      have := b.int'
      subst this
      exact ⟨n, rfl, by omega, by omega, q _ H1 r (i_range (e.on r).j)⟩
/-! ### comprehensions -/
theorem flatAll_one {d : PyData} {ds : List PyData} (h : flatAll ds = true) (m : d ∈ ds) : flatD d = true := by
  induction ds with
  | nil => simp at m
  | cons a l ih =>
    have q' : (flatD a && flatAll l) = true := h
    rw [Bool.and_eq_true] at q'
    rcases List.mem_cons.mp m with w | w
    · rw [w]; exact q'.1
    · exact ih q'.2 w
theorem ifFz {F : Hp} {H1 : Hp} {O : List Addr} (e : Env c H0 O H σ Γ) (r1 : Rr c H H1) (r : Rr c H1 H2) : Rr c (if fz then mns H1 O else H1) H2 ∧ (fz = true → Rr c (if fz then mns H1 O else H1) (mns H2 O)) := by
  cases fz with
  | true => exact ⟨(Rr.same mns_same).tr r, fun _ => r.mns (e.on r1).j e.okO⟩
  | false => exact ⟨r, fun h => nomatch h⟩
theorem n_lc {wi : TI} {g : TG} {vs : List Nat} {items : List Im} (M : Nat → List PyData → Prop) (hi : EvI c wi Γ fz items) (hl : items.length ≤ 1000000) (h0 : M 0 [])
    (hb : ∀ (n : Nat) (a : Im) (acc : List PyData), items[n]? = some a → M n acc → ∃ Γ' js, EvG c g a (wipeG Γ vs) Γ' js ∧ (∀ j ∈ js, j ∈ vs) ∧
      ∃ (b : Bool) (P : PyData → Prop), EvT c tt Γ' b ∧ (b = true → EvN c te Γ' .o P ∧ ∀ d, P d → M (n + 1) (acc ++ [d])) ∧ (b = false → M (n + 1) acc)) :
    EvN c (tLc wi g tt te vs) Γ .o (fun d => ∃ acc, d = .list acc ∧ M items.length acc) := fun H0 O H σ e Q q =>
  hi H0 O H σ e _ fun J H1 r1 w D hD => by
    obtain ⟨jF, w⟩ := w
    refine lc_it w (fun n H' => Rr c H1 H' ∧ ∃ acc ds fp, H' D = some (.lst acc) ∧ FoAll c H' acc ds fp ∧ fp.Nodup ∧ (∀ a ∈ fp, H1 a = none) ∧ D ∉ fp ∧ ds.length ≤ n ∧ M n ds) ?_ ?_ ?_ ?_
    · exact ⟨Rr.same fun b o z => by rw [upd_ne (ne_of_none z hD)]; exact z, [], [], [], upd_same, .nil, List.nodup_nil, (fun _ h => nomatch h), (fun h => nomatch h), Nat.le_refl _, h0⟩
    · intro n H' _ p
      exact (ifFz (F := H) e r1 p.1).1
    · rintro n x H' H'' hn ⟨p1, acc, ds, fp, p2, p3, p4, p5, p6, p7, p8⟩ ⟨sm, im, him, lo⟩
      have e2 : Env c H0 O H'' σ Γ := e.on ((r1.tr p1).tr (Rr.same sm))
      have fzz := ifFz (fz := fz) (F := H) e r1 (p1.tr (Rr.same sm))
      obtain ⟨Γ', js, hg, hjs, b, P, ht, hy, hno⟩ := hb n im ds him p8
      refine hg H0 O H'' _ _ fz x (e2.wipe vs) jF fzz.1 fzz.2 lo _ fun σ2 e3 hw => ⟨(hw vs hjs).trans (wipe_wipe fun _ h => h), ht H0 O H'' σ2 e3 _ fun H3 r3 => ?_⟩
      have p3' : FoAll c H'' acc ds fp := p3.up (fun _ _ s => sqT_same sm s) fun a _ o z => sm a o z
      have okf : ∀ a ∈ fp, okA c a := fun a ha => okA.fresh (e.on r1).jH (p5 a ha)
      have okD : okA c D := okA.fresh (e.on r1).jH hD
      have f3 : FoAll c H3 acc ds fp := p3'.up (fun _ _ s => r3.tup e2.jH s) fun a ha o z => r3.1 a o (okf a ha) z
      have D3 : H3 D = some (.lst acc) := r3.1 D _ okD (sm _ _ p2)
      have r13 : Rr c H1 H3 := (p1.tr (Rr.same sm)).tr r3
      cases b with
      | true =>
        refine iteT ?_
        obtain ⟨hyN, hyM⟩ := hy rfl
        refine hyN H0 O H3 σ2 (e3.on r3) _ fun v d H4 pd r4 s4 => ?_
        obtain ⟨fq, f4, nq, newq⟩ := s4
        have e3' := e3.on r3
        have D4 : H4 D = some (.lst acc) := r4.1 D _ okD D3
        have f3' : FoAll c H4 acc ds fp := f3.up (fun _ _ s => r4.tup e3'.jH s) fun a ha o z => r4.1 a o (okf a ha) z
        have Dq : D ∉ fq := fun z => by rw [newq D z] at D3; cases D3
        have all : FoAll c H4 (acc ++ [v]) (ds ++ [d]) (fp ++ (fq ++ [])) := f3'.app (.cons f4 .nil)
        rw [List.append_nil] at all
        have lacc : acc.length = ds.length := (f3'.bo okf).len
        have hle : ds.length ≤ 1000000 := by omega
        have nodq : ∀ a ∈ fp, a ∉ fq := fun a ha hq => by
          obtain ⟨xs, z⟩ := f3.isL a ha
          rw [newq a hq] at z; cases z
        refine ⟨acc, D4, by rw [lacc, sizeLine_eq]; omega, ?_, acc ++ [v], ds ++ [d], fp ++ fq, upd_same, ?_, ?_, ?_, ?_, by simp; omega, hyM d pd⟩
        · refine ⟨fun a o ok z => ?_, fun jj => ?_⟩
          · rw [upd_ne (ne_of_none z hD)]; exact (r13.tr r4).1 a o ok z
          · intro st l eq
            obtain ⟨ns, x, k, g1, g2, g3, g4⟩ := (r13.tr r4).2 jj st l eq
            have d1 : st ≠ D := fun z => by
              obtain ⟨ns', x', k', g1', _⟩ := jj st l eq
              rw [z, hD] at g1'; cases g1'
            have d2 : l ≠ D := fun z => by
              obtain ⟨ns', x', k', _, g2', _⟩ := jj st l eq
              rw [z, hD] at g2'; cases g2'
            exact ⟨ns, x, k, by rw [upd_ne d1]; exact g1, by rw [upd_ne d2]; exact g2, g3, g4⟩
        · refine all.up (fun _ _ s => sqT_upd D4 s) fun a ha o z => ?_
          have : a ≠ D := fun w => by
            subst w
            rcases List.mem_append.mp ha with u | u
            · exact p6 u
            · exact Dq u
          rw [upd_ne this]; exact z
        · rw [List.nodup_append]
          exact ⟨p4, nq, fun a ha b hb z => by subst z; exact nodq a ha hb⟩
        · intro a ha
          rcases List.mem_append.mp ha with u | u
          · exact p5 a u
          · exact r13.back (e.on r1).jH (newq a u)
        · intro z
          rcases List.mem_append.mp z with u | u
          · exact p6 u
          · exact Dq u
      | false =>
        exact iteF ⟨r13, acc, ds, fp, D3, f3, p4, p5, p6, by omega, hno rfl⟩
    · rintro H' ⟨p1, acc, ds, fp, p2, p3, p4, p5, p6, p7, p8⟩
      refine q (.ref D) (.list ds) H' ⟨ds, rfl, p8⟩ (r1.tr p1) ⟨D :: fp, .lst p2 p3, ?_, fun a ha => ?_⟩
      · exact List.nodup_cons.mpr ⟨p6, p4⟩
      · rcases List.mem_cons.mp ha with w | w
        · rw [w]; exact r1.back e.jH hD
        · exact r1.back e.jH (p5 a w)
theorem d_lc {α : Type} {wi : TI} {g : TG} {vs : List Nat} {l : List α} {en : α → Im} (p : α → Bool) (m : α → PyData) (hi : EvI c wi Γ fz (l.map en)) (hl : l.length ≤ 1000000)
    (hb : ∀ a ∈ l, ∃ Γ' js, EvG c g (en a) (wipeG Γ vs) Γ' js ∧ (∀ j ∈ js, j ∈ vs) ∧ EvT c tt Γ' (p a) ∧ (p a = true → Ev c te Γ' .o (m a))) :
    Ev c (tLc wi g tt te vs) Γ .o (.list ((l.filter p).map m)) := by
  refine ((n_lc (fun n acc => acc = ((l.take n).filter p).map m) hi (by simpa using hl) rfl ?_).imp ?_).det
  · intro n a acc hn hacc
    rw [List.getElem?_map] at hn
    cases ha : l[n]? with
    | none => rw [ha] at hn; cases hn
    | some a0 =>
      rw [ha] at hn
      have : en a0 = a := Option.some.inj hn
      subst this
      have tk : l.take (n + 1) = l.take n ++ [a0] := by
        rw [List.take_add_one, ha]; rfl
      obtain ⟨Γ', js, h1, h2, h3, h4⟩ := hb a0 (List.mem_of_getElem? ha)
      refine ⟨Γ', js, h1, h2, p a0, fun d => d = m a0, h3, fun hp => ⟨(h4 hp).n, fun d hd => ?_⟩, fun hp => ?_⟩
      · rw [hacc, tk, hd]; simp [hp]
      · rw [hacc, tk]; simp [hp]
  · rintro d ⟨acc, rfl, h⟩
    have : (l.map en).length = l.length := by simp
    rw [this, List.take_length] at h
    rw [h]
/-- without a test -/
theorem d_lcA {α : Type} {wi : TI} {g : TG} {vs : List Nat} {l : List α} {en : α → Im} (m : α → PyData) (hi : EvI c wi Γ fz (l.map en)) (hl : l.length ≤ 1000000)
    (hb : ∀ a ∈ l, ∃ Γ' js, EvG c g (en a) (wipeG Γ vs) Γ' js ∧ (∀ j ∈ js, j ∈ vs) ∧ Ev c te Γ' .o (m a)) :
    Ev c (tLc wi g tYes te vs) Γ .o (.list (l.map m)) := by
  have := d_lc (te := te) (tt := tYes) (g := g) (vs := vs) (fun _ => true) m hi hl fun a ha => by
    obtain ⟨Γ', js, h1, h2, h3⟩ := hb a ha
    exact ⟨Γ', js, h1, h2, t_yes, fun _ => h3⟩
  have e : l.filter (fun _ => true) = l := List.filter_eq_self.mpr fun _ _ => rfl
  rwa [e] at this
end Lm


namespace Lm
open PySem PySem.Spec PyProof.Rows L2
variable {c : Ct} {H H' H0 H1 H2 H3 : Hp} {O : List Addr} {σ : L2.St} {Γ Γ' Γ1 : List (Option Rs)}
variable {te ta tb tx tl : TE} {tt tu : TT} {tr : TA} {k ka kb : Kd} {d x y z : PyData} {i j : Int} {a b : Bool} {kv fz : Bool} {ds es : List PyData}

/-! ### how a statement ends -/
inductive Out where
  | nx (Γ : List (Option Rs))
  | rt (k : Kd) (d : PyData)
  | bk (Γ : List (Option Rs))
  | ct (Γ : List (Option Rs))
def Rt (c : Ct) (H0 H : Hp) (v : V) (d : PyData) : Kd → Prop
  | .v => flatD d = true ∧ Bo c H v d
  | .o => ∃ fp, Fo c H v d fp ∧ fp.Nodup ∧ ∀ a ∈ fp, H0 a = none
  | .b => (∃ x, c.so = some x) ∧ Bo c H v d
def Sat (c : Ct) (H0 : Hp) (D : Ends) : Out → Prop
  | .nx Γ => ∀ O H σ, Env c H0 O H σ Γ → D.nx σ H
  | .rt k d => ∀ v H, Rr c H0 H → Rt c H0 H v d k → D.rt v H
  | .bk Γ => ∀ O H σ, Env c H0 O H σ Γ → D.bk σ H
  | .ct Γ => ∀ O H σ, Env c H0 O H σ Γ → D.ct σ H
def Sd (c : Ct) (t : TS) (Γ : List (Option Rs)) (P : Out → Prop) : Prop :=
  ∀ H0 O H σ D, Env c H0 O H σ Γ → (∀ o, P o → Sat c H0 D o) → t D σ H
section
variable {t u w : TS} {P P1 : Out → Prop} {n : Nat}
theorem Env.back0 (e : Env c H0 O H σ Γ) {a : Addr} (h : mns H O a = none) : H0 a = none := by
  cases q : H0 a with
  | none => rfl
  | some o =>
    have k : okA c a := fun st l z w => by
      obtain ⟨ns, x, k, g1, _⟩ := e.j st l z
      rw [← w, h] at g1
      cases g1
    have := e.r0.1 a o k q
    rw [h] at this
    cases this
theorem s_next (h : P (.nx Γ)) : Sd c tNext Γ P := fun H0 O H σ D e s => s _ h O H σ e
theorem s_seq (h : Sd c t Γ P1) (hn : ∀ Γ1, P1 (.nx Γ1) → Sd c u Γ1 P) (hr : ∀ k d, P1 (.rt k d) → P (.rt k d)) (hb : ∀ Γ1, P1 (.bk Γ1) → P (.bk Γ1)) (hc : ∀ Γ1, P1 (.ct Γ1) → P (.ct Γ1)) : Sd c (tSeq t u) Γ P := fun H0 O H σ D e s =>
  h H0 O H σ _ e fun o po => match o with
    | .nx Γ1 => fun O1 H1 σ1 e1 => hn Γ1 po H0 O1 H1 σ1 D e1 s
    | .rt k d => fun v H1 r q => s _ (hr k d po) v H1 r q
    | .bk Γ1 => fun O1 H1 σ1 e1 => s _ (hb Γ1 po) O1 H1 σ1 e1
    | .ct Γ1 => fun O1 H1 σ1 e1 => s _ (hc Γ1 po) O1 H1 σ1 e1
theorem s_seq1 (h : Sd c t Γ (fun o => o = .nx Γ1)) (hn : Sd c u Γ1 P) : Sd c (tSeq t u) Γ P :=
  s_seq h (fun _ e => by cases e; exact hn) (fun _ _ e => nomatch e) (fun _ e => nomatch e) (fun _ e => nomatch e)
theorem Sd.imp (h : Sd c t Γ P1) (i : ∀ o, P1 o → P o) : Sd c t Γ P := fun H0 O H σ D e s => h H0 O H σ D e fun o po => s o (i o po)
/-- another description of the slots -/
theorem Sd.pre (h : Sd c t Γ1 P) (i : ∀ H0 O H σ, Env c H0 O H σ Γ → ∃ O', Env c H0 O' H σ Γ1) : Sd c t Γ P := fun H0 O H σ D e s => by
  obtain ⟨O', e'⟩ := i H0 O H σ e
  exact h H0 O' H σ D e' s
/-- what an expression gave is stored: to be returned -/
theorem Rt.of {v : V} (e : Env c H0 O H σ Γ) (r : Rr c H H2) (h : Res c O H H2 v d k) (hk : k = .o ∨ (k = .v ∧ flatD d = true)) : Rt c H0 H2 v d k := by
  rcases hk with rfl | ⟨rfl, f⟩
  · obtain ⟨fp, q, nd, new⟩ := h
    refine ⟨fp, q, nd, fun a ha => e.back0 ?_⟩
    have : a ∉ O := fun z => by
      obtain ⟨xs, w, _⟩ := e.dm a z
      rw [new a ha] at w; cases w
    rw [mns_out this]; exact new a ha
  · exact ⟨f, Bo.same mns_same h⟩
theorem s_ret (h : Ev c te Γ k d) (hk : k = .o ∨ (k = .v ∧ flatD d = true)) (p : P (.rt k d)) : Sd c (tRet te) Γ P := fun H0 O H σ D e s =>
  h H0 O H σ e _ fun v H2 r q => s _ p v H2 (e.rH.tr r) (Rt.of e r q hk)
/-- a list of one's own is returned -/
theorem s_retO (h : Γ[n]? = some (some (.o d))) (p : P (.rt .o d)) : Sd c (tRet (tVar n)) Γ P := fun H0 O H σ D e s => by
  obtain ⟨v, fp, hv, f, nd, sub⟩ := e.slotO h
  exact ⟨v, hv, s _ p v H e.rH ⟨fp, f, nd, fun a ha => e.fr a (sub a ha)⟩⟩
theorem s_asg (h : Ev c te Γ .v d) (p : P (.nx (Γ.set n (some (.v d))))) : Sd c (tAsg te (gName n)) Γ P := fun H0 O H σ D e s =>
  h H0 O H σ e _ fun v H2 r q => s _ p O H2 _ ((e.on r).setV q)
theorem s_asgO (h : Ev c te Γ .o d) (p : P (.nx (Γ.set n (some (.o d))))) : Sd c (tAsg te (gName n)) Γ P := fun H0 O H σ D e s =>
  h H0 O H σ e _ fun v H2 r ⟨fp, f, nd, new⟩ => s _ p _ H2 _ (e.setO r f nd new)
theorem q_asg (h : Ev c te Γ .v d) (p : Sd c u (Γ.set n (some (.v d))) P) : Sd c (tSeq (tAsg te (gName n)) u) Γ P := s_seq1 (s_asg h rfl) p
theorem q_asgO (h : Ev c te Γ .o d) (p : Sd c u (Γ.set n (some (.o d))) P) : Sd c (tSeq (tAsg te (gName n)) u) Γ P := s_seq1 (s_asgO h rfl) p
theorem q_asgN (Pd : PyData → Prop) (h : EvN c te Γ .v Pd) (p : ∀ d, Pd d → Sd c u (Γ.set n (some (.v d))) P) : Sd c (tSeq (tAsg te (gName n)) u) Γ P := fun H0 O H σ D e s =>
  h H0 O H σ e _ fun v d H2 pd r q => p d pd H0 O H2 _ D ((e.on r).setV q) s
theorem q_drop (h : Ev c te Γ k d) (p : Sd c u Γ P) : Sd c (tSeq (tDrop te) u) Γ P := fun H0 O H σ D e s =>
  h H0 O H σ e _ fun v H2 r q => p H0 O H2 σ D (e.on r) s
theorem s_drop (h : Ev c te Γ k d) (p : P (.nx Γ)) : Sd c (tDrop te) Γ P := fun H0 O H σ D e s =>
  h H0 O H σ e _ fun v H2 r q => s _ p O H2 σ (e.on r)
theorem s_if (h : EvT c tt Γ a) (h1 : a = true → Sd c t Γ P) (h2 : a = false → Sd c u Γ P) : Sd c (tIfS tt t u) Γ P := fun H0 O H σ D e s =>
  h H0 O H σ e _ fun H2 r => by
    cases a with
    | true => exact iteT (h1 rfl H0 O H2 σ D (e.on r) s)
    | false => exact iteF (h2 rfl H0 O H2 σ D (e.on r) s)
/-- if, then the rest -/
theorem q_if (h : EvT c tt Γ a) (h1 : a = true → Sd c (tSeq t w) Γ P) (h2 : a = false → Sd c (tSeq u w) Γ P) : Sd c (tSeq (tIfS tt t u) w) Γ P := fun H0 O H σ D e s =>
  h H0 O H σ e _ fun H2 r => by
    cases a with
    | true => exact iteT (h1 rfl H0 O H2 σ D (e.on r) s)
    | false => exact iteF (h2 rfl H0 O H2 σ D (e.on r) s)
theorem q_next (h : Sd c u Γ P) : Sd c (tSeq tNext u) Γ P := fun H0 O H σ D e s => h H0 O H σ D e s
theorem q_ret (h : Ev c te Γ k d) (hk : k = .o ∨ (k = .v ∧ flatD d = true)) (p : P (.rt k d)) : Sd c (tSeq (tRet te) u) Γ P := fun H0 O H σ D e s =>
  h H0 O H σ e _ fun v H2 r q => s _ p v H2 (e.rH.tr r) (Rt.of e r q hk)
/-- if that surely is not so (or is) -/
theorem q_no (h : EvT c tt Γ false) (h2 : Sd c w Γ P) : Sd c (tSeq (tIfS tt t tNext) w) Γ P := q_if h (fun e => nomatch e) (fun _ => q_next h2)
theorem s_no (h : EvT c tt Γ false) (h2 : Sd c u Γ P) : Sd c (tIfS tt t u) Γ P := s_if h (fun e => nomatch e) (fun _ => h2)
theorem s_yes (h : EvT c tt Γ true) (h2 : Sd c t Γ P) : Sd c (tIfS tt t u) Γ P := s_if h (fun _ => h2) (fun e => nomatch e)
/-- x += e -/
theorem s_aug {f : Int → Int → Int} (hx : Γ[n]? = some (some (.v (.int i)))) (h : Ev c te Γ k (.int j)) (p : P (.nx (Γ.set n (some (.v (.int (f i j))))))) : Sd c (tAug n te (ipI f)) Γ P := fun H0 O H σ D e s => by
  obtain ⟨v, hv, b⟩ := e.slotV hx
  refine ⟨v, hv, h H0 O H σ e _ fun w H2 r q => ⟨i, j, b.int', (Res.bo e q).int', s _ p O H2 _ ((e.on r).setV (.int _))⟩⟩
/-- xs.append(e) -/
theorem s_app (hx : Γ[n]? = some (some (.o (.list ds)))) (h : Ev c te Γ k d) (hf : flatD d = true) (hl : ds.length < 1000000) (p : P (.nx (Γ.set n (some (.o (.list (ds ++ [d]))))))) : Sd c (tDrop (tBM c.K "list" rAppend (tVar n) (tCons te tNil))) Γ P := fun H0 O H σ D e s => by
  obtain ⟨q, xs, f, hq, hp, fa, qf, qO, _⟩ := e.write (es := ds ++ [d]) hx
  refine ⟨.ref q, hq, .inl ⟨rfl, xs, .inl (.inl hp)⟩, h H0 O H σ e _ fun v H2 r rs => ?_⟩
  have e2 := e.on r
  obtain ⟨q', xs', f', hq', hp', fa', qf', qO', wr⟩ := e2.write (es := ds ++ [d]) hx
  have : q' = q := by rw [hq] at hq'; cases hq'; rfl
  subst this
  have bo : Bo c H2 v d := Res.bo e rs
  have lx : xs'.length = ds.length := (fa'.bo fun a ha => e.okO a (qO' a ha)).len
  refine ⟨q', xs', v, rfl, rfl, hp', by rw [lx, sizeLine_eq]; omega, s _ p O _ σ (wr (xs' ++ [v]) ?_)⟩
  have := fa'.app (.cons (.leaf hf bo) .nil : FoAll c H2 [v] [d] ([] ++ []))
  rw [List.append_nil, List.append_nil] at this
  exact this.up (fun _ _ s => sqT_upd hp' s) fun a ha o z => by
    have : a ≠ q' := fun w => qf' (w ▸ ha)
    rw [upd_ne this]; exact z
theorem q_app (hx : Γ[n]? = some (some (.o (.list ds)))) (h : Ev c te Γ k d) (hf : flatD d = true) (hl : ds.length < 1000000) (p : Sd c u (Γ.set n (some (.o (.list (ds ++ [d]))))) P) : Sd c (tSeq (tDrop (tBM c.K "list" rAppend (tVar n) (tCons te tNil))) u) Γ P :=
  s_seq1 (s_app hx h hf hl rfl) p
/-! ### for -/
theorem s_for {wi : TI} {g : TG} {tb : TS} {items : List Im} (hi : EvI c wi Γ true items) (I : Nat → List (Option Rs) → Prop) (h0 : I 0 Γ)
    (hs : ∀ n a Γ1, items[n]? = some a → I n Γ1 → ∃ Γ2 js, EvG c g a Γ1 Γ2 js ∧
      Sd c tb Γ2 (fun o => (∃ Γ3, (o = .nx Γ3 ∨ o = .ct Γ3) ∧ I (n + 1) Γ3) ∨ (∃ Γ3, o = .bk Γ3 ∧ P (.nx Γ3)) ∨ ∃ k d, o = .rt k d ∧ P o))
    (hd : ∀ Γ1, I items.length Γ1 → P (.nx Γ1)) : Sd c (tFor wi g tb) Γ P := fun H0 O H σ D e s =>
  hi H0 O H σ e _ fun J H1 r1 w => by
    obtain ⟨jF, w⟩ := w
    have e1 := e.on r1
    refine for_it w (fun n σ' H' => ∃ O' Γ', I n Γ' ∧ Env c (mns H1 O) O' H' σ' Γ') ⟨O, Γ, h0, e1.base⟩ ?_ ?_ ?_
    · rintro n σ' H' _ ⟨O', Γ', _, e'⟩
      exact e'.rH
    · rintro n x σ' H' H'' hn ⟨O', Γ', hI, e'⟩ ⟨sm, im, him, lo⟩
      have e2 := e'.on (Rr.same sm)
      obtain ⟨Γ2, js, hg, hb⟩ := hs n im Γ' him hI
      refine hg _ _ _ _ _ true x e2 jF e2.rH (fun _ => e2.r0) lo _ fun σ2 e3 _ => hb _ _ _ _ _ e3 fun o po => ?_
      rcases po with ⟨Γ3, ho, h3⟩ | ⟨Γ3, ho, h3⟩ | ⟨k, d, ho, h3⟩
      · rcases ho with rfl | rfl
        · exact fun O4 H4 σ4 e4 => ⟨O4, Γ3, h3, e4⟩
        · exact fun O4 H4 σ4 e4 => ⟨O4, Γ3, h3, e4⟩
      · subst ho
        exact fun O4 H4 σ4 e4 => s _ h3 O4 H4 σ4 (e1.fromB e4)
      · subst ho
        intro v H4 r4 rt
        refine s _ h3 v H4 ((e.r0.tr (r1.mns e.j e.okO)).tr r4) ?_
        cases k with
        | v => exact rt
        | o =>
          obtain ⟨fp, q, nd, new⟩ := rt
          exact ⟨fp, q, nd, fun a ha => e1.back0 (new a ha)⟩
        | b => exact rt
    · rintro σ' H' ⟨O', Γ', hI, e'⟩
      exact s _ (hd Γ' hI) O' H' σ' (e1.fromB e')
theorem q_for {wi : TI} {g : TG} {tb : TS} {items : List Im} (hi : EvI c wi Γ true items) (I : Nat → List (Option Rs) → Prop) (h0 : I 0 Γ)
    (hs : ∀ n a Γ1, items[n]? = some a → I n Γ1 → ∃ Γ2 js, EvG c g a Γ1 Γ2 js ∧
      Sd c tb Γ2 (fun o => (∃ Γ3, (o = .nx Γ3 ∨ o = .ct Γ3) ∧ I (n + 1) Γ3) ∨ (∃ Γ3, o = .bk Γ3 ∧ Sd c u Γ3 P) ∨ ∃ k d, o = .rt k d ∧ P o))
    (hd : ∀ Γ1, I items.length Γ1 → Sd c u Γ1 P) : Sd c (tSeq (tFor wi g tb) u) Γ P :=
  s_seq (P1 := fun o => match o with | .nx Γ3 => Sd c u Γ3 P | .rt k d => P (.rt k d) | _ => False)
    (s_for hi I h0 (fun n a Γ1 h1 h2 => by
      obtain ⟨Γ2, js, hg, hb⟩ := hs n a Γ1 h1 h2
      refine ⟨Γ2, js, hg, hb.imp fun o po => ?_⟩
      rcases po with w | ⟨Γ3, ho, h3⟩ | ⟨k, d, ho, h3⟩
      · exact .inl w
      · exact .inr (.inl ⟨Γ3, ho, h3⟩)
      · subst ho; exact .inr (.inr ⟨k, d, rfl, h3⟩)) hd) (fun _ h => h) (fun _ _ h => h) (fun _ h => h.elim) (fun _ h => h.elim)
end

/-! ### new tuples and lists; built-ins -/
theorem newTk {xs : List V} {Q : VK} (h : ∀ p H2, H p = none → Same H H2 → TpN c.K H2 p xs → Q (.ref p) H2) : NewT H xs Q := fun p o ho hp =>
  h p _ hp (fun b u z => by rw [upd_ne (ne_of_none z hp)]; exact z) (.inl ⟨o, ho, upd_same⟩)
theorem BoAll.vm {O : List Addr} {vs : List V} (h : BoAll c (if true = true then mns H O else H) vs ds) : BoAll c (mns H O) vs ds := h
theorem new_notO (e : Env c H0 O H σ Γ) {p : Addr} (h : H p = none) : p ∉ O := fun z => by
  obtain ⟨xs, w, _⟩ := e.dm p z
  rw [h] at w; cases w
theorem tpN_mns (e : Env c H0 O H σ Γ) (r : Rr c H H2) {p : Addr} {xs : List V} (h : TpN c.K H2 p xs) : TpN c.K (mns H2 O) p xs := sqT_mns (fun b hb => (e.on r).dm b hb) h
theorem d_tup (h : EvA c tr Γ true ds) (hl : ds.length ≤ 1000000) : Ev c (tTupN tr) Γ .v (.tuple ds) := fun H0 O H σ e Q q =>
  h H0 O H σ e _ fun vs H1 r s => by
    have s' := BoAll.vm s
    refine ⟨by rw [s'.len]; exact sizeOk hl, newTk (c := c) fun p H2 hp sm tp => q _ H2 (r.tr (Rr.same sm)) ?_⟩
    have r2 : Rr c H H2 := r.tr (Rr.same sm)
    exact .tup (tpN_mns e r2 tp) (s'.mono (e.on r).j ((Rr.same sm : Rr c H1 H2).mns (e.on r).j e.okO))
theorem d_lst (h : EvA c tr Γ kv ds) (hf : flatAll ds = true) (hl : ds.length ≤ 1000000) : Ev c (tLst tr) Γ .o (.list ds) := fun H0 O H σ e Q q =>
  h H0 O H σ e _ fun vs H1 r s => by
    have s' : BoAll c H1 vs ds := by
      cases kv with
      | true => exact BoAll.same mns_same (BoAll.vm s)
      | false => exact s
    refine ⟨by rw [s'.len]; exact sizeOk hl, fun p hp => q _ _ (r.tr (Rr.same fun b u z => by rw [upd_ne (ne_of_none z hp)]; exact z)) ?_⟩
    have sm : Same H1 (upd H1 p (.lst vs)) := fun b u z => by rw [upd_ne (ne_of_none z hp)]; exact z
    exact ⟨[p], .lst upd_same (FoAll.leaves hf (s'.same sm)), by simp, fun a ha => by
      have : a = p := by simpa using ha
      rw [this]; exact r.back e.jH hp⟩
/-- a call by values -/
theorem d_cb {r : List V → Hp → VK → Prop} (h : EvA c tr Γ false ds) (hr : ∀ H O vs (Q : VK), BoAll c H vs ds → (∀ v H2, Rr c H H2 → Bo c (mns H2 O) v z → Q v H2) → r vs H Q) : Ev c (tCB r tr) Γ .v z := fun H0 O H σ e Q q =>
  h H0 O H σ e _ fun vs H1 r1 s => hr H1 O vs Q s fun v H2 r2 b => q v H2 (r1.tr r2) b
theorem BoAll.one {v : List V} (h : BoAll c H v [d]) : ∃ x, v = [x] ∧ Bo c H x d := by
  cases h with
  | cons a b => cases b; exact ⟨_, rfl, a⟩
theorem BoAll.two {v : List V} (h : BoAll c H v [d, x]) : ∃ y z, v = [y, z] ∧ Bo c H y d ∧ Bo c H z x := by
  cases h with
  | cons a b =>
    cases b with
    | cons a' b => cases b; exact ⟨_, _, rfl, a, a'⟩
def rLen (K : PySem.W.Frag) : List V → Hp → VK → Prop := fun xs H Q => ∃ p ys, xs = [.ref p] ∧ (SqL K H p ys ∨ SqT K H p ys) ∧ Q (.int ys.length) H
theorem d_lenT (h : Ev c te Γ k (.tuple ds)) : Ev c (tCB (rLen c.K) (tCons te tNil)) Γ .v (.int ds.length) :=
  d_cb (a_cons h a_nil) fun H O vs Q s q => by
    obtain ⟨x, rfl, b⟩ := s.one
    obtain ⟨p, xs, rfl, s, al⟩ := b.tup'
    exact ⟨p, xs, rfl, .inr s.sq, by rw [al.len]; exact q _ H Rr.rf (.int _)⟩
theorem d_lenL (h : Ev c te Γ k (.list ds)) : Ev c (tCB (rLen c.K) (tCons te tNil)) Γ .v (.int ds.length) :=
  d_cb (a_cons h a_nil) fun H O vs Q s q => by
    obtain ⟨x, rfl, b⟩ := s.one
    obtain ⟨p, xs, rfl, _, s, al⟩ := b.lst'
    exact ⟨p, xs, rfl, .inl s, by rw [al.len]; exact q _ H Rr.rf (.int _)⟩
theorem d_all {bs : List Bool} (h : Ev c te Γ k (.list (bs.map .bool))) : Ev c (tCB (rAll c.K) (tCons te tNil)) Γ .v (.bool (bs.all id)) :=
  d_cb (a_cons h a_nil) fun H O vs Q s q => by
    obtain ⟨x, rfl, b⟩ := s.one
    obtain ⟨p, xs, rfl, _, s, al⟩ := b.lst'
    have := al.bools
    subst this
    exact ⟨p, bs, rfl, s, q _ H Rr.rf (.bl _)⟩
theorem n_tuple {P : List PyData → Prop} (h : EvN c te Γ k (fun d => ∃ ds, d = .list ds ∧ P ds)) (hf : ∀ ds, P ds → flatAll ds = true) : EvN c (tCB (rTuple c.K) (tCons te tNil)) Γ .v (fun d => ∃ ds, d = .tuple ds ∧ P ds) := fun H0 O H σ e Q q =>
  h H0 O H σ e _ fun v d H1 ⟨ds, hd, pd⟩ r s => by
    subst hd
    obtain ⟨p, xs, rfl, _, sl, al⟩ := (Res.bo e s).lst'
    refine ⟨p, xs, rfl, .inl ⟨sl, newTk (c := c) fun p' H2 hp sm tp => q _ (.tuple ds) H2 ⟨ds, rfl, pd⟩ (r.tr (Rr.same sm)) ?_⟩⟩
    have r2 : Rr c H H2 := r.tr (Rr.same sm)
    exact .tup (tpN_mns e r2 tp) ((al.same sm).flatTo (fun a xs s => sqT_mns (fun b hb => (e.on r2).dm b hb) s) (hf ds pd))
theorem d_tuple (h : Ev c te Γ k (.list ds)) (hf : flatAll ds = true) : Ev c (tCB (rTuple c.K) (tCons te tNil)) Γ .v (.tuple ds) :=
  ((n_tuple (P := fun es => es = ds) (h.n.imp fun d hd => ⟨ds, hd, rfl⟩) fun es he => he ▸ hf).imp fun d ⟨es, h1, h2⟩ => by rw [h1, h2]).det
end Lm


namespace Lm
open PySem PySem.Spec PyProof.Rows L2
variable {c : Ct} {H H' H0 H1 H2 H3 : Hp} {O : List Addr} {σ : L2.St} {Γ Γ' Γ1 : List (Option Rs)}
variable {te ta tb tx tl : TE} {tt tu : TT} {tr : TA} {k ka kb : Kd} {d x y z : PyData} {i j : Int} {a b : Bool} {kv fz : Bool} {ds es : List PyData}

/-! ### promises of defs over data -/
abbrev pc (K : PySem.W.Frag) : Ct := ⟨K, none⟩
/-- args, how the answer is held, the answer -/
abbrev Pre := List PyData → Kd → PyData → Prop
def spD (K : PySem.W.Frag) (pre : Pre) : Sp := fun vs H Q _ => ∃ ds k d, BoAll (pc K) H vs ds ∧ pre ds k d ∧ ∀ v H', Same H H' → Rt (pc K) H H' v d k → Q v H'
/-- with the stream first: one of several answers -/
abbrev PreS := List PyData → Kd → (PyData → Prop) → Prop
abbrev sc (K : PySem.W.Frag) (st l : Addr) : Ct := ⟨K, some (st, l)⟩
def spS (K : PySem.W.Frag) (pre : PreS) : Sp := fun vs H Q _ => ∃ st l vs' ds k P, vs = .ref st :: vs' ∧ Str1 K st l H ∧ BoAll (sc K st l) H vs' ds ∧ pre ds k P ∧ ∀ v d H', P d → Rr (sc K st l) H H' → Rt (sc K st l) H H' v d k → Q v H'
mutual
theorem Fo.ct {c' : Ct} (hk : c'.K = c.K) : ∀ {v : V} {d : PyData} {fp : List Addr}, Fo c H v d fp → Fo c' H v d fp
  | _, _, _, .leaf q b => .leaf q (b.flat hk q)
  | _, _, _, .lst e a => .lst e (FoAll.ct hk a)
theorem FoAll.ct {c' : Ct} (hk : c'.K = c.K) : ∀ {v : List V} {d : List PyData} {fp : List Addr}, FoAll c H v d fp → FoAll c' H v d fp
  | _, _, _, .nil => .nil
  | _, _, _, .cons a b => .cons (Fo.ct hk a) (FoAll.ct hk b)
end
theorem Rt.res {v : V} (e : Env c H0 O H σ Γ) (r : Rr c H H2) (h : Rt c H H2 v d k) : Res c O H H2 v d k := by
  cases k with
  | v => exact Bo.flatM e r h.1 h.2
  | o => exact h
  | b => exact h.2
theorem d_call {pre : Pre} {E : XK} (h : EvA c tr Γ false ds) (hp : pre ds k d) : Ev c (tCall (spD c.K pre) [] E tr) Γ k d := fun H0 O H σ e Q q =>
  h H0 O H σ e _ fun vs H1 r s => by
    refine ⟨ds, k, d, by rw [List.append_nil]; exact s.pure, hp, fun v H2 sm rt => q v H2 (r.tr (Rr.same sm)) ?_⟩
    have r2 : Rr c H H2 := r.tr (Rr.same sm)
    cases k with
    | v => exact (Bo.flat (c := pc c.K) (c' := c) rfl rt.1 rt.2).flatM e r2 rt.1
    | o =>
      obtain ⟨fp, f, nd, new⟩ := rt
      exact ⟨fp, Fo.ct (c := pc c.K) (c' := c) rfl f, nd, fun a ha => r.back e.jH (new a ha)⟩
    | b => obtain ⟨⟨_, e⟩, _⟩ := rt; exact nomatch e
theorem n_call {pre : PreS} {E : XK} {st l : Addr} {P : PyData → Prop} {n : Nat} (hc : c.so = some (st, l)) (hst : Γ[n]? = some (some (.r (.ref st)))) (h : EvA c tr Γ false ds) (hp : pre ds k P) :
    EvN c (tCall (spS c.K pre) [] E (tCons (tVar n) tr)) Γ k P := fun H0 O H σ e Q q => by
  have hcc : c = sc c.K st l := by cases c; cases hc; rfl
  refine ⟨_, e.slotR hst, h H0 O H σ e _ fun vs H1 r s => ?_⟩
  refine ⟨st, l, vs, ds, k, P, by simp, (e.on r).jH st l hc, by rw [← hcc]; exact s, hp, fun v d H2 pd r2 rt => ?_⟩
  rw [← hcc] at r2 rt
  refine q v d H2 pd (r.tr r2) ?_
  exact (Rt.res (e.on r) r2 rt).back e r
/-! ### a def's body -/
def argsG (ds : List PyData) (n : Nat) : List (Option Rs) := ds.map (fun d => some (.v d)) ++ List.replicate (n - ds.length) none
theorem reps_none {O : List Addr} : ∀ n : Nat, Reps c O H (List.replicate n none) (List.replicate n none) []
  | 0 => .nil
  | n + 1 => .cons (f := []) (fs := []) rfl (reps_none n)
theorem reps_args {O : List Addr} {rest : L2.St} {restG : List (Option Rs)} (hr : Reps c O H rest restG []) : ∀ {vs : List V} {ds : List PyData}, BoAll c (mns H O) vs ds → Reps c O H (vs.map some ++ rest) (ds.map (fun d => some (.v d)) ++ restG) []
  | _, _, .nil => hr
  | _, _, .cons a b => .cons (f := []) (fs := []) ⟨rfl, _, rfl, a⟩ (reps_args hr b)
theorem env_args {N : List Str} {vs : List V} (j : Ji c H) (h : BoAll c H vs ds) : Env c H [] H (start N vs) (argsG ds N.length) := by
  refine ⟨Rr.same (by rw [mns_nil]; exact Same.refl _), by rw [mns_nil]; exact j, (fun _ h => nomatch h), (fun _ h => nomatch h), [], ?_, List.nodup_nil, (fun _ h => nomatch h)⟩
  unfold L2.start argsG
  rw [h.len]
  exact reps_args (reps_none _) (by rw [mns_nil]; exact h)
theorem Ji.pc {K : PySem.W.Frag} {H : Hp} : Ji (pc K) H := fun _ _ e => nomatch e
/-- the body of a def without the stream -/
theorem run_pure {K : PySem.W.Frag} {N : List Str} {t : TS} {pre : Pre} {vs : List V} {Q : VK} {E : XK} (hs : ∀ ds k d, pre ds k d → Sd (pc K) t (argsG ds N.length) (fun o => o = .rt k d ∨ (k = .v ∧ d = .none ∧ ∃ Γ, o = .nx Γ)))
    (h : spD K pre vs H Q E) : t { nx := fun _ H' => Q .non H', rt := Q } (start N vs) H := by
  obtain ⟨ds, k, d, hb, hp, hq⟩ := h
  have sm : ∀ H', Rr (Lm.pc K) H H' → Same H H' := fun H' r a o z => r.1 a o (fun _ _ e => nomatch e) z
  refine hs ds k d hp H [] H (start N vs) _ (env_args Ji.pc hb) fun o po => ?_
  rcases po with rfl | ⟨rfl, rfl, Γ, rfl⟩
  · exact fun v H' r rt => hq v H' (sm H' r) rt
  · intro O H' σ e
    exact hq .non H' (sm H' (e.r0.tr (Rr.same mns_same))) ⟨rfl, .non⟩
theorem spD_len {K : PySem.W.Frag} {pre : Pre} {vs : List V} {Q : VK} {E : XK} {n : Nat} (h : spD K pre vs H Q E) (hl : ∀ ds k d, pre ds k d → ds.length = n) : vs.length = n := by
  obtain ⟨ds, k, d, hb, hp, _⟩ := h
  rw [hb.len, hl ds k d hp]
theorem spS_len {K : PySem.W.Frag} {pre : PreS} {vs : List V} {Q : VK} {E : XK} {n : Nat} (h : spS K pre vs H Q E) (hl : ∀ ds k P, pre ds k P → ds.length + 1 = n) : vs.length = n := by
  obtain ⟨st, l, vs', ds, k, P, rfl, _, hb, hp, _⟩ := h
  simp [hb.len, hl ds k P hp]
/-- what a caller knows of a def: where it stands, what it promises -/
structure Cal (P : Program) (w : World) (K : PySem.W.Frag) (mg : Str → Option Value) (base : Heap) (CX : CXT) (k : Nat) (x : Str) (ps : List Str) (sp : Sp) : Prop where
  ok : ∃ f fd, FnOk P w K mg base CX k f fd ps sp ∧ mg x = some (.ref f) ∧ PySem.W.keepIn K (.ref f) = true ∧ Binds K fd ps []
section
variable {X : Cx}
theorem pe_cal {CX : CXT} {E : XK} {k : Nat} {x : Str} {ps : List Str} {sp : Sp} {p pos : Pos} {e : Expr} {es : List Expr} {t : TA} (F : Cal X.prog X.w X.K X.mg X.base CX k x ps sp) (hr : Room k X.A) (hg : Gl X x) (hx : Passes CX X E) (ha : PA X (e :: es) t)
    (hdb : (x == ("__debug__" : Str)) = false := by decide) (he : starEach (e :: es) X.env = (false, eval e X.env) :: starEach es X.env := by rfl) (hpl : (backTo pos (starEach es X.env)).any (·.1) = false := by rfl) :
    PE X (.Call (.Name x p) (e :: es) [] pos) (tCall sp [] E t) := by
  obtain ⟨f, fd, F1, F2, F3, F4⟩ := F.ok
  exact pe_call F1 hr hg F2 F3 F4 .nil hx ha hdb he hpl
end
/-! ### methods of tuples -/
end Lm


namespace Lm
open PySem PySem.Spec PyProof.Rows L2
section
variable {X : Cx}
/-! ### rules that serve several kinds of values: the derivation need not know which -/
def rAddA (K : PySem.W.Frag) : R2 := fun x y H Q => rI0 (fun i j => .int (i + j)) x y H Q ∨ rCatN K x y H Q ∨ rCat x y H Q
theorem op_addA : OpR X (binaryOp .Add) (rAddA X.K) := op_add.or (op_catN.or op_cat)
def rMulA : R2 := fun x y H Q => rI CMul (fun i j => .int (i * j)) x y H Q ∨ rRep x y H Q
theorem op_mulA : OpR X (binaryOp .Mult) rMulA := op_mul.or op_rep
def rEqA (K : PySem.W.Frag) : R2 := fun x y H Q => rEq x y H Q ∨ rEqD K x y H Q
theorem op_eqA (hu : X.A.units + 64 < cLine) : OpR X (compareOp .Eq) (rEqA X.K) := op_eq.or (op_eqD hu)
def rNeA (K : PySem.W.Frag) : R2 := fun x y H Q => rNe x y H Q ∨ rNeD K x y H Q
theorem op_neA (hu : X.A.units + 64 < cLine) : OpR X (compareOp .NotEq) (rNeA X.K) := op_ne.or (op_neD hu)
def iSeq (K : PySem.W.Frag) (tl : TE) : TI := fun σ H R => iList K tl σ H R ∨ iTup K tl σ H R
theorem pi_seq {e tg : Expr} {tl : TE} (h : PE X e tl) : PI X tg e (iSeq X.K tl) := by
  refine ⟨fun pins s σ H R I q => ?_⟩
  rcases q with q | q
  · exact (pi_list h).run pins s σ H R I q
  · exact (pi_tup h).run pins s σ H R I q
def rUnits {k : Nat} {A : Around} (hr : Room k A) : A.units + 64 < cLine := by have := hr.un; omega
end
variable {c : Ct} {H H' H0 H1 H2 H3 : Hp} {O : List Addr} {σ : L2.St} {Γ Γ' Γ1 : List (Option Rs)}
variable {te ta tb tx tl : TE} {tt tu : TT} {tr : TA} {k ka kb kc : Kd} {d x y z : PyData} {i j : Int} {a b : Bool} {kv fz : Bool} {ds es : List PyData}
theorem e_add (ha : Ev c ta Γ ka (.int i)) (hb : Ev c tb Γ kb (.int j)) : Ev c (tOp (rAddA c.K) ta tb) Γ .v (.int (i + j)) :=
  d_bin ha hb fun H O v u Q bv bu q => .inl ⟨i, j, bv.int', bu.int', q _ H Rr.rf (.int _)⟩
theorem e_mul (ha : Ev c ta Γ ka (.int i)) (hb : Ev c tb Γ kb (.int j)) (h : CMul i j) : Ev c (tOp rMulA ta tb) Γ .v (.int (i * j)) :=
  d_bin ha hb fun H O v u Q bv bu q => .inl ⟨i, j, bv.int', bu.int', h, q _ H Rr.rf (.int _)⟩
theorem e_eqI (ha : Ev c ta Γ ka (.int i)) (hb : Ev c tb Γ kb (.int j)) : Ev c (tOp (rEqA c.K) ta tb) Γ .v (.bool (decide (i = j))) :=
  d_bin ha hb fun H O v u Q bv bu q => .inl ⟨by rw [bv.int', bu.int']; rfl, by rw [bv.int', bu.int', decI]; exact q _ H Rr.rf (.bl _)⟩
theorem e_neI (ha : Ev c ta Γ ka (.int i)) (hb : Ev c tb Γ kb (.int j)) : Ev c (tOp (rNeA c.K) ta tb) Γ .v (.bool (!decide (i = j))) :=
  d_bin ha hb fun H O v u Q bv bu q => .inl ⟨by rw [bv.int', bu.int']; rfl, by rw [bv.int', bu.int', decI]; exact q _ H Rr.rf (.bl _)⟩
theorem e_eqS {v w : V} (ha : Ev c ta Γ ka x) (hb : Ev c tb Γ kb y) (hx : scalD x = some v) (hy : scalD y = some w) (hs : scal v w = true) (hz : decide (v = w) = a) : Ev c (tOp (rEqA c.K) ta tb) Γ .v (.bool a) :=
  d_bin ha hb fun H O v' u' Q bv bu q => .inl ⟨by rw [bv.scal hx, bu.scal hy]; exact hs, by rw [bv.scal hx, bu.scal hy, hz]; exact q _ H Rr.rf (.bl _)⟩
theorem e_eqD (ha : Ev c ta Γ ka x) (hb : Ev c tb Γ kb y) (hx : SeqAt.shaped x = true) (hy : SeqAt.shaped y = true) : Ev c (tOp (rEqA c.K) ta tb) Γ .v (.bool (PyData.eqv x y)) :=
  d_bin ha hb fun H O v u Q bv bu q => .inr ⟨x, y, bv.dp, bu.dp, hx, hy, q _ H Rr.rf (.bl _)⟩
theorem e_neD (ha : Ev c ta Γ ka x) (hb : Ev c tb Γ kb y) (hx : SeqAt.shaped x = true) (hy : SeqAt.shaped y = true) : Ev c (tOp (rNeA c.K) ta tb) Γ .v (.bool (!PyData.eqv x y)) :=
  d_bin ha hb fun H O v u Q bv bu q => .inr ⟨x, y, bv.dp, bu.dp, hx, hy, q _ H Rr.rf (.bl _)⟩
theorem e_ixT (ha : Ev c ta Γ ka (.tuple ds)) (hb : Ev c tb Γ kb (.int i)) (he : atI ds i = some d) (hf : flatD d = true) : Ev c (tOp (rIx c.K) ta tb) Γ .v d := fun H0 O H σ e Q q =>
  ha H0 O H σ e _ fun v H1 r1 s1 => hb H0 O H1 σ (e.on r1) _ fun u H2 r2 s2 => by
    obtain ⟨p, xs, rfl, s, al⟩ := (Res.bo e (Res.on e r1 r2 s1)).tup'
    obtain ⟨x, hx, bx⟩ := atI_bo al he
    exact .inr (.inl ⟨p, xs, i, x, rfl, (Res.bo (e.on r1) s2).int', s.sq, hx, q x H2 (r1.tr r2) (Bo.flatM e (r1.tr r2) hf bx)⟩)
theorem e_ixL (ha : Ev c ta Γ ka (.list ds)) (hb : Ev c tb Γ kb (.int i)) (he : atI ds i = some d) (hf : flatD d = true) : Ev c (tOp (rIx c.K) ta tb) Γ .v d := fun H0 O H σ e Q q =>
  ha H0 O H σ e _ fun v H1 r1 s1 => hb H0 O H1 σ (e.on r1) _ fun u H2 r2 s2 => by
    obtain ⟨p, xs, rfl, _, s, al⟩ := (Res.bo e (Res.on e r1 r2 s1)).lst'
    obtain ⟨x, hx, bx⟩ := atI_bo al he
    exact .inl ⟨p, xs, i, x, rfl, (Res.bo (e.on r1) s2).int', s, hx, q x H2 (r1.tr r2) (Bo.flatM e (r1.tr r2) hf bx)⟩
/-- an item of a frozen tuple, whatever it is -/
theorem e_ixTv (ha : Ev c ta Γ .v (.tuple ds)) (hb : Ev c tb Γ kb (.int i)) (he : atI ds i = some d) : Ev c (tOp (rIx c.K) ta tb) Γ .v d := fun H0 O H σ e Q q =>
  ha H0 O H σ e _ fun v H1 r1 s1 => hb H0 O H1 σ (e.on r1) _ fun u H2 r2 s2 => by
    obtain ⟨p, xs, rfl, s, al⟩ := Bo.tup' (Res.on e r1 r2 s1)
    obtain ⟨x, hx, bx⟩ := atI_bo al he
    exact .inr (.inl ⟨p, xs, i, x, rfl, (Res.bo (e.on r1) s2).int', (sqT_same mns_same s).sq, hx, q x H2 (r1.tr r2) bx⟩)
theorem e_ixLv (ha : Ev c ta Γ .v (.list ds)) (hb : Ev c tb Γ kb (.int i)) (he : atI ds i = some d) : Ev c (tOp (rIx c.K) ta tb) Γ .v d := fun H0 O H σ e Q q =>
  ha H0 O H σ e _ fun v H1 r1 s1 => hb H0 O H1 σ (e.on r1) _ fun u H2 r2 s2 => by
    obtain ⟨p, xs, rfl, _, s, al⟩ := Bo.lst' (Res.on e r1 r2 s1)
    obtain ⟨x, hx, bx⟩ := atI_bo al he
    exact .inl ⟨p, xs, i, x, rfl, (Res.bo (e.on r1) s2).int', mns_same.seq s, hx, q x H2 (r1.tr r2) bx⟩
theorem e_ixLb (ha : Ev c ta Γ ka (.list ds)) (hb : Ev c tb Γ kb (.int i)) (he : atI ds i = some d) : Ev c (tOp (rIx c.K) ta tb) Γ .b d := fun H0 O H σ e Q q =>
  ha H0 O H σ e _ fun v H1 r1 s1 => hb H0 O H1 σ (e.on r1) _ fun u H2 r2 s2 => by
    obtain ⟨p, xs, rfl, _, s, al⟩ := (Res.bo e (Res.on e r1 r2 s1)).lst'
    obtain ⟨x, hx, bx⟩ := atI_bo al he
    exact .inl ⟨p, xs, i, x, rfl, (Res.bo (e.on r1) s2).int', s, hx, q x H2 (r1.tr r2) bx⟩
/-- a < b < c of ints -/
theorem d_chain {f g : Int → Int → Bool} {l : Int} (ha : Ev c ta Γ ka (.int i)) (hb : Ev c tb Γ kb (.int j)) (hc : f i j = true → Ev c tx Γ kc (.int l)) :
    Ev c (tChain (rI0 fun i j => .bl (f i j)) (rI0 fun i j => .bl (g i j)) ta tb tx) Γ .v (.bool (f i j && g j l)) := fun H0 O H σ e Q q =>
  ha H0 O H σ e _ fun v H1 r1 s1 => hb H0 O H1 σ (e.on r1) _ fun u H2 r2 s2 => by
    refine ⟨i, j, (Res.bo e s1).int', (Res.bo (e.on r1) s2).int', f i j, rfl, ?_⟩
    cases hf : f i j with
    | true =>
      refine iteT (hc hf H0 O H2 σ ((e.on r1).on r2) _ fun w H3 r3 s3 => ?_)
      exact ⟨j, l, (Res.bo (e.on r1) s2).int', (Res.bo ((e.on r1).on r2) s3).int', by
        have := q (.bl (g j l)) H3 ((r1.tr r2).tr r3)
        rw [hf, Bool.true_and] at this
        exact this (.bl _)⟩
    | false =>
      refine iteF ?_
      have := q (.bl false) H2 (r1.tr r2)
      rw [hf, Bool.false_and] at this
      exact this (.bl _)
/-! ### isinstance -/
def tyD : PyData → String
  | .none => "NoneType"
  | .bool _ => "bool"
  | .int _ => "int"
  | .str _ => "str"
  | .list _ => "list"
  | .tuple _ => "tuple"
  | .dict _ => "dict"
theorem Bo.ty {v : V} (h : Bo c H v d) : TyX c.K H v (.type (tyD d)) := by
  cases h with
  | non => exact .base .non
  | bl b => exact .base (.bl b)
  | int i => exact .base (.int i)
  | str x => exact .base (.str x)
  | lst _ s a =>
    rcases s with (s | ⟨o, s⟩) | ⟨o, its, n, h1, h2, _⟩
    · exact .base (.lst s)
    · exact .base (.frz s)
    · exact .kList h1 h2
  | tup s a =>
    rcases s with ⟨o, _, s⟩ | ⟨o, its, n, h1, h2, _⟩
    · exact .fTuple s
    · exact .kTuple h1 h2
theorem e_isi {n : String} (h : Ev c te Γ k d) (e : kitB (tyD d) n = some b) : Ev c (tCB (rIsi c.K) (tCons te (tCons (tC (.ty n)) tNil))) Γ .v (.bool b) := fun H0 O H σ en Q q =>
  h H0 O H σ en _ fun v H1 r1 s1 => ⟨v, .ty n, _, _, b, rfl, .ty n, (Res.bo en s1).ty, kit_ty e, q _ H1 r1 (.bl b)⟩
/-! ### what is walked -/
theorem i_seqL (h : Ev c tl Γ k (.list ds)) (hk : k ≠ .b) : EvI c (iSeq c.K tl) Γ true (ds.map Im.d) := fun H0 O H σ e R q => .inl (i_list h hk H0 O H σ e R q)
theorem i_seqB (h : Ev c tl Γ k (.list ds)) (hf : flatAll ds = true) : EvI c (iSeq c.K tl) Γ false (ds.map Im.d) := fun H0 O H σ e R q => .inl (i_listB h hf H0 O H σ e R q)
theorem i_seqT (h : Ev c tl Γ k (.tuple ds)) (hk : k ≠ .b) : EvI c (iSeq c.K tl) Γ true (ds.map Im.d) := fun H0 O H σ e R q => .inr (i_tup h hk H0 O H σ e R q)
end Lm


namespace Lm
open PySem PySem.Spec PyProof.Rows L2
section
variable {prog : Program} {w : World} {A : Around} {E : Value → Shared → Prop} {s : Shared}
/-- iter(t), what it takes to walk t -/
theorem iterTup {a : Addr} {its : Array Value} {Q : Value → Shared → Prop} (ht : s.heap.IsTuple a its)
    (h : ∀ s2 : Shared, s2 = { s with heap := s.heap.push { cls := .type "tuple_iterator", data := .fields #[.ref a, .int 0 0] } } → s2.heap.IsTupleIter s.heap.objs.size a 0 ∧ s2.heap.IsTuple a its → (∀ b ∈ [s.heap.objs.size, a], b < s2.heap.objs.size) → a ≠ s.heap.objs.size →
      (∀ b o, s.heap.get? b = some o → b ∉ [s.heap.objs.size] ∧ s2.heap.get? b = some o) → Q (.ref s.heap.objs.size) s2) : wpAny (model prog w) A (pyIter (.ref a)) Q E s := by
  have hlt : a < s.heap.objs.size := let ⟨_, g, _⟩ := ht; Heap.lt_size g
  refine wpAny_pyIter_tuple ht (h _ rfl ⟨⟨_, Heap.get?_push_size _ rfl, rfl, rfl⟩, ht.at fun o q => Heap.get?_push_of_some _ q⟩ (fun b hb => ?_) (Nat.ne_of_lt hlt) fun b o q => ⟨by simpa using Nat.ne_of_lt (Heap.lt_size q), Heap.get?_push_of_some _ q⟩)
  show b < (s.heap.push _).objs.size
  rw [Heap.size_push]
  rcases List.mem_cons.mp hb with rfl | hb
  · exact Nat.lt_succ_self _
  · cases List.mem_singleton.mp hb
    exact Nat.lt_succ_of_lt hlt
theorem preSum_take (ns : List Int) : ∀ j, j ≤ ns.length → preSum (fun i => ns.getD i 0) j = (ns.take j).sum
  | 0, _ => rfl
  | j + 1, h => by
    have e : ns[j]? = some ns[j] := List.getElem?_eq_getElem h
    rw [preSum, preSum_take ns j (Nat.le_of_succ_le h), sum_take e, List.getD_eq_getElem?_getD, e]
    rfl
theorem callSumT {a : Addr} {its : Array Value} {ns : List Int} {Q : Value → Shared → Prop} (hh : A.handled = none) (ht : s.heap.IsTuple a its) (hi : IntsAre its.toList ns)
    (h : ∀ h' tk t', (∀ b o, s.heap.get? b = some o → h'.get? b = some o) → Q (.int ns.sum t') { s with heap := h', toks := tk }) : wpAny (model prog w) A (call (.builtin "sum") [.ref a]) Q E s := by
  have hsz : its.size = ns.length := by rw [← Array.length_toList]; exact hi.length
  refine call_sum_walkG (iterTup ht fun s2 e st hfp hne old => ?_)
  refine ⟨_, _, _, ns.length, _, _, fun i => ns.getD i 0, rfl, hsz ▸ Walks.tuple (A := A.in1) hh _ a hne its, st, hfp, fun i v q => ?_, fun h' tk t' hk => ?_⟩
  · have h1 : its.toList[i]? = some v := by simpa using q
    have hlt : i < ns.length := by rw [← hi.length]; exact (List.getElem?_eq_some_iff.mp h1).1
    obtain ⟨t, h2⟩ := hi.get i ns[i] (List.getElem?_eq_getElem hlt)
    rw [h1] at h2
    refine ⟨t, ?_⟩
    show v = Value.int (ns.getD i 0) t
    rw [List.getD_eq_getElem?_getD, List.getElem?_eq_getElem hlt]
    exact Option.some.inj h2
  · rw [preSum_take ns _ (Nat.le_refl _), List.take_length]
    subst e
    exact h h' tk t' fun b o q => hk b o (old b o q).1 (old b o q).2
end
def rSumT (K : PySem.W.Frag) : List V → Hp → VK → Prop := fun vs H Q => ∃ (a : Addr) (ns : List Int), vs = [V.ref a] ∧ SqT K H a (ns.map V.int) ∧ Q (.int ns.sum) H
def rSumA (K : PySem.W.Frag) : List V → Hp → VK → Prop := fun vs H Q => rSum K vs H Q ∨ rSumT K vs H Q
section
variable {X : Cx}
theorem cr_sumT (hc : X.calm = true) : CallR X (.builtin "sum") (rSumT X.K) := by
  rintro pins s σ H vs us Q I r ⟨a, ns, rfl, hs, q⟩
  obtain ⟨its, rv, p, _⟩ := I.tuple hs
  rw [Vals.ref1 r]
  exact callSumT (I.ok.hd hc) (show s.heap.IsTuple a its.toArray from p) rv.ints fun h' tk t' hk => ⟨.int _, H, I.kept hk, ⟨_, rfl⟩, q⟩
theorem cr_sumA (hc : X.calm = true) : CallR X (.builtin "sum") (rSumA X.K) := (cr_sum hc).or (cr_sumT hc)
theorem cr_len : CallR X (.builtin "len") (rLen X.K) := call_len_seq
/-- a module's int -/
theorem pe_const {x : Str} {n : Int} {pos : Pos} (hg : Gl X x) (hm : ∃ t, X.mg x = some (.int n t)) (hd : (x == ("__debug__" : Str)) = false := by decide) : PE X (.Name x pos) (tC (.int n)) := by
  obtain ⟨t, h⟩ := hm
  exact pe_glob hg h ⟨t, rfl⟩ hd
/-- a built-in class as a value -/
theorem pe_ty {x : Str} {n : String} {pos : Pos} (hg : Gl X x) (hm : X.mg x = none) (hv : bootBuiltins x = some (.type n)) (hn : x ≠ "__name__" := by decide) (hd : (x == ("__debug__" : Str)) = false := by decide) : PE X (.Name x pos) (tC (.ty n)) :=
  pe_bltn hg hm hv rfl hn hd
/-- list(x) -/
def rListA (K : PySem.W.Frag) : List V → Hp → VK → Prop := fun xs H Q => ∃ p ys, xs = [.ref p] ∧ (SqL K H p ys ∨ SqT K H p ys) ∧ ∀ l, H l = none → Q (.ref l) (upd H l (.lst ys))
theorem cr_list : CallR X (.type "list") (rListA X.K) := call_list_of
end
variable {c : Ct} {H H' H0 H1 H2 H3 : Hp} {O : List Addr} {σ : L2.St} {Γ Γ' Γ1 : List (Option Rs)}
variable {te ta tb tx tl : TE} {tt tu : TT} {tr : TA} {k ka kb kc : Kd} {d x y z : PyData} {i j : Int} {a b : Bool} {kv fz : Bool} {ds es : List PyData}
theorem e_sumT {ns : List Int} (h : Ev c te Γ k (.tuple (ns.map .int))) : Ev c (tCB (rSumA c.K) (tCons te tNil)) Γ .v (.int ns.sum) :=
  d_cb (a_cons h a_nil) fun H O vs Q s q => by
    obtain ⟨x, rfl, b⟩ := s.one
    obtain ⟨p, xs, rfl, s, al⟩ := b.tup'
    have := al.ints
    subst this
    exact .inr ⟨p, ns, rfl, s.sq, q _ H Rr.rf (.int _)⟩
end Lm
namespace Lm
open PySem PySem.Spec PyProof.Rows L2
variable {c : Ct} {Γ : List (Option Rs)} {te : TE} {tt : TT} {fz : Bool} {α : Type} {wi : TI} {g : TG} {vs : List Nat} {l : List α} {en : α → Im}
theorem d_lcB (m : α → Bool) (hi : EvI c wi Γ fz (l.map en)) (hl : l.length ≤ 1000000)
    (hb : ∀ a ∈ l, ∃ Γ' js, EvG c g (en a) (wipeG Γ vs) Γ' js ∧ (∀ j ∈ js, j ∈ vs) ∧ ∃ k, Ev c te Γ' k (.bool (m a))) : Ev c (tLc wi g tYes te vs) Γ .o (.list ((l.map m).map .bool)) := by
  have := d_lcA (te := te) (g := g) (vs := vs) (fun a => PyData.bool (m a)) hi hl fun a ha => by
    obtain ⟨Γ', js, h1, h2, k, h3⟩ := hb a ha
    exact ⟨Γ', js, h1, h2, h3.fo rfl⟩
  rw [List.map_map]
  exact this
end Lm
namespace Lm
open PySem
theorem flatT (ns : List Int) : flatD (.tuple (ns.map .int)) = true := flatAll_ints ns
end Lm
namespace Lm
open PySem PySem.Spec PyProof.Rows L2
end Lm
namespace Lm
open PySem PySem.Spec PyProof.Rows L2
theorem kv_ne : Kd.v ≠ Kd.b := fun h => nomatch h
theorem ko_ne : Kd.o ≠ Kd.b := fun h => nomatch h
end Lm


/-! the rules, the written part given by name (within a comprehension's block it may not be read off the context) -/
namespace Lm
open PySem PySem.Spec PyProof.Rows L2
section
variable {X : Cx} {K : PySem.W.Frag} (hK : X.K = K)
include hK
theorem k_add : OpR X (binaryOp .Add) (rAddA K) := hK ▸ op_addA
theorem k_eq (hu : X.A.units + 64 < cLine) : OpR X (compareOp .Eq) (rEqA K) := hK ▸ op_eqA hu
theorem k_ne (hu : X.A.units + 64 < cLine) : OpR X (compareOp .NotEq) (rNeA K) := hK ▸ op_neA hu
theorem k_ix : IxR X (rIx K) := hK ▸ ix_seq
theorem k_isi : CallR X (.builtin "isinstance") (rIsi K) := hK ▸ call_isi
theorem k_len : CallR X (.builtin "len") (rLen K) := hK ▸ cr_len
theorem k_all (hc : X.calm = true) : CallR X (.builtin "all") (rAll K) := hK ▸ cr_all hc
theorem k_sum (hc : X.calm = true) : CallR X (.builtin "sum") (rSumA K) := hK ▸ cr_sumA hc
theorem k_tuple : CallR X (.type "tuple") (rTuple K) := hK ▸ cr_tuple
theorem k_list : CallR X (.type "list") (rListA K) := hK ▸ cr_list
theorem k_seq {e tg : Expr} {tl : TE} (h : PE X e tl) : PI X tg e (iSeq K tl) := hK ▸ pi_seq h
theorem k_tup {es : List Expr} {k : Nat} {t : TGs} {n : Nat} {pos : Pos} (hc : X.calm = true) (h : PGs X es t)
    (hn : (assignEach es X.env).length = n := by rfl) (hst : (assignEach es X.env).findIdx? (·.1) = none := by rfl) : PG X (.Tuple es k pos) (gTup K n t) := hK ▸ pg_tup hc h hn hst
theorem k_bm {T : String} {name : Str} {id : String} {r : V → List V → Hp → VK → Prop} {o e : Expr} {es : List Expr} {to : TE} {t : TA} {apos cpos : Pos} (pa : PlainAttrs T) (slot : Slot T name id) (hty : typeOf (.builtin id) = pure (.type "method_descriptor")) (hm : MtR X id r) (ho : PE X o to) (ha : PA X (e :: es) t)
    (hbase : attributeBase o name X.env (eval o X.env) = eval o X.env := by rfl)
    (hfew : ((backTo cpos (starEach (e :: es) X.env)).all (fun x => !x.1) && (backToKw cpos (keywordEach [] X.env)).all (fun x => x.1.isSome) && decide ((e :: es).length + ([] : List Keyword).length + (if ([] : List Keyword).isEmpty then 0 else 1) < 30)) = true := by rfl)
    (hline : (apos.endLine == cpos.line) = true := by rfl) (hs : starEach (e :: es) X.env = (false, eval e X.env) :: starEach es X.env := by rfl) (hplain : (backTo cpos (starEach es X.env)).any (·.1) = false := by rfl) :
    PE X (.Call (.Attribute o name apos) (e :: es) [] cpos) (tBM K T r to t) := hK ▸ pe_bm pa slot hty hm ho ha hbase hfew hline hs hplain
end
end Lm


/-! the law's own start and end -/
namespace Lm
open PySem PySem.Spec PyProof.Rows L2
variable {c : Ct} {H H' H0 H1 H2 H3 : Hp} {O : List Addr} {σ : L2.St} {Γ Γ' Γ1 : List (Option Rs)}
variable {te ta tb tx tl : TE} {tt tu : TT} {tr : TA} {k ka kb kc : Kd} {d x y z : PyData} {i j : Int} {a b : Bool} {kv fz : Bool} {ds es : List PyData}
/-- law's: a list of at most 63 ints is handed in, True comes out -/
def spLaw (K : PySem.W.Frag) : Sp := fun vs H Q _ => ∃ (a : Addr) (ns : List Int), vs = [.ref a] ∧ SqL K H a (ns.map V.int) ∧ ns.length ≤ 63 ∧ ∀ H', Q (.bl true) H'
def spStream (K : PySem.W.Frag) : Sp := fun vs H Q _ => ∃ (a : Addr) (ns : List Int), vs = [.ref a] ∧ SqL K H a (ns.map V.int) ∧ ns.length ≤ 63 ∧ ∀ st l H', Same H H' → H st = none → Str1 K st l H' → Q (.ref st) H'
theorem run_law {K : PySem.W.Frag} {N : List Str} {t : TS} {vs : List V} {Q : VK} {E E' : XK} (hN : 2 ≤ N.length)
    (hs : ∀ st l, Sd (sc K st l) t (none :: some (.r (.ref st)) :: List.replicate (N.length - 2) none) (fun o => o = .rt .v (.bool true))) (h : spLaw K vs H Q E) :
    tSeq (tAsg (tCall (spStream K) [] E' (tCons (tVar 0) tNil)) (gName 1)) t { nx := fun _ H' => Q .non H', rt := Q } (start N vs) H := by
  obtain ⟨a, ns, rfl, hS, hl, hq⟩ := h
  have es : start N [.ref a] = some (.ref a) :: List.replicate (N.length - 1) none := rfl
  rw [es]
  refine ⟨.ref a, rfl, a, ns, rfl, hS, hl, fun st l H1 sm hst str => ?_⟩
  have j : Ji (sc K st l) H1 := fun st' l' e => by cases e; exact str
  refine hs st l H1 [] H1 _ _ ⟨Rr.same (by rw [mns_nil]; exact Same.refl _), by rw [mns_nil]; exact j, (fun _ h => nomatch h), (fun _ h => nomatch h), [], ?_, List.nodup_nil, (fun _ h => nomatch h)⟩ fun o po => ?_
  · have e2 : List.replicate (N.length - 1) (none : Option V) = none :: List.replicate (N.length - 2) none := by
      have : N.length - 1 = (N.length - 2) + 1 := by omega
      rw [this, List.replicate_succ]
    rw [e2]
    exact .cons (f := []) (fs := []) rfl (.cons (f := []) (fs := []) ⟨rfl, rfl⟩ (reps_none _))
  · subst po
    intro v H' _ rt
    have := rt.2.bl'
    subst this
    exact hq H'
/-! one of several answers -/
theorem n_bin {r : R2} {Pa Pb P : PyData → Prop} (ha : EvN c ta Γ ka Pa) (hb : EvN c tb Γ kb Pb)
    (hr : ∀ x y, Pa x → Pb y → ∃ z, P z ∧ ∀ H O v u (Q : VK), Bo c H v x → Bo c H u y → (∀ v' H2, Rr c H H2 → Bo c (mns H2 O) v' z → Q v' H2) → r v u H Q) : EvN c (tOp r ta tb) Γ .v P := fun H0 O H σ e Q q =>
  ha H0 O H σ e _ fun v x H1 px r1 s1 => hb H0 O H1 σ (e.on r1) _ fun u y H2 py r2 s2 => by
    obtain ⟨z, pz, hz⟩ := hr x y px py
    exact hz H2 O v u Q (Res.bo e (Res.on e r1 r2 s1)) (Res.bo (e.on r1) s2) fun v' H3 r3 b => q v' z H3 pz ((r1.tr r2).tr r3) b
/-- some int with Q -/
abbrev SomeI (Q : Int → Prop) : PyData → Prop := fun d => ∃ n : Int, d = .int n ∧ Q n
theorem n_add {Qa Qb Q : Int → Prop} (ha : EvN c ta Γ ka (SomeI Qa)) (hb : EvN c tb Γ kb (SomeI Qb)) (h : ∀ m n, Qa m → Qb n → Q (m + n)) : EvN c (tOp (rAddA c.K) ta tb) Γ .v (SomeI Q) :=
  n_bin ha hb fun x y ⟨m, hm, qm⟩ ⟨n, hn, qn⟩ => ⟨.int (m + n), ⟨_, rfl, h m n qm qn⟩, fun H O v u Q bv bu q => by
    subst hm; subst hn
    exact .inl ⟨m, n, bv.int', bu.int', q _ H Rr.rf (.int _)⟩⟩
theorem Ev.sm {Q : Int → Prop} (h : Ev c te Γ k (.int i)) (q : Q i) : EvN c te Γ k (SomeI Q) := h.n.imp fun d e => ⟨i, e, q⟩
end Lm


/-! what the defs promise -/
namespace Lm
open PySem PySem.Spec PyProof.Rows L2
/-- is an int from lo to hi -/
def isIntD : PyData → Int → Int → Bool
  | .int i, lo, hi => decide (lo ≤ i) && decide (i ≤ hi)
  | _, _, _ => false
def isIntTy : PyData → Bool
  | .int _ => true
  | .bool _ => true
  | _ => false
def isBoolTy : PyData → Bool
  | .bool _ => true
  | _ => false
theorem kit_int (x : PyData) : kitB (tyD x) "int" = some (isIntTy x) := by cases x <;> (simp only [tyD, isIntTy, isBoolTy]; decide +kernel)
theorem kit_bool (x : PyData) : kitB (tyD x) "bool" = some (isBoolTy x) := by cases x <;> (simp only [tyD, isIntTy, isBoolTy]; decide +kernel)
def sp_is_integer (K : PySem.W.Frag) : Sp := spD K fun ds k d => ∃ x lo hi, ds = [x, .int lo, .int hi] ∧ k = .v ∧ d = .bool (isIntD x lo hi)


def sp_require (K : PySem.W.Frag) : Sp := spD K fun ds k d => ∃ nm, ds = [.bool true, .str nm] ∧ k = .v ∧ d = .none
/-- a tuple of ints from lo to hi -/
def areInts : PyData → Int → Int → Bool
  | .tuple ds, lo, hi => ds.all fun d => isIntD d lo hi
  | _, _, _ => false
def isTupTy : PyData → Bool
  | .tuple _ => true
  | _ => false
theorem kit_tuple (x : PyData) : kitB (tyD x) "tuple" = some (isTupTy x) := by cases x <;> (simp only [tyD, isTupTy]; decide +kernel)
/-- tuples are not too long -/
def SmallT (x : PyData) : Prop := ∀ es, x = .tuple es → es.length ≤ 1000000
def lenT : PyData → Nat
  | .tuple ds => ds.length
  | _ => 0
def intD : PyData → Int
  | .int i => i
  | _ => 0
/-- how often each variant occurs -/
def countsI (ns : List Int) (v : Int) : List Int := (upI 0 v.toNat).map fun i => (ns.count i : Int)
/-- an assignment of at most 20 buckets to v variants -/
structure Asg (ns : List Int) (v : Int) : Prop where
  len : ns.length ≤ 20
  rng : ∀ n ∈ ns, 0 ≤ n ∧ n < v
def sp__law_next (K : PySem.W.Frag) : Sp := spS K fun ds k P => ∃ m : Int, ds = [.int m] ∧ 0 < m ∧ m < 1073741824 ∧ k = .v ∧ P = fun d => ∃ n : Int, d = .int n ∧ 0 ≤ n ∧ n < m
theorem Str1.put {K : PySem.W.Frag} {st l : Addr} {H : Hp} {ns : List Int} {x k : Int} (h2 : H l = some (.lst (ns.map V.int))) (h3 : l ≠ st) (h4 : 0 ≤ k) : Str1 K st l (upd H st (.lst [.ref l, .int x, .int k])) :=
  ⟨ns, x, k, upd_same, by rw [upd_ne h3]; exact h2, h3, h4⟩


/-! the law's helpers -/

def sp__law_stream := spStream
def isIntNB : PyData → Bool
  | .int _ => true
  | _ => false
def sp__law_is_integer (K : PySem.W.Frag) : Sp := spD K fun ds k d => ∃ x, ds = [x] ∧ k = .v ∧ d = .bool (isIntNB x)
/-- data that _law_equal may look at, to some depth -/
inductive EqOk : Nat → PyData → Prop
  | non {n} : EqOk n .none
  | bl {n} (b : Bool) : EqOk n (.bool b)
  | int {n} (i : Int) : EqOk n (.int i)
  | str {n} (s : Str) : EqOk n (.str s)
  | lst {n} {xs : List PyData} : xs.length ≤ 1000000 → (∀ x ∈ xs, EqOk n x) → EqOk (n + 1) (.list xs)
  | tup {n} {xs : List PyData} : xs.length ≤ 1000000 → (∀ x ∈ xs, EqOk n x) → EqOk (n + 1) (.tuple xs)
def spEq (K : PySem.W.Frag) : Nat → Sp
  | 0 => fun _ _ _ _ => False
  | n + 1 => spD K fun ds k d => ∃ x, ds = [x, x] ∧ EqOk n x ∧ k = .v ∧ d = .bool true
def sp__law_equal (K : PySem.W.Frag) : Sp := spEq K 8
theorem EqOk.up {n : Nat} {x : PyData} (h : EqOk n x) : ∀ {m : Nat}, n ≤ m → EqOk m x := by
  induction h with
  | non => intro m _; exact .non
  | bl b => intro m _; exact .bl b
  | int i => intro m _; exact .int i
  | str s => intro m _; exact .str s
  | lst hl _ ih =>
    intro m hm
    cases m with
    | zero => omega
    | succ m => exact .lst hl fun x hx => ih x hx (by omega)
  | tup hl _ ih =>
    intro m hm
    cases m with
    | zero => omega
    | succ m => exact .tup hl fun x hx => ih x hx (by omega)


theorem upI0 (v : Nat) : upI 0 v = (List.range v).map fun (i : Nat) => (i : Int) := by
  unfold upI
  apply List.map_congr_left
  intro i _
  omega
theorem upI_count {v : Nat} {n : Int} (h0 : 0 ≤ n) (h1 : n < v) : (upI 0 v).count n = 1 := by
  obtain ⟨m, rfl⟩ := Int.eq_ofNat_of_zero_le h0
  have hm : m < v := by omega
  rw [upI0, List.count_eq_countP, List.countP_map]
  have e : ((fun x : Int => x == (m : Int)) ∘ fun (i : Nat) => (i : Int)) = fun i : Nat => i == m := by
    funext i
    show ((i : Int) == (m : Int)) = (i == m)
    rw [Bool.eq_iff_iff]
    simp
    omega
  rw [e]
  have : List.countP (fun i => i == m) (List.range v) = (List.range v).count m := rfl
  rw [this, List.nodup_range.count]
  simp [hm]
theorem count_sum (v : Nat) : ∀ ns : List Int, (∀ n ∈ ns, 0 ≤ n ∧ n < (v : Int)) → ((upI 0 v).map fun i => (ns.count i : Int)).sum = ns.length := by
  intro ns
  induction ns with
  | nil =>
    intro _
    generalize upI 0 v = l
    induction l with
    | nil => rfl
    | cons a l ih =>
      rw [List.map_cons, List.sum_cons, ih]
      rfl
  | cons n ns ih =>
    intro hv
    have ih' := ih fun m hm => hv m (by simp [hm])
    have hn := hv n (by simp)
    have key : ∀ l : List Int, (l.map fun i => ((n :: ns).count i : Int)).sum = (l.map fun i => (ns.count i : Int)).sum + l.count n := by
      intro l
      induction l with
      | nil => rfl
      | cons a l ihl =>
        rw [List.map_cons, List.sum_cons, List.map_cons, List.sum_cons, ihl, List.count_cons, List.count_cons]
        by_cases h : n = a
        · subst h
          rw [beq_self_eq_true, if_pos rfl]
          omega
        · rw [beq_eq_false_iff_ne.mpr h, beq_eq_false_iff_ne.mpr (fun e => h e.symm)]
          simp
          omega
    rw [key, ih', upI_count hn.1 hn.2]
    simp
def isListTy : PyData → Bool
  | .list _ => true
  | _ => false
def isStrTy : PyData → Bool
  | .str _ => true
  | _ => false
theorem kit_list (x : PyData) : kitB (tyD x) "list" = some (isListTy x) := by cases x <;> (simp only [tyD, isListTy]; decide +kernel)
theorem kit_str (x : PyData) : kitB (tyD x) "str" = some (isStrTy x) := by cases x <;> (simp only [tyD, isStrTy]; decide +kernel)
theorem atI_i {ds : List PyData} {i : Nat} {d : PyData} (h : ds[i]? = some d) : atI ds ((0 : Int) + (i : Int)) = some d := by rw [Int.zero_add]; exact atI_nat h

end Lm


/-! more rules: a list unpacked, tuple.index of an int, the number of a tuple's different ints, list.pop(i) -/
namespace Lm
open PySem PySem.Spec PyProof.Rows L2
section
variable {prog : Program} {w : World} {A : Around} {E : Value → Shared → Prop} {s : Shared}
theorem drawL {it t : Addr} {items : Array Value} (hne : t ≠ it) : ∀ (n i : Nat) (s : Shared) (Q : List Value → Shared → Prop), s.heap.IsListIter it t i → s.heap.IsList t items → i + n ≤ items.size →
    (∀ h', h'.IsListIter it t (i + n) → Heap.SameBut it s.heap h' → Q ((items.toList.drop i).take n) { s with heap := h' }) → wpAny (model prog w) A (draw (.ref it) n) Q E s
  | 0, i, s, Q, hit, _, _, hQ => by
    show wpAny _ _ (pure []) Q E s
    exact wpAny_pure (by simpa using hQ s.heap hit (Heap.SameBut.refl ..))
  | n + 1, i, s, Q, hit, ht, hle, hQ => by
    have hlt : i < items.size := by omega
    show wpAny _ _ (pyNext (.ref it) >>= _) Q E s
    refine wpAny_bind (wpAny_pyNext_list_item hit ht (x := items[i]) (by simp [hlt]) fun h₁ hit₁ hs₁ => ?_)
    refine wpAny_bind (wpAny_holding (drawL hne n (i + 1) _ _ hit₁ (ht.extBut hs₁.extBut hne) (by omega) fun h₂ hit₂ hs₂ => wpAny_pure ?_))
    have e1 : items.toList.drop i = items[i] :: items.toList.drop (i + 1) := by simp [List.drop_eq_getElem_cons, hlt]
    have e2 := hQ h₂ (by rw [show i + (n + 1) = i + 1 + n by omega]; exact hit₂) (hs₁.trans hs₂)
    rw [e1, List.take_succ_cons] at e2
    exact e2
theorem unpackL {t : Addr} {items : Array Value} {Q : List Value → Shared → Prop} (hh : A.handled = none) (ht : s.heap.IsList t items)
    (hQ : ∀ h', Heap.ExtBut s.heap.objs.size s.heap h' → Q items.toList { s with heap := h' }) : wpAny (model prog w) A (unpackItems (.ref t) items.size none) Q E s := by
  have hlt : t ≠ s.heap.objs.size := by obtain ⟨o, ho, _⟩ := ht; exact Nat.ne_of_lt (Heap.lt_size ho)
  unfold unpackItems
  refine wpAny_bind ?_
  · unfold notIterableAtAll
    refine wpAny_bind (wpAny_specialOf ht.typeIs F.slot_list_iter.lookup ?_)
    refine wpAny_pure ?_
    simp only [Bool.false_eq_true, if_false]
    refine wpAny_bind (wpAny_holding (wpAny_pyIter_list ht ?_))
    refine wpAny_bind (wpAny_holding (drawL hlt items.size 0 _ _ ⟨_, Heap.get?_push_size _ rfl, rfl, rfl⟩ (ht.push _) (by omega) fun h₁ hit₁ hs₁ => ?_))
    have e1 : List.take items.size (List.drop 0 items.toList) = items.toList := by
      rw [List.drop_zero]; exact List.take_of_length_le (by simp)
    rw [e1, if_neg (by simp)]
    have ht₁ : h₁.IsList t items := (ht.push _).extBut hs₁.extBut hlt
    refine wpAny_bind (wpAny_holding (wpAny_pyNext_list_end hh hit₁ ht₁ (by simp) fun h₂ he₂ => ?_))
    simp only [Option.isSome_none, Bool.false_eq_true, if_false]
    exact wpAny_pure (hQ h₂ fun b o hb e => he₂ b o hb (hs₁.extBut b o hb (Heap.get?_push_of_some _ e)))
theorem assignTupL {env : PySem.Env} {elts : List Expr} {x1} {pos : Pos} {t : Addr} {items : Array Value} {Q : Unit → Shared → Prop} (hh : A.handled = none) (ht : s.heap.IsList t items)
    (hn : (assignEach elts env).length = items.size) (hstar : (assignEach elts env).findIdx? (·.1) = none)
    (h : ∀ h', Heap.ExtBut s.heap.objs.size s.heap h' → wpAny (model prog w) A (assignInOrder ((assignEach elts env).map (·.2)) items.toList) Q E { s with heap := h' }) :
    wpAny (model prog w) A (assign (.Tuple elts x1 pos) env (.ref t)) Q E s := by
  rw [arm_assign_Tuple]
  refine wpAny_bind (wpAny_standAt ?_)
  unfold unpack
  rw [hn, hstar]
  exact wpAny_bind (wpAny_holding (unpackL hh ht h))
end
/-- (a, b, ..) = a tuple or a list of that length -/
def gTupA (K : PySem.W.Frag) (n : Nat) (t : TGs) : TG := fun v σ H Q => ∃ a xs, v = .ref a ∧ (SqT K H a xs ∨ SqL K H a xs) ∧ xs.length = n ∧ t xs σ H Q
section
variable {X : Cx}
theorem pg_tupA {es : List Expr} {k : Nat} {t : TGs} {n : Nat} {pos : Pos} (hc : X.calm = true) (h : PGs X es t)
    (hn : (assignEach es X.env).length = n := by rfl) (hst : (assignEach es X.env).findIdx? (·.1) = none := by rfl) : PG X (.Tuple es k pos) (gTupA X.K n t) := by
  refine ⟨fun pins s σ H v u Q I r hw => ?_⟩
  obtain ⟨a, xs, e1, hq, hl, hw⟩ := hw
  rcases hq with hq | hq
  · exact (pg_tup hc h hn hst).run pins s σ H v u Q I r ⟨a, xs, e1, hq, hl, hw⟩
  · subst e1
    cases r
    obtain ⟨its, rv, ht, hz⟩ := I.list hq
    refine assignTupL (I.ok.hd hc) ht.isList (by simp [hn, ← hl, rv.length]) hst fun h' hx => ?_
    have I1 : Inv X pins σ H { s with heap := h' } := I.kept (t' := s.toks) fun b o e => hx b o (Nat.ne_of_lt (Heap.lt_size e)) e
    exact h.run pins _ σ H xs _ Q I1 (by simpa using rv) hw
theorem length_sub : ∀ {as bs : List Int}, as.Nodup → (∀ k, k ∈ as → k ∈ bs) → as.length ≤ bs.length
  | [], _, _, _ => Nat.zero_le _
  | a :: as, bs, ha, h => by
    have hm : a ∈ bs := h a (by simp)
    obtain ⟨hna, hnd⟩ := List.nodup_cons.mp ha
    have := length_sub (bs := bs.erase a) hnd fun k q => (List.mem_erase_of_ne fun (z : k = a) => hna (by rw [← z]; exact q)).mpr (h k (by simp [q]))
    rw [List.length_erase_of_mem hm] at this
    have : 0 < bs.length := List.length_pos_of_mem hm
    simp only [List.length_cons]
    omega
end
section
variable {X : Cx} {K : PySem.W.Frag} (hK : X.K = K)
include hK
theorem k_tupA {es : List Expr} {k : Nat} {t : TGs} {n : Nat} {pos : Pos} (hc : X.calm = true) (h : PGs X es t)
    (hn : (assignEach es X.env).length = n := by rfl) (hst : (assignEach es X.env).findIdx? (·.1) = none := by rfl) : PG X (.Tuple es k pos) (gTupA K n t) := hK ▸ pg_tupA hc h hn hst
end
end Lm


namespace Lm
open PySem PySem.Spec PyProof.Rows L2
variable {c : Ct} {H H' H0 H1 H2 H3 : Hp} {O : List Addr} {σ : L2.St} {Γ Γ' Γ1 : List (Option Rs)}
variable {te ta tb tx tl : TE} {tt tu : TT} {tr : TA} {k ka kb kc : Kd} {d x y z : PyData} {i j : Int} {a b : Bool} {kv fz : Bool} {ds es : List PyData}
/-! ### zip of two tuples -/
/-! ### calls -/
/-- list * int, the list a new one -/
theorem e_rep (h : Ev c ta Γ .o (.list ds)) (hf : flatAll ds = true) (hb : Ev c tb Γ kb (.int i)) (h1 : -(2 ^ 63) ≤ i) (h2 : i < 2 ^ 63) (hl : ds.length * i.toNat ≤ 1000000) : Ev c (tOp rMulA ta tb) Γ .o (.list (List.replicate i.toNat ds).flatten) := fun H0 O H σ e Q q =>
  h H0 O H σ e _ fun v H1 r1 s1 => hb H0 O H1 σ (e.on r1) _ fun u H2 r2 s2 => by
    obtain ⟨fp, f, nd, new⟩ : Res c O H H2 v (.list ds) .o := Res.on e r1 r2 s1
    obtain ⟨p, xs, g, rfl, rfl, hp, fa⟩ := f.list'
    obtain ⟨_, al⟩ := fa.flat0 hf
    refine .inr ⟨p, i, xs, rfl, (Res.bo (e.on r1) s2).int', hp, h1, h2, by rw [al.len]; exact sizeOk hl, fun p' hp' => ?_⟩
    have sm : Same H2 (upd H2 p' (.lst (List.replicate i.toNat xs).flatten)) := fun b o z => by rw [upd_ne (ne_of_none z hp')]; exact z
    have rep : ∀ n : Nat, BoAll c H2 (List.replicate n xs).flatten (List.replicate n ds).flatten := by
      intro n
      induction n with
      | zero => exact .nil
      | succ n ih => rw [List.replicate_succ, List.replicate_succ, List.flatten_cons, List.flatten_cons]; exact al.app ih
    have fl : ∀ n : Nat, flatAll (List.replicate n ds).flatten = true := by
      intro n
      refine flatAll_mem fun d hd => ?_
      obtain ⟨l, hl, hd⟩ := List.mem_flatten.mp hd
      rw [(List.mem_replicate.mp hl).2] at hd
      exact flatAll_one hf hd
    refine q _ _ ((r1.tr r2).tr (Rr.same sm)) ⟨[p'], .lst upd_same (FoAll.leaves (fl _) ((rep _).same sm)), by simp, fun a ha => ?_⟩
    cases List.mem_singleton.mp ha
    exact (r1.tr r2).back e.jH hp'
/-! ### unpacking -/
theorem q_unp {n : Nat} {gs : TGs} {u : TS} {P : Out → Prop} (Pd : PyData → Prop) (h : EvN c te Γ k Pd)
    (p : ∀ d, Pd d → ∃ ds Γ' js, (d = .tuple ds ∨ d = .list ds) ∧ flatAll ds = true ∧ ds.length = n ∧ EvGs c gs (ds.map Im.d) Γ Γ' js ∧ Sd c u Γ' P) : Sd c (tSeq (tAsg te (gTupA c.K n gs)) u) Γ P := fun H0 O H σ D e s =>
  h H0 O H σ e _ fun v d H2 pd r rs => by
    obtain ⟨ds, Γ', js, hd, hf, hn, hg, hu⟩ := p d pd
    have e2 := e.on r
    have key : ∃ a xs, v = .ref a ∧ (SqT c.K H2 a xs ∨ SqL c.K H2 a xs) ∧ BoAll c H2 xs ds := by
      rcases hd with rfl | rfl
      · obtain ⟨a, xs, rfl, sl, al⟩ := (Res.bo e rs).tup'
        exact ⟨a, xs, rfl, .inl sl.sq, al⟩
      · obtain ⟨a, xs, rfl, _, sl, al⟩ := (Res.bo e rs).lst'
        exact ⟨a, xs, rfl, .inr sl, al⟩
    obtain ⟨a, xs, rfl, sl, al⟩ := key
    exact ⟨a, xs, rfl, sl, al.len.trans hn, hg H0 O H2 σ H2 false xs e2 e2.jH Rr.rf (fun z => nomatch z) (.ofFlat hf al) _ fun σ' e' _ => hu H0 O H2 σ' D e' s⟩
end Lm


/-! what more defs promise: allocations, orders -/
namespace Lm
open PySem PySem.Spec PyProof.Rows L2
/-- an allocation of b buckets to v variants -/
structure Alc (ns : List Int) (v b : Int) : Prop where
  len : (ns.length : Int) = v
  sum : ns.sum = b
  nn : ∀ n ∈ ns, 0 ≤ n
theorem sum_nn : ∀ {ns : List Int}, (∀ n ∈ ns, 0 ≤ n) → 0 ≤ ns.sum
  | [], _ => by simp
  | n :: ns, h => by
    have h1 := sum_nn (ns := ns) fun m hm => h m (by simp [hm])
    have h2 := h n (by simp)
    simp only [List.sum_cons]; omega
theorem le_sum : ∀ {ns : List Int}, (∀ n ∈ ns, 0 ≤ n) → ∀ m ∈ ns, m ≤ ns.sum
  | [], _, m, hm => nomatch hm
  | n :: ns, h, m, hm => by
    have h1 := sum_nn (ns := ns) fun m hm => h m (by simp [hm])
    have h2 := h n (by simp)
    simp only [List.sum_cons]
    rcases List.mem_cons.mp hm with q | q
    · rw [q]; omega
    · have := le_sum (ns := ns) (fun m hm => h m (by simp [hm])) m q
      omega
theorem Alc.le {ns : List Int} {v b : Int} (h : Alc ns v b) : ∀ n ∈ ns, n ≤ b := fun n hn => h.sum ▸ le_sum h.nn n hn
/-- the numbers from 0 to m - 1, each once -/
structure IsOrd (ns : List Int) (m : Int) : Prop where
  len : (ns.length : Int) = m
  nd : ns.Nodup
  rng : ∀ n ∈ ns, 0 ≤ n ∧ n < m
def placedI (ns os : List Int) : List Int := (upI 0 os.length).map fun i => ns.getD (os.idxOf i) 0
/-! orders: every number has its place -/
theorem nodup_inj {ns : List Int} (h : ns.Nodup) {i j : Nat} (hi : i < ns.length) (hj : j < ns.length) (e : ns[i] = ns[j]) : i = j := by
  have p := List.pairwise_iff_getElem.mp h
  rcases Nat.lt_trichotomy i j with q | q | q
  · exact absurd e (p i j hi hj q)
  · exact q
  · exact absurd e.symm (p j i hj hi q)
theorem perm_sum {as bs : List Int} (h : as.Perm bs) : as.sum = bs.sum := by
  induction h with
  | nil => rfl
  | cons x _ ih => simp [ih]
  | swap x y l => simp only [List.sum_cons]; omega
  | trans _ _ ih1 ih2 => exact ih1.trans ih2
theorem mem_upI {n : Nat} {i : Int} : i ∈ upI 0 n ↔ 0 ≤ i ∧ i < n := by
  unfold upI
  rw [List.mem_map]
  constructor
  · rintro ⟨m, hm, rfl⟩
    have := List.mem_range.mp hm
    omega
  · rintro ⟨h0, h1⟩
    exact ⟨i.toNat, List.mem_range.mpr (by omega), by omega⟩
theorem nodup_upI (n : Nat) : (upI 0 n).Nodup := by
  rw [upI0]
  exact List.Pairwise.map _ (fun a b h e => h (Int.ofNat.inj e)) List.nodup_range
theorem IsOrd.mem {ns : List Int} {m : Int} (h : IsOrd ns m) {i : Int} (h0 : 0 ≤ i) (h1 : i < m) : i ∈ ns := by
  refine Decidable.byContradiction fun hn => ?_
  have h2 : (i :: ns).length ≤ (upI 0 ns.length).length := length_sub (List.nodup_cons.mpr ⟨hn, h.nd⟩) fun k hk => by
    have hl := h.len
    rcases List.mem_cons.mp hk with q | q
    · rw [q, mem_upI]; omega
    · rw [mem_upI]; have := h.rng k q; omega
  simp [upI] at h2
  omega
theorem IsOrd.perm {ns : List Int} {m : Int} (h : IsOrd ns m) : (upI 0 ns.length).Perm ns := by
  refine (List.perm_iff_count.mpr fun i => ?_)
  by_cases q : 0 ≤ i ∧ i < (ns.length : Int)
  · rw [upI_count q.1 q.2, h.nd.count]
    rw [if_pos (h.mem q.1 (by have := h.len; omega))]
  · rw [List.count_eq_zero_of_not_mem (fun z => q (mem_upI.mp z)), List.count_eq_zero_of_not_mem (fun z => q (by have := h.rng i z; have := h.len; omega))]
theorem IsOrd.idx {ns : List Int} {m : Int} (h : IsOrd ns m) {i : Int} (h0 : 0 ≤ i) (h1 : i < m) : ∃ hj : ns.idxOf i < ns.length, ns[ns.idxOf i]? = some i ∧ ∀ n, n < ns.idxOf i → ns[n]? ≠ some i := by
  have hj : ns.idxOf i < ns.length := List.idxOf_lt_length_of_mem (h.mem h0 h1)
  refine ⟨hj, ?_, fun n hn e => ?_⟩
  · rw [List.getElem?_eq_getElem hj, List.getElem_idxOf hj]
  · have hl : n < ns.length := by omega
    have e1 : ns[n] = i := by rw [List.getElem?_eq_getElem hl] at e; exact Option.some.inj e
    have e2 : ns[ns.idxOf i] = i := List.getElem_idxOf hj
    have := nodup_inj h.nd hl hj (e1.trans e2.symm)
    omega
theorem IsOrd.idxOf_get {ns : List Int} {m : Int} (h : IsOrd ns m) {j : Nat} (hj : j < ns.length) : ns.idxOf ns[j] = j := by
  have hm : ns[j] ∈ ns := List.getElem_mem hj
  have hl : ns.idxOf ns[j] < ns.length := List.idxOf_lt_length_of_mem hm
  exact nodup_inj h.nd hl hj (List.getElem_idxOf hl)
/-- a sum over the placed is the sum over the old -/
theorem IsOrd.sums {os : List Int} {m : Int} (h : IsOrd os m) (f : Nat → Int) : ((upI 0 os.length).map fun i => f (os.idxOf i)).sum = ((List.range os.length).map f).sum := by
  have e : os.map (fun i => f (os.idxOf i)) = (List.range os.length).map f := by
    apply List.ext_getElem
    · simp
    · intro j h1 h2
      simp only [List.getElem_map, List.getElem_range]
      rw [h.idxOf_get (by simpa using h1)]
  rw [← e]
  exact perm_sum (h.perm.map _)
theorem sum_range {ns : List Int} : ((List.range ns.length).map fun j => ns.getD j 0).sum = ns.sum := by
  congr 1
  apply List.ext_getElem
  · simp
  · intro j h1 h2
    have h2' : j < ns.length := h2
    simp [List.getD_eq_getElem?_getD, List.getElem?_eq_getElem h2']
theorem IsOrd.alc {ns os : List Int} {v b : Int} (h : Alc ns v b) (o : IsOrd os v) : Alc (placedI ns os) v b := by
  have hl : os.length = ns.length := by have := h.len; have := o.len; omega
  refine ⟨?_, ?_, ?_⟩
  · simp [placedI, upI, o.len]
  · unfold placedI
    rw [o.sums fun j => ns.getD j 0, hl, sum_range, h.sum]
  · intro n hn
    obtain ⟨i, _, rfl⟩ := List.mem_map.mp hn
    rw [List.getD_eq_getElem?_getD]
    cases q : ns[os.idxOf i]? with
    | none => exact Int.le_refl _
    | some x => exact h.nn x (List.mem_of_getElem? q)
def t0 (a b : Int) : Int := if 0 > a - b then 0 else a - b
end Lm


/-! allocations: how they are made, what goes over -/
namespace Lm
open PySem PySem.Spec PyProof.Rows L2
theorem sum_set : ∀ {ns : List Int} {m : Nat} {x : Int}, m < ns.length → (ns.set m x).sum = ns.sum - ns.getD m 0 + x
  | [], _, _, h => by simp at h
  | n :: ns, 0, x, _ => by
    show x + ns.sum = (n + ns.sum) - n + x
    omega
  | n :: ns, m + 1, x, h => by
    have := sum_set (ns := ns) (m := m) (x := x) (by simpa using h)
    show n + (ns.set m x).sum = (n + ns.sum) - ns.getD m 0 + x
    omega
theorem Alc.one {ns : List Int} {v : Int} {b m : Nat} (h : Alc ns v b) (hm : m < ns.length) : Alc (ns.set m (ns.getD m 0 + 1)) v ((b + 1 : Nat) : Int) := by
  refine ⟨by rw [List.length_set]; exact h.len, ?_, fun n hn => ?_⟩
  · have := h.sum
    rw [sum_set hm]
    omega
  · rcases List.mem_or_eq_of_mem_set hn with q | q
    · exact h.nn n q
    · have : ns.getD m 0 ∈ ns := by
        rw [List.getD_eq_getElem?_getD, List.getElem?_eq_getElem hm]
        exact List.getElem_mem hm
      have := h.nn _ this
      omega
theorem ord_upI {m : Int} (h : 0 ≤ m) : IsOrd (upI 0 m.toNat) m := by
  refine ⟨by simp [upI]; omega, nodup_upI _, fun n hn => ?_⟩
  have := mem_upI.mp hn
  omega
/-! ### sums over two lists at once -/
def zs (f : Int → Int → Int) (ns ms : List Int) : Int := ((List.range ns.length).map fun j => f (ns.getD j 0) (ms.getD j 0)).sum
theorem zs_cons {f : Int → Int → Int} {n m : Int} {ns ms : List Int} : zs f (n :: ns) (m :: ms) = f n m + zs f ns ms := by
  unfold zs
  rw [List.length_cons, List.range_succ_eq_map, List.map_cons, List.sum_cons, List.map_map]
  rfl
variable {ns ms ps : List Int} {v b : Int}
theorem Alc.lens (h : Alc ns v b) (g : Alc ms v b) : ns.length = ms.length := by have := h.len; have := g.len; omega
/-- a list that is filled place by place -/
structure Due (ns os due : List Int) (v : Int) (n : Nat) : Prop where
  len : (due.length : Int) = v
  got : ∀ j, j < n → due.getD (os.getD j 0).toNat 0 = ns.getD j 0
theorem gd_lt {l : List Int} {j : Nat} (h : j < l.length) : l.getD j 0 = l[j] := by
  rw [List.getD_eq_getElem?_getD, List.getElem?_eq_getElem h]
  rfl
theorem gd_mem {l : List Int} {j : Nat} (h : j < l.length) : l.getD j 0 ∈ l := by rw [gd_lt h]; exact List.getElem_mem h
variable {os due : List Int} {n : Nat}
theorem Due.step (d : Due ns os due v n) (ho : IsOrd os v) (hn : n < os.length) : Due ns os (due.set (os.getD n 0).toNat (ns.getD n 0)) v (n + 1) := by
  refine ⟨by rw [List.length_set]; exact d.len, fun j hj => ?_⟩
  have hl := d.len
  have r1 := ho.rng _ (gd_mem hn)
  have h1 : (os.getD n 0).toNat < due.length := by omega
  by_cases q : j = n
  · subst q
    rw [List.getD_eq_getElem?_getD, List.getElem?_set_self h1]
    rfl
  · have hj' : j < n := by omega
    have hjl : j < os.length := by omega
    have r2 := ho.rng _ (gd_mem hjl)
    have ne : (os.getD n 0).toNat ≠ (os.getD j 0).toNat := fun e => by
      have e2 : os.getD j 0 = os.getD n 0 := by omega
      rw [gd_lt hn, gd_lt hjl] at e2
      exact q (nodup_inj ho.nd hjl hn e2)
    rw [List.getD_eq_getElem?_getD, List.getElem?_set_ne ne, ← List.getD_eq_getElem?_getD]
    exact d.got j hj'
theorem Due.done (d : Due ns os due v os.length) (ho : IsOrd os v) : due = placedI ns os := by
  have hl := d.len
  have hol := ho.len
  apply List.ext_getElem
  · simp [placedI, upI]; omega
  · intro i h1 h2
    obtain ⟨hj, h3, _⟩ := ho.idx (i := (i : Int)) (by omega) (by omega)
    have := d.got _ hj
    have e1 : os.getD (os.idxOf (i : Int)) 0 = i := by rw [List.getD_eq_getElem?_getD, h3]; rfl
    rw [e1] at this
    have e2 : ((i : Int)).toNat = i := by omega
    rw [e2, gd_lt h1] at this
    rw [this]
    unfold placedI
    simp [upI]
end Lm


/-! zip whose tuples are kept; enumerate(zip(a, b)) -/
namespace Lm
open PySem PySem.Spec PyProof.Rows L2
/-- a zip, with what it says of its last tuple -/
abbrev IsZipX (h : Heap) (z TI TO : Addr) (x : Value) (b : Bool) : Prop := h.get? z = some { cls := .type "zip", data := .fields #[x, .bool b, .bool false, .ref TI, .ref TO] }
section
variable {prog : Program} {w : World} {A : Around} {E : Value → Shared → Prop} {s : Shared} {z TI TO i1 i2 : Addr} {fp1 fp2 : List Addr} {n1 n2 i : Nat} {P1 P2 : Nat → Value → Prop} {St1 St2 : Nat → Heap → Prop} {a1 a2 : Value} {b : Bool} {x : Value}
theorem zipX_free {Q : Bool → Shared → Prop} (hz : IsZipX s.heap z TI TO x b) (hx : x = .none ∨ ∃ T : Addr, x = rawInt T) (h1 : Q true s) (h2 : ∀ h', IsZipX h' z TI TO x true → Heap.SameBut z s.heap h' → Q false { s with heap := h' }) :
    wpAny (model prog w) A (Builtin.SmallTypes.ownedTupleIsFree (.ref z)) Q E s := by
  unfold Builtin.SmallTypes.ownedTupleIsFree
  refine wpAny_bind (wpAny_field hz rfl (x := x) rfl ?_)
  rcases hx with rfl | ⟨T, rfl⟩
  · exact wpAny_pure h1
  · show wpAny _ _ (loadIfAlive T >>= _) _ _ _
    cases hT : s.heap.get? T with
    | none =>
      have alive : ∀ {Q : Option Obj → Shared → Prop}, Q none s → wpAny (model prog w) A (loadIfAlive T) Q E s := fun {Q} q => by
        have q' : Q (s.heap.get? T) s := by rw [hT]; exact q
        exact fun _ _ _ => q'
      refine wpAny_bind (alive ?_)
      exact wpAny_pure h1
    | some o =>
      refine wpAny_bind (PySem.W.kdx_alive hT ?_)
      simp only [Option.isNone_some, Bool.false_eq_true, if_false]
      refine wpAny_bind (wpAny_field hz rfl (x := .bool b) rfl ?_)
      cases b with
      | true => exact wpAny_pure (h2 _ hz (Heap.SameBut.refl ..))
      | false => exact wpAny_bind (wpAny_setField_rec hz (by simp) fun h1 hz1 hs1 => wpAny_pure (h2 h1 hz1 hs1))
/-- a turn of zip, whatever became of the last tuple -/
theorem zipX_item {Q : Value → Shared → Prop} (S : ZipSep2 z TI TO i1 i2 fp1 fp2) (D1 : Draws prog w A i1 fp1 n1 P1 St1) (D2 : Draws prog w A i2 fp2 n2 P2 St2)
    (hz : IsZipX s.heap z TI TO x b) (hx : x = .none ∨ ∃ T : Addr, x = rawInt T) (hTI : IsTupOf2 s.heap TI (.ref i1) (.ref i2)) (hTO : IsTupOf2 s.heap TO a1 a2) (st1 : St1 i s.heap) (st2 : St2 i s.heap) (hlt1 : i < n1) (hlt2 : i < n2)
    (hQ : ∀ x1 x2 h' tk x' b', P1 i x1 → P2 i x2 → IsZipX h' z TI TO x' b' → (x' = .none ∨ ∃ T : Addr, x' = rawInt T) → (∃ a1 a2, IsTupOf2 h' TO a1 a2) → St1 (i + 1) h' → St2 (i + 1) h' → IsTupOf2 h' s.heap.objs.size x1 x2 → h'.objs.size = s.heap.objs.size + 1 →
      (∀ c o, c ≠ z → c ≠ TO → c ≠ i1 → c ≠ i2 → s.heap.get? c = some o → h'.get? c = some o) → Q (.ref s.heap.objs.size) { s with heap := h', toks := tk }) :
    wpAny (model prog w) A (Builtin.«zip.__next__» ⟨[.ref z], []⟩) (fun fin s' => ∃ v, fin = .done (.ret v) ∧ Q v s') E s := by
  obtain ⟨hp, g, d, tk0, os⟩ := s
  show wpAny _ _ (field (.ref z) 2 >>= _) _ _ _
  refine wpAny_bind (wpAny_field hz rfl (x := .bool false) rfl ?_)
  show wpAny _ _ (field (.ref z) 3 >>= _) _ _ _
  refine wpAny_bind (wpAny_field hz rfl (x := .ref TI) rfl ?_)
  refine wpAny_bind (wpAny_seqItems hTI rfl ?_)
  show wpAny _ _ (Builtin.SmallTypes.ownedTupleIsFree (.ref z) >>= _) _ _ _
  refine wpAny_bind (zipX_free hz hx ?_ fun g0 hz0 hs0 => ?_)
  · simp only [if_true]
    refine wpAny_bind (wpAny_rule (wpAny_bind (wpAny_field hz rfl (x := .ref TO) rfl ?_)))
    refine wpAny_bind (wpAny_setField_rec hz (by simp) fun g0 hz0 hs0 => ?_)
    replace hz0 : IsZipX g0 z TI TO .ellipsis b := hz0
    replace hs0 : Heap.SameBut z hp g0 := hs0
    refine wpAny_bind ?_
    simp only [List.zipIdx_cons, List.zipIdx_nil, List.forIn_cons, List.forIn_nil]
    refine wpAny_bind (wpAny_bind (wpAny_onRaise ?_))
    show wpAny _ _ (Builtin.SmallTypes.nextOf (.ref i1) >>= _) _ _ ⟨g0, g, d, tk0, os⟩
    refine wpAny_bind (D1.item i _ _ _ hlt1 (D1.over st1 hs0 S.zf1) fun x1 p1 tk1 hx1 sn1 hp1 => wpAny_pure ?_)
    replace hp1 : Heap.SameBut i1 g0 p1 := hp1
    have hU1 : IsTupOf2 p1 TO a1 a2 := hp1.extBut _ _ S.Ti1 (hs0.extBut _ _ S.TOz hTO)
    refine wpAny_bind (wpAny_seqItems (s := ⟨p1, g, d, tk1, os⟩) hU1 rfl ?_)
    refine wpAny_bind (updateSeq_IsTupOf2 (s := ⟨p1, g, d, tk1, os⟩) hU1 fun g1 hT1 hs1 => ?_)
    replace hT1 : IsTupOf2 g1 TO x1 a2 := hT1
    replace hs1 : Heap.SameBut TO p1 g1 := hs1
    refine wpAny_bind (wpAny_letGo (wpAny_pure ?_))
    refine wpAny_bind (wpAny_bind (wpAny_onRaise ?_))
    show wpAny _ _ (Builtin.SmallTypes.nextOf (.ref i2) >>= _) _ _ ⟨g1, g, d, tk1, os⟩
    refine wpAny_bind (D2.item i _ _ _ hlt2 (D2.over (D2.over (D2.over st2 hs0 S.zf2) hp1 S.sep1_2) hs1 S.Tf2) fun x2 p2 tk2 hx2 sn2 hp2 => wpAny_pure ?_)
    replace hp2 : Heap.SameBut i2 g1 p2 := hp2
    have hU2 : IsTupOf2 p2 TO x1 a2 := hp2.extBut _ _ S.Ti2 hT1
    refine wpAny_bind (wpAny_seqItems (s := ⟨p2, g, d, tk2, os⟩) hU2 rfl ?_)
    refine wpAny_bind (updateSeq_IsTupOf2 (s := ⟨p2, g, d, tk2, os⟩) hU2 fun g2 hT2 hs2 => ?_)
    replace hT2 : IsTupOf2 g2 TO x1 x2 := hT2
    replace hs2 : Heap.SameBut TO p2 g2 := hs2
    refine wpAny_bind (wpAny_letGo (wpAny_pure (wpAny_pure ?_)))
    refine wpAny_bind (wpAny_seqItems (s := ⟨g2, g, d, tk2, os⟩) hT2 rfl (wpAny_bind (wpAny_newTuple ?_)))
    have hsz : g2.objs.size = hp.objs.size := by rw [hs2.1, hp2.1, hs1.1, hp1.1, hs0.1]
    have hzz : IsZipX g2 z TI TO .ellipsis b := (hs2.extBut _ _ S.TOz.symm (hp2.extBut _ _ S.zi2 (hs1.extBut _ _ S.TOz.symm (hp1.extBut _ _ S.zi1 hz0))))
    have hkk : ∀ c o, c ≠ z → c ≠ TO → c ≠ i1 → c ≠ i2 → hp.get? c = some o → g2.get? c = some o := fun c o cz cT c1 c2 e =>
      hs2.extBut _ _ cT (hp2.extBut _ _ c2 (hs1.extBut _ _ cT (hp1.extBut _ _ c1 (hs0.extBut _ _ cz e))))
    have hj1 : St1 (i + 1) g2 := D1.over (D1.over (D1.over sn1 hs1 S.Tf1) hp2 S.sep2_1) hs2 S.Tf1
    have hj2 : St2 (i + 1) g2 := D2.over sn2 hs2 S.Tf2
    have hzlt : z < g2.objs.size := Heap.lt_size hzz
    show wpAny _ _ (Builtin.SmallTypes.ownedTupleHandOut (.ref z) (.ref g2.objs.size) >>= _) _ _ ⟨g2.push { cls := .type "tuple", data := .seq #[x1, x2] }, g, d, tk2, os⟩
    refine wpAny_bind ?_
    unfold Builtin.SmallTypes.ownedTupleHandOut
    have hz6 : IsZipX (g2.push { cls := .type "tuple", data := .seq #[x1, x2] }) z TI TO .ellipsis b := Heap.get?_push_of_some _ hzz
    refine wpAny_bind (wpAny_setField_rec hz6 (by simp) fun h7 hz7 hs7 => ?_)
    replace hz7 : IsZipX h7 z TI TO (rawInt g2.objs.size) b := hz7
    refine wpAny_setField_rec hz7 (by simp) fun h8 hz8 hs8 => ?_
    replace hz8 : IsZipX h8 z TI TO (rawInt g2.objs.size) false := hz8
    replace hs7 : Heap.SameBut z (g2.push { cls := .type "tuple", data := .seq #[x1, x2] }) h7 := hs7
    replace hs8 : Heap.SameBut z h7 h8 := hs8
    have up : ∀ c o, c ≠ z → g2.get? c = some o → h8.get? c = some o := fun c o c1 e => hs8.extBut _ _ c1 (hs7.extBut _ _ c1 (Heap.get?_push_of_some _ e))
    have hT8 : IsTupOf2 h8 g2.objs.size x1 x2 := hs8.extBut _ _ (Nat.ne_of_gt hzlt) (hs7.extBut _ _ (Nat.ne_of_gt hzlt) (Heap.get?_push_size _ rfl))
    have hz9 : h8.objs.size = g2.objs.size + 1 := by rw [hs8.1, hs7.1, Heap.size_push]
    rw [hsz] at hz8 hT8 hz9
    refine wpAny_pure ⟨_, rfl, ?_⟩
    show Q (.ref g2.objs.size) ⟨h8, g, d, tk2, os⟩
    rw [hsz]
    exact hQ x1 x2 h8 tk2 _ _ hx1 hx2 hz8 (.inr ⟨_, rfl⟩) ⟨_, _, up _ _ S.TOz hT2⟩ (D1.frame _ _ _ hj1 fun b hb o e => up b o (fun q => S.zf1 (q ▸ hb)) e) (D2.frame _ _ _ hj2 fun b hb o e => up b o (fun q => S.zf2 (q ▸ hb)) e) hT8 hz9 fun c o cz cT c1 c2 e => up c o cz (hkk c o cz cT c1 c2 e)
  · replace hs0 : Heap.SameBut z hp g0 := hs0
    simp only [Bool.false_eq_true, if_false]
    refine wpAny_bind ?_
    rw [← Array.forIn_toList]
    simp only [List.forIn_cons, List.forIn_nil]
    refine wpAny_bind (wpAny_bind (wpAny_holding ?_))
    show wpAny _ _ (Builtin.SmallTypes.nextOf (.ref i1) >>= _) _ _ ⟨g0, g, d, tk0, os⟩
    refine wpAny_bind (D1.item i _ _ _ hlt1 (D1.over st1 hs0 S.zf1) fun x1 p1 tk1 hx1 sn1 hp1 => wpAny_pure ?_)
    replace hp1 : Heap.SameBut i1 g0 p1 := hp1
    refine wpAny_pure ?_
    refine wpAny_bind (wpAny_bind (wpAny_holding ?_))
    show wpAny _ _ (Builtin.SmallTypes.nextOf (.ref i2) >>= _) _ _ ⟨p1, g, d, tk1, os⟩
    refine wpAny_bind (D2.item i _ _ _ hlt2 (D2.over (D2.over st2 hs0 S.zf2) hp1 S.sep1_2) fun x2 p2 tk2 hx2 sn2 hp2 => wpAny_pure ?_)
    replace hp2 : Heap.SameBut i2 p1 p2 := hp2
    refine wpAny_pure (wpAny_pure ?_)
    show wpAny _ _ (newTuple [x1, x2] >>= _) _ _ ⟨p2, g, d, tk2, os⟩
    refine wpAny_bind (wpAny_newTuple ?_)
    have hsz : p2.objs.size = hp.objs.size := by rw [hp2.1, hp1.1, hs0.1]
    have hzz : IsZipX p2 z TI TO x true := hp2.extBut _ _ S.zi2 (hp1.extBut _ _ S.zi1 hz0)
    have hj1 : St1 (i + 1) p2 := D1.over sn1 hp2 S.sep2_1
    have hTO2 : IsTupOf2 p2 TO a1 a2 := hp2.extBut _ _ S.Ti2 (hp1.extBut _ _ S.Ti1 (hs0.extBut _ _ S.TOz hTO))
    refine wpAny_pure ⟨_, rfl, ?_⟩
    show Q (.ref p2.objs.size) _
    rw [hsz]
    refine hQ x1 x2 (p2.push { cls := .type "tuple", data := .seq #[x1, x2] }) tk2 _ _ hx1 hx2 (Heap.get?_push_of_some _ hzz) hx ⟨_, _, Heap.get?_push_of_some _ hTO2⟩ (D1.frame _ _ _ hj1 fun b hb o e => Heap.get?_push_of_some _ e) (D2.frame _ _ _ sn2 fun b hb o e => Heap.get?_push_of_some _ e) ?_ (by rw [Heap.size_push, hsz]) fun c o cz cT c1 c2 e => Heap.get?_push_of_some _ (hp2.extBut _ _ c2 (hp1.extBut _ _ c1 (hs0.extBut _ _ cz e)))
    rw [← hsz]
    exact Heap.get?_push_size _ rfl
/-- zip at its end: the first iterator has ended -/
theorem zipX_end {Q : Fin → Shared → Prop} (S : ZipSep2 z TI TO i1 i2 fp1 fp2) (D1 : Draws prog w A i1 fp1 n1 P1 St1)
    (hz : IsZipX s.heap z TI TO x b) (hx : x = .none ∨ ∃ T : Addr, x = rawInt T) (hTI : IsTupOf2 s.heap TI (.ref i1) (.ref i2)) (st1 : St1 n1 s.heap)
    (hE : ∀ h' e, (∀ c o, c ≠ z → c ≠ i1 → s.heap.get? c = some o → h'.get? c = some o) → (∃ o, h'.get? e = some o ∧ o.cls = .type "StopIteration") → E (.ref e) { s with heap := h' }) :
    wpAny (model prog w) A (Builtin.«zip.__next__» ⟨[.ref z], []⟩) Q E s := by
  obtain ⟨hp, g, d, tk0, os⟩ := s
  show wpAny _ _ (field (.ref z) 2 >>= _) _ _ _
  refine wpAny_bind (wpAny_field hz rfl (x := .bool false) rfl ?_)
  show wpAny _ _ (field (.ref z) 3 >>= _) _ _ _
  refine wpAny_bind (wpAny_field hz rfl (x := .ref TI) rfl ?_)
  refine wpAny_bind (wpAny_seqItems hTI rfl ?_)
  show wpAny _ _ (Builtin.SmallTypes.ownedTupleIsFree (.ref z) >>= _) _ _ _
  refine wpAny_bind (zipX_free hz hx ?_ fun g0 hz0 hs0 => ?_)
  · simp only [if_true]
    refine wpAny_bind (wpAny_rule (wpAny_bind (wpAny_field hz rfl (x := .ref TO) rfl ?_)))
    refine wpAny_bind (wpAny_setField_rec hz (by simp) fun g0 hz0 hs0 => ?_)
    replace hz0 : IsZipX g0 z TI TO .ellipsis b := hz0
    replace hs0 : Heap.SameBut z hp g0 := hs0
    refine wpAny_bind ?_
    simp only [List.zipIdx_cons, List.zipIdx_nil, List.forIn_cons, List.forIn_nil]
    refine wpAny_bind (wpAny_bind (wpAny_onRaise ?_))
    show wpAny _ _ (Builtin.SmallTypes.nextOf (.ref i1) >>= _) _ _ ⟨g0, g, d, tk0, os⟩
    refine wpAny_bind (D1.done ⟨g0, g, d, tk0, os⟩ _ _ (D1.over st1 hs0 S.zf1) fun q e hq he => ?_)
    replace hq : Heap.ExtBut i1 g0 q := hq
    obtain ⟨oe, hoe, hce⟩ := he
    replace hoe : q.get? e = some oe := hoe
    have hzq : IsZipX q z TI TO .ellipsis b := hq _ _ S.zi1 hz0
    have hez : e ≠ z := fun y => by subst y; rw [hzq] at hoe; cases hoe; simp at hce
    refine wpAny_setField_rec (s := ⟨q, g, d, tk0, os⟩) hzq (by simp) fun q' _ hq' => ?_
    replace hq' : Heap.SameBut z q q' := hq'
    exact hE q' e (fun c o cz c1 y => hq'.extBut _ _ cz (hq _ _ c1 (hs0.extBut _ _ cz y))) ⟨oe, hq'.extBut _ _ hez hoe, hce⟩
  · replace hs0 : Heap.SameBut z hp g0 := hs0
    simp only [Bool.false_eq_true, if_false]
    refine wpAny_bind ?_
    rw [← Array.forIn_toList]
    simp only [List.forIn_cons, List.forIn_nil]
    refine wpAny_bind (wpAny_bind (wpAny_holding ?_))
    show wpAny _ _ (Builtin.SmallTypes.nextOf (.ref i1) >>= _) _ _ ⟨g0, g, d, tk0, os⟩
    refine wpAny_bind (D1.done ⟨g0, g, d, tk0, os⟩ _ _ (D1.over st1 hs0 S.zf1) fun q e hq he => ?_)
    replace hq : Heap.ExtBut i1 g0 q := hq
    exact hE q e (fun c o cz c1 y => hq _ _ c1 (hs0.extBut _ _ cz y)) he
end
section
variable {prog : Program} {w : World} {A : Around} {E : Value → Shared → Prop} {s : Shared}
end
section
variable {c : Ct} {Γ : List (Option Rs)} {tr : TA}
end
section
variable {X : Cx} {K : PySem.W.Frag} (hK : X.K = K)
include hK
end
end Lm


/-! pairs of assignments, moves, renaming and rearranging -/
namespace Lm
open PySem PySem.Spec PyProof.Rows L2
def ne1 (a b : Int) : Int := if a = b then 0 else 1
def backI (os : List Int) : List Int := (upI 0 os.length).map fun i => (os.idxOf i : Int)
variable {ns ms os : List Int} {v m b : Int}
theorem backI_len : (backI os).length = os.length := by simp [backI, upI]
theorem IsOrd.back (o : IsOrd os m) : IsOrd (backI os) m := by
  have hl := o.len
  refine ⟨by rw [backI_len]; exact hl, ?_, fun n hn => ?_⟩
  · unfold backI
    rw [List.nodup_iff_pairwise_ne, List.pairwise_map]
    refine List.Pairwise.imp_of_mem ?_ (List.nodup_iff_pairwise_ne.mp (nodup_upI os.length))
    intro a c ha hc hne e
    have a1 := mem_upI.mp ha
    have c1 := mem_upI.mp hc
    obtain ⟨_, ga, _⟩ := o.idx (i := a) a1.1 (by omega)
    obtain ⟨_, gc, _⟩ := o.idx (i := c) c1.1 (by omega)
    have e' : os.idxOf a = os.idxOf c := by omega
    rw [e', gc] at ga
    exact hne (Option.some.inj ga).symm
  · obtain ⟨i, hi, rfl⟩ := List.mem_map.mp hn
    have a1 := mem_upI.mp hi
    obtain ⟨hj, _, _⟩ := o.idx (i := i) a1.1 (by omega)
    omega
theorem countsI_len : (countsI ns v).length = v.toNat := by simp [countsI, upI]
theorem countsI_get {i : Nat} (h : (i : Int) < v) : (countsI ns v).getD i 0 = (ns.count (i : Int) : Int) := by
  unfold countsI
  rw [List.getD_eq_getElem?_getD]
  have : i < v.toNat := by omega
  simp [upI, this]
theorem Asg.alc (h : Asg ns v) (hv : 0 ≤ v) : Alc (countsI ns v) v ns.length := by
  refine ⟨by rw [countsI_len]; omega, ?_, fun n hn => ?_⟩
  · exact count_sum v.toNat ns fun n hn => by have := h.rng n hn; omega
  · obtain ⟨i, _, rfl⟩ := List.mem_map.mp hn
    omega
theorem e_neg {c : Ct} {Γ : List (Option Rs)} {te : TE} {k : Kd} {i : Int} (h : Ev c te Γ k (.int i)) : Ev c (tUn (rU fun i => .int (-i)) te) Γ .v (.int (-i)) := fun H0 O H σ e Q q =>
  h H0 O H σ e _ fun v H1 r s => ⟨i, (Res.bo e s).int', q _ H1 r (.int _)⟩
/-- a list of data that is filled place by place with ints -/
structure DueD (ns os : List Int) (due : List PyData) (v : Int) (n : Nat) : Prop where
  len : (due.length : Int) = v
  flat : ∀ d ∈ due, flatD d = true
  got : ∀ j, j < n → due[(os.getD j 0).toNat]? = some (.int (ns.getD j 0))
theorem DueD.fl {due : List PyData} {n : Nat} (d : DueD ns os due v n) : flatAll due = true := flatAll_mem d.flat
theorem DueD.step {due : List PyData} {n : Nat} (d : DueD ns os due v n) (ho : IsOrd os v) (hn : n < os.length) : DueD ns os (due.set (os.getD n 0).toNat (.int (ns.getD n 0))) v (n + 1) := by
  have hl := d.len
  have r1 := ho.rng _ (gd_mem hn)
  have h1 : (os.getD n 0).toNat < due.length := by omega
  refine ⟨by rw [List.length_set]; exact d.len, fun x hx => ?_, fun j hj => ?_⟩
  · rcases List.mem_or_eq_of_mem_set hx with q | q
    · exact d.flat x q
    · rw [q]; rfl
  by_cases q : j = n
  · subst q
    rw [List.getElem?_set_self h1]
  · have hj' : j < n := by omega
    have hjl : j < os.length := by omega
    have r2 := ho.rng _ (gd_mem hjl)
    have ne : (os.getD n 0).toNat ≠ (os.getD j 0).toNat := fun e => by
      have e2 : os.getD j 0 = os.getD n 0 := by omega
      rw [gd_lt hn, gd_lt hjl] at e2
      exact q (nodup_inj ho.nd hjl hn e2)
    rw [List.getElem?_set_ne ne]
    exact d.got j hj'
theorem DueD.done {due : List PyData} (d : DueD ns os due v os.length) (ho : IsOrd os v) : due = (placedI ns os).map .int := by
  have hl := d.len
  have hol := ho.len
  apply List.ext_getElem
  · simp [placedI, upI]; omega
  · intro i h1 h2
    obtain ⟨hj, h3, _⟩ := ho.idx (i := (i : Int)) (by omega) (by omega)
    have g := d.got _ hj
    have e1 : os.getD (os.idxOf (i : Int)) 0 = i := by rw [List.getD_eq_getElem?_getD, h3]; rfl
    rw [e1] at g
    have e2 : ((i : Int)).toNat = i := by omega
    rw [e2, List.getElem?_eq_getElem h1] at g
    rw [Option.some.inj g]
    unfold placedI
    simp [upI]
end Lm


/-! moves that are not needed -/
namespace Lm
open PySem PySem.Spec PyProof.Rows L2
/-! ### out and in -/
variable {ns ms : List Int} {v : Int}
def sp_check_variants (K : PySem.W.Frag) : Sp := spD K fun ds k d => ∃ v : Int, ds = [.int v] ∧ 1 ≤ v ∧ v ≤ 5 ∧ k = .v ∧ d = .none
/-! ### lists with drawn items, drawn places -/
section
variable {c : Ct} {Γ : List (Option Rs)} {ta tb : TE} {k ka kb : Kd} {x : PyData}
end
end Lm


/-! medians -/
namespace Lm
open PySem PySem.Spec PyProof.Rows L2
def mid3 (a b c : Int) : Int := if a ≤ b then (if b ≤ c then b else if a ≤ c then c else a) else (if a ≤ c then a else if b ≤ c then c else b)
def medI (as bs cs : List Int) : List Int := (List.range as.length).map fun i => mid3 (as.getD i 0) (bs.getD i 0) (cs.getD i 0)
variable {as bs cs : List Int}
end Lm


/-! the least churn is what goes over -/
namespace Lm
open PySem PySem.Spec PyProof.Rows L2
variable {f g h ns ms : List Int} {v : Int}
/-- all assignments of n buckets to v variants -/
def allL (v : Int) : Nat → List (List Int)
  | 0 => [[]]
  | n + 1 => (allL v n).flatMap fun r => (upI 0 v.toNat).map fun x => r ++ [x]
theorem mem_allL (hv : 0 ≤ v) : ∀ (n : Nat) (r : List Int), r ∈ allL v n ↔ r.length = n ∧ ∀ x ∈ r, 0 ≤ x ∧ x < v
  | 0, r => by
    constructor
    · intro h
      have : r = [] := by simpa [allL] using h
      subst this
      exact ⟨rfl, fun _ h => nomatch h⟩
    · rintro ⟨h, _⟩
      rw [List.eq_nil_of_length_eq_zero h]
      simp [allL]
  | n + 1, r => by
    unfold allL
    rw [List.mem_flatMap]
    constructor
    · rintro ⟨q, hq, h⟩
      obtain ⟨x, hx, rfl⟩ := List.mem_map.mp h
      obtain ⟨h1, h2⟩ := (mem_allL hv n q).mp hq
      refine ⟨by simp [h1], fun y hy => ?_⟩
      rcases List.mem_append.mp hy with w | w
      · exact h2 y w
      · rw [List.mem_singleton.mp w]
        have := mem_upI.mp hx
        omega
    · rintro ⟨h1, h2⟩
      have hne : r ≠ [] := fun z => by rw [z] at h1; simp at h1
      refine ⟨r.dropLast, (mem_allL hv n _).mpr ⟨by rw [List.length_dropLast]; omega, fun x hx => h2 x (List.dropLast_subset r hx)⟩, List.mem_map.mpr ⟨r.getLast hne, mem_upI.mpr ?_, List.dropLast_concat_getLast hne⟩⟩
      have := h2 _ (List.getLast_mem hne)
      omega
end Lm


/-! a list handed from one name to another, list.extend, tuples put together, all assignments -/
namespace Lm
open PySem PySem.Spec PyProof.Rows L2
section
variable {c : Ct} {H H' H0 H1 H2 H3 : Hp} {O : List Addr} {σ : L2.St} {Γ Γ' Γ1 : List (Option Rs)}
variable {te ta tb : TE} {k ka kb : Kd} {d : PyData} {i j : Int} {ds es : List PyData} {u : TS} {P : Out → Prop} {n m : Nat}
/-- xs.extend(a new list of flat things) -/
theorem s_ext (hx : Γ[n]? = some (some (.o (.list ds)))) (h : Ev c te Γ .o (.list es)) (hf : flatAll es = true) (hl : ds.length + es.length ≤ 1000000) (p : P (.nx (Γ.set n (some (.o (.list (ds ++ es))))))) : Sd c (tDrop (tBM c.K "list" rExtend (tVar n) (tCons te tNil))) Γ P := fun H0 O H σ D e s => by
  obtain ⟨q, xs, f, hq, hp, fa, qf, qO, _⟩ := e.write (es := ds ++ es) hx
  refine ⟨.ref q, hq, .inl ⟨rfl, xs, .inl (.inl hp)⟩, h H0 O H σ e _ fun v H2 r rs => ?_⟩
  obtain ⟨fp, fo, nd, new⟩ := rs
  obtain ⟨b, zs, g, rfl, rfl, hb, fb⟩ := fo.list'
  obtain ⟨_, bb⟩ := fb.flat0 hf
  have e2 := e.on r
  obtain ⟨q', xs', f', hq', hp', fa', qf', qO', wr⟩ := e2.write (es := ds ++ es) hx
  have : q' = q := by rw [hq] at hq'; cases hq'; rfl
  subst this
  have lx : xs'.length = ds.length := (fa'.bo fun a ha => e.okO a (qO' a ha)).len
  refine ⟨q', b, xs', zs, rfl, rfl, hp', hb, by rw [lx, bb.len]; exact sizeOk hl, s _ p O _ σ (wr (xs' ++ zs) ?_)⟩
  have := fa'.app (FoAll.leaves hf bb)
  rw [List.append_nil] at this
  exact this.up (fun _ _ s => sqT_upd hp' s) fun a ha o z => by
    have : a ≠ q' := fun w => qf' (w ▸ ha)
    rw [upd_ne this]; exact z
end
abbrev tupD (r : List Int) : PyData := .tuple (r.map .int)
end Lm


/-! own lists within an own list: rows[i][j] = .. -/
namespace Lm
open PySem PySem.Spec PyProof.Rows L2
variable {c : Ct} {H H' H0 H1 H2 H3 : Hp} {O : List Addr} {σ : L2.St} {Γ Γ' Γ1 : List (Option Rs)}
theorem FoAll.nth : ∀ {xs : List V} {ds : List PyData} {f : List Addr} {i : Nat} {d : PyData}, FoAll c H xs ds f → ds[i]? = some d →
    ∃ x g pre post, xs[i]? = some x ∧ Fo c H x d g ∧ f = pre ++ (g ++ post) ∧ ∀ (H' : Hp) (x' : V) (d' : PyData) (g' : List Addr), (∀ a xs, TpN c.K H a xs → TpN c.K H' a xs) → (∀ a ∈ pre ++ post, ∀ o, H a = some o → H' a = some o) → Fo c H' x' d' g' →
      FoAll c H' (xs.set i x') (ds.set i d') (pre ++ (g' ++ post))
  | _, _, _, _, _, .nil, h => by simp at h
  | _, _, _, 0, d, .cons (v := v) (f := f) (fs := fs) a b, h => by
    have e : _ = d := Option.some.inj h
    subst e
    exact ⟨v, f, [], fs, rfl, a, rfl, fun H' x' d' g' hT hk fo => FoAll.cons (f := g') (fs := fs) fo (b.up hT fun y hy => hk y (by simpa using hy))⟩
  | _, _, _, i + 1, d, .cons (v := v) (f := f) (fs := fs) a b, h => by
    obtain ⟨x, g, pre, post, h1, h2, h3, h4⟩ := FoAll.nth (i := i) b (by simpa using h)
    refine ⟨x, g, f ++ pre, post, by simpa using h1, h2, by rw [h3, List.append_assoc], fun H' x' d' g' hT hk fo => ?_⟩
    have r := h4 H' x' d' g' hT (fun y hy o z => hk y (by simp at hy ⊢; rcases hy with w | w <;> simp [w]) o z) fo
    rw [List.append_assoc]
    exact .cons (a.up hT fun y hy => hk y (by simp [hy])) r
theorem Env.write2 (e : Env c H0 O H σ Γ) {n i : Nat} {ds es : List PyData} (h : Γ[n]? = some (some (.o (.list ds)))) (hi : ds[i]? = some (.list es)) (hes : flatAll es = true) :
    ∃ p xs q ys, σ[n]? = some (some (.ref p)) ∧ H p = some (.lst xs) ∧ okA c p ∧ xs.length = ds.length ∧ xs[i]? = some (.ref q) ∧ H q = some (.lst ys) ∧ BoAll c H ys es ∧
      ∀ (zs : List V) (us : List PyData), flatAll us = true → BoAll c (upd H q (.lst zs)) zs us → Env c H0 O (upd H q (.lst zs)) σ (Γ.set n (some (.o (.list (ds.set i (.list us)))))) := by
  obtain ⟨fp, hr, nd, sub⟩ := e.rep
  obtain ⟨x, f0, pre, post, h1, ⟨v, rfl, b⟩, h3, h4⟩ := hr.nth h
  obtain ⟨p, xs, f, rfl, rfl, hp, hfa⟩ := b.list'
  subst h3
  obtain ⟨y, g, pr2, po2, g1, g2, g3, g4⟩ := hfa.nth hi
  obtain ⟨q, ys, g', rfl, rfl, hq, hga⟩ := g2.list'
  obtain ⟨rfl, bo⟩ := hga.flat0 hes
  subst g3
  have hqO : q ∈ O := sub q (by simp)
  have hpO : p ∈ O := sub p (by simp)
  -- the inner list's address stands once
  have nq : ∀ a, a ∈ pre ∨ a = p ∨ a ∈ pr2 ∨ a ∈ po2 ∨ a ∈ post → a ≠ q := by
    intro a ha z
    subst z
    have pe : (pre ++ (p :: (pr2 ++ ([a] ++ po2)) ++ post)).Perm (a :: (pre ++ (p :: (pr2 ++ po2) ++ post))) := by
      refine List.perm_iff_count.mpr fun w => ?_
      simp [List.count_append, List.count_cons]
      omega
    have := (List.nodup_cons.mp (pe.nodup_iff.mp nd)).1
    refine this ?_
    simp
    rcases ha with w | w | w | w | w <;> simp [w]
  refine ⟨p, xs, q, ys, h1, hp, e.okO p hpO, (hfa.bo fun a ha => e.okO a (sub a (by simp at ha ⊢; rcases ha with w | w | w <;> simp [w]))).len, g1, hq, bo, fun ws us hus hb => ?_⟩
  have em : mns (upd H q (.lst ws)) O = mns H O := by
    funext a
    by_cases ha : a ∈ O
    · rw [mns_in ha, mns_in ha]
    · rw [mns_out ha, mns_out ha, upd_ne (fun z => ha (by rw [z]; exact hqO))]
  refine ⟨by rw [em]; exact e.r0, by rw [em]; exact e.j, e.fr, fun a ha => ?_, ?_⟩
  · by_cases w : a = q
    · rw [w]; exact ⟨_, upd_same, trivial⟩
    · rw [upd_ne w]; exact e.dm a ha
  · have hσ : σ.set n (some (.ref p)) = σ := by
      obtain ⟨hlt, e1⟩ := List.getElem?_eq_some_iff.mp h1
      rw [← e1]
      exact List.set_getElem_self hlt
    have hxs : xs.set i (.ref q) = xs := by
      obtain ⟨hlt, e1⟩ := List.getElem?_eq_some_iff.mp g1
      rw [← e1]
      exact List.set_getElem_self hlt
    have inner := g4 (upd H q (.lst ws)) (.ref q) (.list us) [q] (fun _ _ s => sqT_upd hq s) (fun a ha o z => by
      rw [upd_ne (nq a (by rcases List.mem_append.mp ha with w | w <;> simp [w]))]; exact z) (.lst upd_same (FoAll.leaves hus hb))
    rw [hxs] at inner
    have hp' : upd H q (.lst ws) p = some (.lst xs) := by rw [upd_ne (nq p (by simp))]; exact hp
    have := h4 O (upd H q (.lst ws)) (some (.ref p)) (some (.o (.list (ds.set i (.list us))))) (p :: (pr2 ++ ([q] ++ po2))) (fun y t g k z => ?_) ⟨.ref p, rfl, .lst hp' inner⟩
    · rw [hσ] at this
      exact ⟨_, this, nd, sub⟩
    · cases t with
      | none => exact z
      | some t =>
        cases t with
        | v d => exact ⟨z.1, z.2.elim fun v hv => ⟨v, hv.1, by rw [em]; exact hv.2⟩⟩
        | o d =>
          refine z.elim fun v hv => ⟨v, hv.1, hv.2.up (fun _ _ s => sqT_upd hq s) fun a ha o ho => ?_⟩
          have : a ≠ q := nq a (by rcases List.mem_append.mp (k a ha) with w | w <;> simp [w])
          rw [upd_ne this]
          exact ho
        | r y => exact z
        | d u =>
          refine z.elim fun a ⟨w1, w2, w3, w4⟩ => ⟨a, w1, w2, ?_, w4⟩
          have : a ≠ q := nq a (by rcases List.mem_append.mp (k a (by rw [w1]; simp)) with w | w <;> simp [w])
          rw [upd_ne this]
          exact w3
        | w ds =>
          refine z.elim fun a ⟨xs, w1, w2, w3, w4⟩ => ⟨a, xs, w1, w2, ?_, by rw [em]; exact w4⟩
          have : a ≠ q := nq a (by rcases List.mem_append.mp (k a (by rw [w1]; simp)) with w | w <;> simp [w])
          rw [upd_ne this]
          exact w3
end Lm


/-! choices and factorials -/
namespace Lm
open PySem PySem.Spec PyProof.Rows L2
def cho : Nat → Nat → Nat
  | _, 0 => 1
  | 0, _ + 1 => 0
  | n + 1, k + 1 => cho n k + cho n (k + 1)
end Lm


/-! products of choices -/
namespace Lm
open PySem PySem.Spec PyProof.Rows L2
def prodN : List Nat → Nat
  | [] => 1
  | a :: l => a * prodN l
/-- p things shared out, one choice after another -/
def mul2 (p : Nat) : List Nat → Nat
  | [] => 1
  | e :: es => cho p e * mul2 (p - e) es
end Lm


/-! states, their ways -/
namespace Lm
open PySem PySem.Spec PyProof.Rows L2
section
variable {X : Cx}
end
section
variable {c : Ct} {Γ : List (Option Rs)} {te ta tb : TE} {k ka kb : Kd} {u : TS} {P : Out → Prop} {n : Nat} {i j : Int}
end
def waysN (ns ls es : List Int) : Nat := prodN ((ns.zip ls).map fun p => cho p.1.toNat p.2.toNat) * mul2 es.sum.toNat (es.map Int.toNat)
/-- a state whose ways can be counted -/
structure StOk (ns ls es : List Int) : Prop where
  len : ns.length = ls.length
  l1 : ns.length ≤ 1000
  l2 : es.length ≤ 1000
  le : ∀ p ∈ ns.zip ls, 0 ≤ p.2 ∧ p.2 ≤ p.1 ∧ p.1 ≤ 20
  nn : ∀ e ∈ es, 0 ≤ e
  sum : es.sum ≤ 20
end Lm


/-! slices of tuples; min and max of lists; sorted of lists; int of a truth; sums over three lists: what is in the middle -/
namespace Lm
open PySem PySem.Spec PyProof.Rows L2
section
variable {X : Cx} {K : PySem.W.Frag} (hK : X.K = K)
include hK
end
variable {c : Ct} {H H' H0 H1 H2 H3 : Hp} {O : List Addr} {Γ Γ' Γ1 : List (Option Rs)}
variable {te ta tb tx : TE} {tl th : TO} {k ka kb : Kd} {d x y z : PyData} {i j : Int} {a b : Bool} {ds es : List PyData}
def Eo (c : Ct) (t : TO) (Γ : List (Option Rs)) (o : Option Int) : Prop :=
  ∀ H0 O H σ, Env c H0 O H σ Γ → ∀ Q : Option Int → Hp → Prop, (∀ H2, Rr c H H2 → Q o H2) → t σ H Q
theorem o_none : Eo c tNoPart Γ none := fun H0 O H σ e Q q => q H Rr.rf
theorem o_some (h : Ev c te Γ k (.int i)) : Eo c (tPart te) Γ (some i) := fun H0 O H σ e Q q => h H0 O H σ e _ fun v H2 r s => ⟨i, (Res.bo e s).int', q H2 r⟩
def cutD {α : Type} (ds : List α) (lo hi : Option Int) : List α := (ds.drop (HT.sIx ds.length 0 lo)).take (HT.sIx ds.length ds.length hi - HT.sIx ds.length 0 lo)
theorem BoAll.cut {vs : List V} {lo hi : Option Int} (h : BoAll c H vs ds) : BoAll c H (cutV vs lo hi) (cutD ds lo hi) := by
  unfold cutV cutD
  rw [h.len]
  exact (h.drop _).take _
theorem cutD_lo {α : Type} {ds : List α} {t : Nat} (h : t ≤ ds.length) : cutD ds (some (t : Int)) none = ds.drop t := by
  unfold cutD
  rw [HT.sIx_nat, HT.sIx_none, Nat.min_eq_left h]
  apply List.take_of_length_le
  simp
/-! min and max of a list -/
def mxL : List Int → Int
  | [] => 0
  | [n] => n
  | n :: m :: ns => if mxL (m :: ns) > n then mxL (m :: ns) else n
theorem mxL_mem : ∀ {ns : List Int}, 0 < ns.length → mxL ns ∈ ns
  | [n], _ => by simp [mxL]
  | n :: m :: ns, _ => by
    have := mxL_mem (ns := m :: ns) (by simp)
    unfold mxL
    split
    · exact List.mem_cons_of_mem _ this
    · simp
theorem mxL_le : ∀ {ns : List Int}, ∀ y ∈ ns, y ≤ mxL ns
  | [], _, h => nomatch h
  | [n], y, h => by rw [List.mem_singleton.mp h]; exact Int.le_refl _
  | n :: m :: ns, y, h => by
    unfold mxL
    rcases List.mem_cons.mp h with q | q
    · subst q; split <;> omega
    · have := mxL_le (ns := m :: ns) y q
      split <;> omega
/-- what is over -/
def suI (as bs cs : List Int) : Int := (medI as bs cs).sum - as.sum
def exI (as bs cs : List Int) : Int := if 0 > suI as bs cs then 0 else suI as bs cs
/-! sums over three lists -/
variable {F : Int → Int → Int → Int} {as bs cs as' bs' cs' : List Int}
variable {f g h : List Int} {v m : Int}
end Lm


/-! states, what can come next, and the ways on: the least changes -/
namespace Lm
open PySem PySem.Spec PyProof.Rows L2
abbrev gI (l : List Int) (i : Int) : Int := l.getD i.toNat 0
def lssI (p : Int) (l : List Int) : List Int := l.set p.toNat (gI l p - 1)
structure S3 where
  c : List Int
  l : List Int
  e : List Int
def optI (S : S3) (o : Int) : List Int :=
  if gI S.l o = 0 then [o] else (upI 0 S.e.length).filter fun i => decide (0 < gI S.e i) || (decide (i = o) && decide (gI S.l o < gI S.c o))
def aftI (S : S3) (o n : Int) : S3 := if n = o then ⟨lssI o S.c, S.l, S.e⟩ else ⟨lssI o S.c, lssI o S.l, lssI n S.e⟩
/-- a state that stands before the buckets f -/
structure St (v : Int) (S : S3) (f : List Int) : Prop where
  cl : (S.c.length : Int) = v
  ll : (S.l.length : Int) = v
  el : (S.e.length : Int) = v
  cs : ∀ i, 0 ≤ i ∧ i < v → gI S.c i = f.count i
  ls : ∀ i, 0 ≤ i ∧ i < v → 0 ≤ gI S.l i ∧ gI S.l i ≤ f.count i
  es : ∀ i, 0 ≤ i ∧ i < v → 0 ≤ gI S.e i ∧ (gI S.l i = 0 ∨ gI S.e i = 0)
  sum : S.l.sum = S.e.sum
  rng : ∀ n ∈ f, 0 ≤ n ∧ n < v
variable {v o n : Int} {S : S3} {f g : List Int}
theorem St.enn (h : St v S f) : ∀ n ∈ S.e, 0 ≤ n := fun n hn => by
  obtain ⟨k, hk, rfl⟩ := List.getElem_of_mem hn
  have := (h.es (k : Int) (by have := h.el; omega)).1
  unfold gI at this
  rw [Int.toNat_natCast, gd_lt hk] at this
  exact this
/-- a list comes before another, or is it -/
def lexLe : List Int → List Int → Prop
  | [], _ => True
  | _ :: _, [] => False
  | a :: as, b :: bs => a < b ∨ (a = b ∧ lexLe as bs)
theorem upI_pw (n : Nat) : (upI 0 n).Pairwise (· < ·) := by
  unfold upI
  rw [List.pairwise_map]
  refine List.pairwise_lt_range.imp fun {a b} h => ?_
  omega
/-! the state at the start -/
variable {as : List Int}
end Lm


/-! the choices of a bucket; the order of all assignments -/
namespace Lm
open PySem PySem.Spec PyProof.Rows L2
variable {v o n : Int} {S : S3} {f g f1 f2 g1 g2 as : List Int}
theorem St.front (h : St v S (f1 ++ o :: f2)) : St v S (o :: (f1 ++ f2)) := by
  have e : ∀ i : Int, (o :: (f1 ++ f2)).count i = (f1 ++ o :: f2).count i := fun i => by
    rw [List.count_cons, List.count_append, List.count_append, List.count_cons]; omega
  refine ⟨h.cl, h.ll, h.el, fun i hi => by rw [e]; exact h.cs i hi, fun i hi => by rw [e]; exact h.ls i hi, h.es, h.sum, fun n hn => h.rng n ?_⟩
  simp only [List.mem_cons, List.mem_append] at hn ⊢
  rcases hn with a | a | a
  · exact .inr (.inl a)
  · exact .inl a
  · exact .inr (.inr a)
theorem split_b {l : List Int} {b : Nat} (hb : b < l.length) : l = l.take b ++ l.getD b 0 :: l.drop (b + 1) := by
  have e : l.drop b = l.getD b 0 :: l.drop (b + 1) := by rw [List.drop_eq_getElem_cons hb, gd_lt hb]
  rw [← e, List.take_append_drop]
/-! the order of all assignments -/
def lexLt : List Int → List Int → Prop
  | a :: as, b :: bs => a < b ∨ (a = b ∧ lexLt as bs)
  | _, _ => False
theorem lexLt.le : ∀ {as bs : List Int}, lexLt as bs → lexLe as bs
  | [], _, _ => trivial
  | _ :: _, [], h => h.elim
  | a :: as, b :: bs, h => by
    unfold lexLt at h
    unfold lexLe
    rcases h with h | ⟨e, h⟩
    · exact .inl h
    · exact .inr ⟨e, h.le⟩
theorem lexLt_irr : ∀ {as : List Int}, ¬ lexLt as as
  | [], h => h.elim
  | a :: as, h => by
    unfold lexLt at h
    rcases h with h | ⟨_, h⟩
    · omega
    · exact lexLt_irr h
theorem lexLt_app {xs ys : List Int} : ∀ {as bs : List Int}, lexLt as bs → lexLt (as ++ xs) (bs ++ ys)
  | [], _, h => h.elim
  | _ :: _, [], h => h.elim
  | a :: as, b :: bs, h => by
    unfold lexLt at h
    show lexLt (a :: (as ++ xs)) (b :: (bs ++ ys))
    unfold lexLt
    rcases h with h | ⟨e, h⟩
    · exact .inl h
    · exact .inr ⟨e, lexLt_app h⟩
theorem lexLt_last {x y : Int} (h : x < y) : ∀ {as : List Int}, lexLt (as ++ [x]) (as ++ [y])
  | [] => .inl h
  | a :: as => .inr ⟨rfl, lexLt_last h⟩
theorem allL_pw (v : Int) : ∀ n, (allL v n).Pairwise lexLt
  | 0 => List.pairwise_singleton ..
  | n + 1 => by
    unfold allL
    rw [List.pairwise_flatMap]
    refine ⟨fun r _ => ?_, (allL_pw v n).imp fun {a b} h x hx y hy => ?_⟩
    · rw [List.pairwise_map]
      exact (upI_pw _).imp fun h => lexLt_last h
    · obtain ⟨i, _, rfl⟩ := List.mem_map.mp hx
      obtain ⟨j, _, rfl⟩ := List.mem_map.mp hy
      exact lexLt_app h
end Lm


/-! lists put together; promises about states, choices, and the least changes gone through -/
namespace Lm
open PySem PySem.Spec PyProof.Rows L2
section
variable {c : Ct} {H H' H0 H1 H2 H3 : Hp} {O : List Addr} {Γ Γ' Γ1 : List (Option Rs)}
variable {te ta tb tx : TE} {k ka kb : Kd} {d x y z : PyData} {i j : Int} {ds es : List PyData}
end
variable {v o n : Int} {S : S3} {f g as : List Int}
theorem St.at (h : St v S f) {b : Nat} (hb : b < f.length) : St v S (f.getD b 0 :: (f.take b ++ f.drop (b + 1))) := by
  have h' : St v S (f.take b ++ f.getD b 0 :: f.drop (b + 1)) := split_b hb ▸ h
  exact h'.front
end Lm


/-! list.index, list.count, in: over data; the first change and its promises -/
namespace L2
open PySem PySem.Spec PyProof.Rows
section
variable {X : Cx}
end
end L2
namespace Lm
open PySem PySem.Spec PyProof.Rows L2
section
variable {X : Cx} {K : PySem.W.Frag} (hK : X.K = K)
include hK
end
theorem rUnits5 {k : Nat} {A : Around} (hr : Room k A) : A.units + 65 < cLine := by have := hr.un; omega
section
variable {c : Ct} {H H' H0 H1 H2 H3 : Hp} {O : List Addr} {Γ Γ' Γ1 : List (Option Rs)}
variable {te ta tb tx : TE} {tr : TA} {k ka kb : Kd} {d x y z : PyData} {i j : Int} {ds es : List PyData}
end
/-! promises -/
variable {v o n : Int} {S : S3} {f g as : List Int}
end Lm
namespace Lm
open PySem PySem.Spec PyProof.Rows L2
end Lm
namespace Lm
open PySem PySem.Spec PyProof.Rows L2
variable {c : Ct} {Γ : List (Option Rs)} {ta tb : TE} {ka kb : Kd}
end Lm


/-! what lies between; all allocations; bridges -/
namespace Lm
open PySem PySem.Spec PyProof.Rows L2
variable {v b : Int} {f g h m x y : List Int}
/-! all allocations -/
theorem pw_nodup {l : List (List Int)} (h : l.Pairwise lexLt) : l.Nodup := by
  refine List.Pairwise.imp (fun {a b} h => ?_) h
  intro e
  rw [e] at h
  exact lexLt_irr h
end Lm


/-! all ways on from a state, in order, and their number -/
namespace Lm
open PySem PySem.Spec PyProof.Rows L2
variable {v o n : Int} {S : S3} {f g : List Int}
def waysS (S : S3) : Nat := waysN S.c S.l S.e
end Lm


/-! all ways on: by number, their numbers, the next one -/
namespace Lm
open PySem PySem.Spec PyProof.Rows L2
variable {v o n : Int} {S : S3} {f g : List Int}
/-! by number -/
def pickI (S : S3) (o : Int) : List Int → Nat → Int × Nat
  | [], i => (0, i)
  | n :: ns, i => if i < waysS (aftI S o n) then (n, i) else pickI S o ns (i - waysS (aftI S o n))
/-! the number -/
/-! the next one -/
theorem sum_le_pt : ∀ {as bs : List Int}, as.length = bs.length → (∀ j, j < as.length → as.getD j 0 ≤ bs.getD j 0) → as.sum ≤ bs.sum
  | [], [], _, _ => Int.le_refl _
  | a :: as, b :: bs, hl, h => by
    have h0 := h 0 (by simp)
    have := sum_le_pt (as := as) (bs := bs) (by simpa using hl) fun j hj => h (j + 1) (by simpa using hj)
    rw [List.sum_cons, List.sum_cons]
    have h0' : a ≤ b := h0
    omega
  | [], _ :: _, h, _ => by simp at h
  | _ :: _, [], h, _ => by simp at h
theorem St.ok (h : St v S f) (h20 : f.length ≤ 20) (h5 : v ≤ 5) : StOk S.c S.l S.e := by
  have cl := h.cl
  have ll := h.ll
  have el := h.el
  have cg : ∀ j, j < S.c.length → S.c.getD j 0 = f.count (j : Int) := fun j hj => by
    have := h.cs (j : Int) (by omega)
    unfold gI at this
    rwa [Int.toNat_natCast] at this
  have cs : S.c.sum = f.length := by
    have e : S.c = (upI 0 v.toNat).map fun i => (f.count i : Int) := by
      apply List.ext_getElem
      · simp [upI]; omega
      · intro i h1 h2
        have := cg i h1
        rw [gd_lt h1] at this
        rw [this]
        simp [upI]
    rw [e]
    exact count_sum v.toNat f fun n hn => by have := h.rng n hn; omega
  refine ⟨by omega, by omega, by omega, fun p hp => ?_, h.enn, ?_⟩
  · obtain ⟨i, hi, rfl⟩ := List.getElem_of_mem hp
    have i1 : i < S.c.length := by simp at hi; omega
    have i2 : i < S.l.length := by omega
    rw [List.getElem_zip]
    have a1 := cg i i1
    have a2 := h.ls (i : Int) (by omega)
    unfold gI at a2
    rw [Int.toNat_natCast, gd_lt i2] at a2
    rw [gd_lt i1] at a1
    have a3 : f.count (i : Int) ≤ f.length := List.count_le_length
    show 0 ≤ S.l[i] ∧ S.l[i] ≤ S.c[i] ∧ S.c[i] ≤ 20
    omega
  · rw [← h.sum]
    have := sum_le_pt (as := S.l) (bs := S.c) (by omega) fun j hj => by
      have a2 := h.ls (j : Int) (by omega)
      unfold gI at a2
      rw [Int.toNat_natCast] at a2
      have := cg j (by omega)
      omega
    omega
end Lm


/-! promises: by number, the number, the next one -/
namespace Lm
open PySem PySem.Spec PyProof.Rows L2
section
variable {X : Cx} {K : PySem.W.Frag} (hK : X.K = K)
include hK
theorem k_tru {e : Expr} {ta : TE} (ha : PE X e ta) (he : ∀ whole, isTrue e X.env whole = (do let v ← whole; standAt e.pos; holding [v] (truthy v)) := by intro _; rfl) : PT X e (fun σ H Q => ta σ H fun x H' => ∃ k, TruV K x H' k ∧ Q k H') := hK ▸ pt_truth ha he
end
section
variable {c : Ct} {Γ Γ' Γ1 : List (Option Rs)} {te ta tb : TE} {tr : TA} {u : TS} {k ka kb : Kd} {P : Out → Prop}
theorem t_truL {ds : List PyData} (h : Ev c te Γ k (.list ds)) : EvT c (fun σ H Q => te σ H fun x H' => ∃ k, TruV c.K x H' k ∧ Q k H') Γ (!ds.isEmpty) := fun H0 O H σ e Q q =>
  h H0 O H σ e _ fun v H1 r s => by
    obtain ⟨p, xs, rfl, ok, sq, al⟩ := (Res.bo e s).lst'
    refine ⟨!xs.isEmpty, .inl ⟨xs, sq, rfl⟩, ?_⟩
    have : xs.isEmpty = ds.isEmpty := by
      have := al.len
      cases xs <;> cases ds <;> simp_all
    rw [this]
    exact q H1 r
end
variable {v o n : Int} {S : S3} {f g as : List Int}
/-! the states on the way by number -/
def nS : S3 → List Int → Nat → Nat → S3 × Nat
  | S, o :: f, i, n + 1 => nS (aftI S o (pickI S o (optI S o) i).1) f (pickI S o (optI S o) i).2 n
  | S, _, i, _ => (S, i)
end Lm


/-! list(zip(a, b)), a and b tuples -/
namespace PySem.F
theorem zip_no_len : typeLookup (.type "zip") "__len__" = pure none := by rw [typeLookup_type, builtinLookup_eq_fast]; kernel_rfl
theorem zip_no_hint : typeLookup (.type "zip") "__length_hint__" = pure none := by rw [typeLookup_type, builtinLookup_eq_fast]; kernel_rfl
end PySem.F
namespace Lm
open PySem PySem.Spec PyProof.Rows L2
section
variable {prog : Program} {w : World} {A : Around} {E : Value → Shared → Prop} {s : Shared}
/-- next(z) -/
theorem pyNext_zip {z TI TO : Addr} {x : Value} {b : Bool} {Q : Option Value → Shared → Prop} (hz : IsZipX s.heap z TI TO x b)
    (h : ∀ E' : Value → Shared → Prop, wpAny (model prog w) A.in1 (Builtin.«zip.__next__» ⟨[.ref z], []⟩) (fun fin s' => ∃ v, fin = .done (.ret v) ∧ Q (some v) s') E' s) : wpAny (model prog w) A (pyNext (.ref z)) Q E s := by
  have hT : s.TypeIs (.ref z) "zip" := ⟨_, hz, rfl⟩
  unfold pyNext
  refine wpAny_bind (wpAny_attempt (wpAny_callSpecial?_slot (name := Str.ofString "__next__") hT F.slot_zip_next
    (wpAny_call_entry F.slot_zip_next hT F.entry_zip_next ?_ (F.args_zip_next_1 _))))
  refine wpAny_mono (h _) (fun fin s' ⟨v, e, q⟩ => ?_) fun _ _ y => y
  subst e
  exact ⟨v, rfl, wpAny_pure q⟩
theorem pyNext_zip_end {z TI TO i1 i2 : Addr} {x : Value} {b : Bool} {fp1 fp2 : List Addr} {n1 : Nat} {P1 : Nat → Value → Prop} {St1 : Nat → Heap → Prop} {Q : Option Value → Shared → Prop}
    (S : ZipSep2 z TI TO i1 i2 fp1 fp2) (D1 : ∀ A' : Around, A'.handled = none → Draws prog w A' i1 fp1 n1 P1 St1) (hh : A.handled = none) (hz : IsZipX s.heap z TI TO x b) (hx : x = .none ∨ ∃ T : Addr, x = rawInt T) (hTI : IsTupOf2 s.heap TI (.ref i1) (.ref i2)) (st1 : St1 n1 s.heap)
    (hQ : ∀ h', (∀ c o, c ≠ z → c ≠ i1 → s.heap.get? c = some o → h'.get? c = some o) → Q none { s with heap := h' }) : wpAny (model prog w) A (pyNext (.ref z)) Q E s := by
  have hT : s.TypeIs (.ref z) "zip" := ⟨_, hz, rfl⟩
  unfold pyNext
  refine wpAny_bind (wpAny_attempt (wpAny_callSpecial?_slot (name := Str.ofString "__next__") hT F.slot_zip_next
    (wpAny_call_entry F.slot_zip_next hT F.entry_zip_next ?_ (F.args_zip_next_1 _))))
  refine zipX_end S (D1 _ hh) hz hx hTI st1 fun h' x' he' hx' => ?_
  obtain ⟨o, ho, hc⟩ := hx'
  refine wpAny_bind (wpAny_isInstance (T := "StopIteration") (b := true) ⟨o, ho, hc⟩ isSubtype_stop ?_)
  exact wpAny_pure (hQ _ he')
/-- zip at its end: the first iterator goes on, the second has ended -/
theorem zipX_end2 {z TI TO i1 i2 : Addr} {fp1 fp2 : List Addr} {n1 n2 i : Nat} {P1 P2 : Nat → Value → Prop} {St1 St2 : Nat → Heap → Prop} {a1 a2 x : Value} {b : Bool} {Q : Fin → Shared → Prop} (S : ZipSep2 z TI TO i1 i2 fp1 fp2) (D1 : Draws prog w A i1 fp1 n1 P1 St1) (D2 : Draws prog w A i2 fp2 n2 P2 St2)
    (hz : IsZipX s.heap z TI TO x b) (hx : x = .none ∨ ∃ T : Addr, x = rawInt T) (hTI : IsTupOf2 s.heap TI (.ref i1) (.ref i2)) (hTO : IsTupOf2 s.heap TO a1 a2) (st1 : St1 i s.heap) (st2 : St2 n2 s.heap) (hlt1 : i < n1)
    (hE : ∀ h' tk e, (∀ c o, c ≠ z → c ≠ TO → c ≠ i1 → c ≠ i2 → s.heap.get? c = some o → h'.get? c = some o) → (∃ o, h'.get? e = some o ∧ o.cls = .type "StopIteration") → E (.ref e) { s with heap := h', toks := tk }) :
    wpAny (model prog w) A (Builtin.«zip.__next__» ⟨[.ref z], []⟩) Q E s := by
  obtain ⟨hp, g, d, tk0, os⟩ := s
  show wpAny _ _ (field (.ref z) 2 >>= _) _ _ _
  refine wpAny_bind (wpAny_field hz rfl (x := .bool false) rfl ?_)
  show wpAny _ _ (field (.ref z) 3 >>= _) _ _ _
  refine wpAny_bind (wpAny_field hz rfl (x := .ref TI) rfl ?_)
  refine wpAny_bind (wpAny_seqItems hTI rfl ?_)
  show wpAny _ _ (Builtin.SmallTypes.ownedTupleIsFree (.ref z) >>= _) _ _ _
  refine wpAny_bind (zipX_free hz hx ?_ fun g0 hz0 hs0 => ?_)
  · simp only [if_true]
    refine wpAny_bind (wpAny_rule (wpAny_bind (wpAny_field hz rfl (x := .ref TO) rfl ?_)))
    refine wpAny_bind (wpAny_setField_rec hz (by simp) fun g0 hz0 hs0 => ?_)
    replace hz0 : IsZipX g0 z TI TO .ellipsis b := hz0
    replace hs0 : Heap.SameBut z hp g0 := hs0
    refine wpAny_bind ?_
    simp only [List.zipIdx_cons, List.zipIdx_nil, List.forIn_cons, List.forIn_nil]
    refine wpAny_bind (wpAny_bind (wpAny_onRaise ?_))
    show wpAny _ _ (Builtin.SmallTypes.nextOf (.ref i1) >>= _) _ _ ⟨g0, g, d, tk0, os⟩
    refine wpAny_bind (D1.item i _ _ _ hlt1 (D1.over st1 hs0 S.zf1) fun x1 p1 tk1 hx1 sn1 hp1 => wpAny_pure ?_)
    replace hp1 : Heap.SameBut i1 g0 p1 := hp1
    have hU1 : IsTupOf2 p1 TO a1 a2 := hp1.extBut _ _ S.Ti1 (hs0.extBut _ _ S.TOz hTO)
    refine wpAny_bind (wpAny_seqItems (s := ⟨p1, g, d, tk1, os⟩) hU1 rfl ?_)
    refine wpAny_bind (updateSeq_IsTupOf2 (s := ⟨p1, g, d, tk1, os⟩) hU1 fun g1 hT1 hs1 => ?_)
    replace hT1 : IsTupOf2 g1 TO x1 a2 := hT1
    replace hs1 : Heap.SameBut TO p1 g1 := hs1
    refine wpAny_bind (wpAny_letGo (wpAny_pure ?_))
    refine wpAny_bind (wpAny_bind (wpAny_onRaise ?_))
    show wpAny _ _ (Builtin.SmallTypes.nextOf (.ref i2) >>= _) _ _ ⟨g1, g, d, tk1, os⟩
    refine wpAny_bind (D2.done ⟨g1, g, d, tk1, os⟩ _ _ (D2.over (D2.over (D2.over st2 hs0 S.zf2) hp1 S.sep1_2) hs1 S.Tf2) fun q e hq he => ?_)
    replace hq : Heap.ExtBut i2 g1 q := hq
    obtain ⟨oe, hoe, hce⟩ := he
    replace hoe : q.get? e = some oe := hoe
    have hz1 : IsZipX g1 z TI TO .ellipsis b := hs1.extBut _ _ S.TOz.symm (hp1.extBut _ _ S.zi1 hz0)
    have hzq : IsZipX q z TI TO .ellipsis b := hq _ _ S.zi2 hz1
    have hez : e ≠ z := fun y => by subst y; rw [hzq] at hoe; cases hoe; simp at hce
    refine wpAny_setField_rec (s := ⟨q, g, d, tk1, os⟩) hzq (by simp) fun q' _ hq' => ?_
    replace hq' : Heap.SameBut z q q' := hq'
    exact hE q' tk1 e (fun c o cz cT c1 c2 y => hq'.extBut _ _ cz (hq _ _ c2 (hs1.extBut _ _ cT (hp1.extBut _ _ c1 (hs0.extBut _ _ cz y))))) ⟨oe, hq'.extBut _ _ hez hoe, hce⟩
  · replace hs0 : Heap.SameBut z hp g0 := hs0
    simp only [Bool.false_eq_true, if_false]
    refine wpAny_bind ?_
    rw [← Array.forIn_toList]
    simp only [List.forIn_cons, List.forIn_nil]
    refine wpAny_bind (wpAny_bind (wpAny_holding ?_))
    show wpAny _ _ (Builtin.SmallTypes.nextOf (.ref i1) >>= _) _ _ ⟨g0, g, d, tk0, os⟩
    refine wpAny_bind (D1.item i _ _ _ hlt1 (D1.over st1 hs0 S.zf1) fun x1 p1 tk1 hx1 sn1 hp1 => wpAny_pure ?_)
    replace hp1 : Heap.SameBut i1 g0 p1 := hp1
    refine wpAny_pure ?_
    refine wpAny_bind (wpAny_bind (wpAny_holding ?_))
    show wpAny _ _ (Builtin.SmallTypes.nextOf (.ref i2) >>= _) _ _ ⟨p1, g, d, tk1, os⟩
    refine wpAny_bind (D2.done ⟨p1, g, d, tk1, os⟩ _ _ (D2.over (D2.over st2 hs0 S.zf2) hp1 S.sep1_2) fun q e hq he => ?_)
    replace hq : Heap.ExtBut i2 p1 q := hq
    exact hE q tk1 e (fun c o cz _ c1 c2 y => hq _ _ c2 (hp1.extBut _ _ c1 (hs0.extBut _ _ cz y))) he
theorem pyNext_zip_end2 {z TI TO i1 i2 : Addr} {x a1 a2 : Value} {b : Bool} {fp1 fp2 : List Addr} {n1 n2 i : Nat} {P1 P2 : Nat → Value → Prop} {St1 St2 : Nat → Heap → Prop} {Q : Option Value → Shared → Prop}
    (S : ZipSep2 z TI TO i1 i2 fp1 fp2) (D1 : ∀ A' : Around, A'.handled = none → Draws prog w A' i1 fp1 n1 P1 St1) (D2 : ∀ A' : Around, A'.handled = none → Draws prog w A' i2 fp2 n2 P2 St2) (hh : A.handled = none) (hz : IsZipX s.heap z TI TO x b) (hx : x = .none ∨ ∃ T : Addr, x = rawInt T) (hTI : IsTupOf2 s.heap TI (.ref i1) (.ref i2)) (hTO : IsTupOf2 s.heap TO a1 a2) (st1 : St1 i s.heap) (st2 : St2 n2 s.heap) (hlt1 : i < n1)
    (hQ : ∀ h' tk, (∀ c o, c ≠ z → c ≠ TO → c ≠ i1 → c ≠ i2 → s.heap.get? c = some o → h'.get? c = some o) → Q none { s with heap := h', toks := tk }) : wpAny (model prog w) A (pyNext (.ref z)) Q E s := by
  have hT : s.TypeIs (.ref z) "zip" := ⟨_, hz, rfl⟩
  unfold pyNext
  refine wpAny_bind (wpAny_attempt (wpAny_callSpecial?_slot (name := Str.ofString "__next__") hT F.slot_zip_next
    (wpAny_call_entry F.slot_zip_next hT F.entry_zip_next ?_ (F.args_zip_next_1 _))))
  refine zipX_end2 S (D1 _ hh) (D2 _ hh) hz hx hTI hTO st1 st2 hlt1 fun h' tk x' he' hx' => ?_
  obtain ⟨o, ho, hc⟩ := hx'
  refine wpAny_bind (wpAny_isInstance (T := "StopIteration") (b := true) ⟨o, ho, hc⟩ isSubtype_stop ?_)
  exact wpAny_pure (hQ _ _ he')
end
/-- a zip at its i-th turn -/
def ZAt (St1 St2 : Nat → Heap → Prop) (h : Heap) (z TI TO i1 i2 : Addr) (i : Nat) : Prop :=
  (∃ x bb, IsZipX h z TI TO x bb ∧ (x = .none ∨ ∃ T : Addr, x = rawInt T)) ∧ IsTupOf2 h TI (.ref i1) (.ref i2) ∧ (∃ a1 a2, IsTupOf2 h TO a1 a2) ∧ St1 i h ∧ St2 i h
theorem ZAt.at {St1 St2 : Nat → Heap → Prop} {h h' : Heap} {z TI TO i1 i2 a b : Addr} {i : Nat} (x : ZAt St1 St2 h z TI TO i1 i2 i) (f1 : (∀ c ∈ [i1, a], ∀ o, h.get? c = some o → h'.get? c = some o) → St1 i h → St1 i h') (f2 : (∀ c ∈ [i2, b], ∀ o, h.get? c = some o → h'.get? c = some o) → St2 i h → St2 i h') (k : ∀ c ∈ [z, TI, TO, i1, i2, a, b], ∀ o, h.get? c = some o → h'.get? c = some o) : ZAt St1 St2 h' z TI TO i1 i2 i := by
  obtain ⟨⟨x, bb, hz, hx⟩, hTI, ⟨a1, a2, hTO⟩, h1, h2⟩ := x
  exact ⟨⟨x, bb, k z (by simp) _ hz, hx⟩, k TI (by simp) _ hTI, ⟨a1, a2, k TO (by simp) _ hTO⟩, f1 (fun c hc => k c (by simp at hc ⊢; rcases hc with q | q <;> simp [q])) h1, f2 (fun c hc => k c (by simp at hc ⊢; rcases hc with q | q <;> simp [q])) h2⟩
/-- the tuples given out so far -/
def ZOut (h : Heap) (n0 : Nat) (its its2 : Array Value) (ts : List Addr) : Prop :=
  ts.Pairwise (· < ·) ∧ ∀ (j : Nat) (t : Addr), ts[j]? = some t → n0 ≤ t ∧ ∃ x y, its[j]? = some x ∧ its2[j]? = some y ∧ IsTupOf2 h t x y
section
variable {prog : Program} {w : World} {A : Around} {R : Result → Shared → Prop}
theorem zip_loop {z TI TO i1 i2 a b S : Addr} {its its2 : Array Value} {n0 : Nat} {St1 St2 : Nat → Heap → Prop} (Sep : ZipSep2 z TI TO i1 i2 [i1, a] [i2, b]) (D1 : ∀ A' : Around, A'.handled = none → Draws prog w A' i1 [i1, a] its.size (fun i v => its[i]? = some v) St1) (D2 : ∀ A' : Around, A'.handled = none → Draws prog w A' i2 [i2, b] its2.size (fun i v => its2[i]? = some v) St2) (hS : S ∉ [z, TI, TO, i1, i2, a, b]) (hlow : ∀ c ∈ [z, TI, TO, i1, i2, a, b, S], c < n0) (hl : its2.size = its.size ∨ its2.size + 1 = its.size) (hn : its.size ≤ sizeLine) (hh : A.handled = none) (res : Value) :
    ∀ (k i : Nat) (s : Shared) (acc : Array Value) (c : Nat) (ts : List Addr), its2.size - i = k → i ≤ its2.size → ZAt St1 St2 s.heap z TI TO i1 i2 i → s.heap.get? S = some { cls := .type "list", dict := none, data := .seq acc c, slots := #[] } → acc.toList = ts.map Value.ref → ts.length = i → ZOut s.heap n0 its its2 ts → n0 ≤ s.heap.objs.size →
    (∀ h' tk acc' c' ts', (∀ c o, c ∉ [z, TO, i1, i2, S] → s.heap.get? c = some o → h'.get? c = some o) → h'.get? S = some { cls := .type "list", dict := none, data := .seq acc' c', slots := #[] } → acc'.toList = ts'.map Value.ref → ts'.length = its2.size → ZOut h' n0 its its2 ts' → R (.ok (.ret res)) { s with heap := h', toks := tk }) →
    codeAny (model prog w) A (.builtin "list.extend.loop" ⟨[.ref S, .ref z, res], []⟩) R s := by
  intro k
  induction k with
  | zero =>
    intro i s acc c ts hk hi hst hSl hacc hts hout hn0 hR
    have hin : i = its2.size := by omega
    obtain ⟨⟨x0, bb, hz, hx0⟩, hTI, ⟨a1, a2, hTO⟩, h1, h2⟩ := hst
    refine codeAny_builtin F.entry_extend_loop ?_
    rw [Around.under_plainId F.plain_extend_loop _]
    show wpAny _ A.in1 (pyNext (.ref z) >>= _) _ _ s
    have hSz : S ≠ z := fun q => hS (by simp [q])
    have hS1 : S ≠ i1 := fun q => hS (by simp [q])
    have fin : ∀ h' tk, (∀ c o, c ≠ z → c ≠ TO → c ≠ i1 → c ≠ i2 → s.heap.get? c = some o → h'.get? c = some o) → R (.ok (.ret res)) { s with heap := h', toks := tk } := fun h' tk hk' => by
      refine hR h' tk acc c ts (fun c o hc e => hk' c o (fun q => hc (by simp [q])) (fun q => hc (by simp [q])) (fun q => hc (by simp [q])) (fun q => hc (by simp [q])) e) (hk' S _ hSz (fun q => hS (by simp [q])) hS1 (fun q => hS (by simp [q])) hSl) hacc (by omega) ⟨hout.1, fun j t ht => ?_⟩
      obtain ⟨g1, x, y, gx, gy, gt⟩ := hout.2 j t ht
      have nt : ∀ c ∈ [z, TI, TO, i1, i2, a, b, S], t ≠ c := fun c hc q => by
        have := hlow c hc
        rw [q] at g1
        exact absurd g1 (Nat.not_le.mpr this)
      exact ⟨g1, x, y, gx, gy, hk' t _ (nt z (by simp)) (nt TO (by simp)) (nt i1 (by simp)) (nt i2 (by simp)) gt⟩
    by_cases hq : its2.size = its.size
    · exact wpAny_bind (pyNext_zip_end (n1 := its.size) Sep D1 hh hz hx0 hTI (by rw [← hq, ← hin]; exact h1) fun h' hk' => wpAny_pure (fin h' s.toks fun c o c1 _ c3 _ e => hk' c o c1 c3 e))
    · exact wpAny_bind (pyNext_zip_end2 (i := i) (n2 := its2.size) Sep D1 D2 hh hz hx0 hTI hTO h1 (by rw [← hin]; exact h2) (by omega) fun h' tk hk' => wpAny_pure (fin h' tk hk'))
  | succ k ih =>
    intro i s acc c ts hk hi hst hSl hacc hts hout hn0 hR
    have hlt2 : i < its2.size := by omega
    have hlt : i < its.size := by omega
    obtain ⟨⟨x0, bb, hz, hx0⟩, hTI, ⟨a1, a2, hTO⟩, h1, h2⟩ := hst
    refine codeAny_builtin F.entry_extend_loop ?_
    rw [Around.under_plainId F.plain_extend_loop _]
    show wpAny _ A.in1 (pyNext (.ref z) >>= _) _ _ s
    have nS : ∀ c ∈ [z, TI, TO, i1, i2, a, b], S ≠ c := fun c hc q => hS (q ▸ hc)
    refine wpAny_bind (pyNext_zip hz fun E' => zipX_item Sep (D1 _ (by exact hh)) (D2 _ (by exact hh)) hz hx0 hTI hTO h1 h2 hlt (by omega) fun v1 v2 g1 tk x' b' hv1 hv2 hz' hx' hTO' s1' s2' hT hsz hk' => ?_)
    have hS1 : g1.get? S = some { cls := .type "list", dict := none, data := .seq acc c, slots := #[] } := hk' S _ (nS z (by simp)) (nS TO (by simp)) (nS i1 (by simp)) (nS i2 (by simp)) hSl
    have lowS : S < n0 := hlow S (by simp)
    show wpAny _ A.in1 (updateSeq S (·.push (Value.ref s.heap.objs.size)) >>= _) _ _ _
    refine wpAny_bind ?_
    have asz : acc.size = i := by have := congrArg List.length hacc; simp at this; omega
    have hTI' : IsTupOf2 g1 TI (.ref i1) (.ref i2) := hk' _ _ Sep.TIz Sep.TITO Sep.TIi1 Sep.TIi2 hTI
    have up : ∀ c o, c ≠ S → g1.get? c = some o → (g1.update S (Obj.mapSeq (·.push (Value.ref s.heap.objs.size)))).get? c = some o := fun c o hc e => (Heap.get?_update_other _ _ (fun q => hc q.symm)).trans e
    refine wpAny_updateSeq hS1 rfl (wpAny_pure ⟨plainId_quiet F.plain_extend_loop _, ih (i + 1) _ (acc.push (Value.ref s.heap.objs.size)) _ (ts ++ [s.heap.objs.size]) (by omega) hlt2 ?_ (Heap.get?_update_self _ hS1 rfl) (by simp [hacc]) (by simp [hts]) ?_ ?_ fun h' tk' acc' c' ts' f1 f2 f3 f4 f5 => ?_⟩)
      (by rw [asz]; omega) (by show (acc.push _).size ≤ sizeLine + 1; rw [Array.size_push, asz]; omega)
    · refine ZAt.at (h := g1) (a := a) (b := b) ⟨⟨x', b', hz', hx'⟩, hTI', hTO', s1', s2'⟩ (fun k s => (D1 A hh).frame _ _ _ s k) (fun k s => (D2 A hh).frame _ _ _ s k) fun c hc o e => up c o (fun q => ?_) e
      exact hS (q ▸ hc)
    · refine ⟨List.pairwise_append.mpr ⟨hout.1, List.pairwise_singleton .., fun t ht u hu => ?_⟩, fun j t ht => ?_⟩
      · rw [List.mem_singleton.mp hu]
        obtain ⟨j, hj⟩ := List.getElem?_of_mem ht
        obtain ⟨_, x, y, _, _, gt⟩ := hout.2 j t hj
        exact Heap.lt_size gt
      · by_cases q : j < ts.length
        · rw [List.getElem?_append_left q] at ht
          obtain ⟨g2, x, y, gx, gy, gt⟩ := hout.2 j t ht
          have nt : ∀ c ∈ [z, TI, TO, i1, i2, a, b, S], t ≠ c := fun c hc q => by
            have := hlow c hc
            rw [q] at g2
            exact absurd g2 (Nat.not_le.mpr this)
          exact ⟨g2, x, y, gx, gy, up _ _ (nt S (by simp)) (hk' t _ (nt z (by simp)) (nt TO (by simp)) (nt i1 (by simp)) (nt i2 (by simp)) gt)⟩
        · rw [List.getElem?_append_right (by omega)] at ht
          have hj : j = ts.length := by
            have := (List.getElem?_eq_some_iff.mp ht).1
            simp at this
            omega
          rw [hj, Nat.sub_self] at ht
          have et : s.heap.objs.size = t := Option.some.inj ht
          refine ⟨by rw [← et]; exact hn0, v1, v2, ?_, ?_, ?_⟩
          · rw [hj, hts]; exact hv1
          · rw [hj, hts]; exact hv2
          · rw [← et]
            refine up _ _ (fun q => ?_) hT
            rw [← q] at lowS
            exact absurd hn0 (Nat.not_le.mpr lowS)
    · show n0 ≤ (g1.update S _).objs.size
      rw [Heap.size_update, hsz]
      omega
    · refine hR h' tk' acc' c' ts' (fun c o hc e => f1 c o hc (up c o (fun q => hc (by simp [q])) (hk' c o (fun q => hc (by simp [q])) (fun q => hc (by simp [q])) (fun q => hc (by simp [q])) (fun q => hc (by simp [q])) e))) f2 f3 f4 f5
/-- what list(z) leaves -/
def ZDone (h h' : Heap) (z TO i1 i2 S : Addr) (n0 : Nat) (its its2 : Array Value) : Prop :=
  (∀ c o, c ∉ [z, TO, i1, i2, S] → h.get? c = some o → h'.get? c = some o) ∧ ∃ acc' c' ts', h'.get? S = some { cls := .type "list", dict := none, data := .seq acc' c', slots := #[] } ∧ acc'.toList = ts'.map Value.ref ∧ ts'.length = its2.size ∧ ZOut h' n0 its its2 ts'
theorem zip_extend {s : Shared} {z TI TO i1 i2 a b S : Addr} {f0 : Value} {its its2 : Array Value} {n0 : Nat} {St1 St2 : Nat → Heap → Prop} (Sep : ZipSep2 z TI TO i1 i2 [i1, a] [i2, b]) (D1 : ∀ A' : Around, A'.handled = none → Draws prog w A' i1 [i1, a] its.size (fun i v => its[i]? = some v) St1) (D2 : ∀ A' : Around, A'.handled = none → Draws prog w A' i2 [i2, b] its2.size (fun i v => its2[i]? = some v) St2) (hS : S ∉ [z, TI, TO, i1, i2, a, b]) (hlow : ∀ c ∈ [z, TI, TO, i1, i2, a, b, S], c < n0) (hl : its2.size = its.size ∨ its2.size + 1 = its.size) (hn : its.size ≤ sizeLine) (hh : A.handled = none) (res : Value) (c₀ : Nat)
    (hz : IsZip s.heap z TI TO f0) (hst : ZAt St1 St2 s.heap z TI TO i1 i2 0) (hSl : s.heap.get? S = some { cls := .type "list", data := .seq #[] c₀ }) (hn0 : n0 ≤ s.heap.objs.size)
    (hR : ∀ h' tk, ZDone s.heap h' z TO i1 i2 S n0 its its2 → R (.ok (.ret res)) { s with heap := h', toks := tk }) :
    wpAny (model prog w) A.in1 (Builtin.List.listExtendWith (.ref S) (.ref z) res)
      (fun fin s' => match fin with | .done f => R (.ok f) s' | .again c' => c'.quiet = true ∧ codeAny (model prog w) A c' R s') (fun e s' => R (.error e) s') s := by
  have hT : s.TypeIs (.ref z) "zip" := ⟨_, hz, rfl⟩
  have hSz : S ≠ z := fun q => hS (by simp [q])
  unfold Builtin.List.listExtendWith
  refine wpAny_bind (wpAny_typeOf hT ?_)
  have h1 : Builtin.List.listSameRef (.ref S) (.ref z) = false := by simp [Builtin.List.listSameRef, hSz]
  have h2 : (Value.type "zip" == Value.type "list") = false := by decide
  have h3 : (Value.type "zip" == Value.type "tuple") = false := by decide
  simp only [h1, h2, h3, Bool.or_false, Bool.false_eq_true, if_false]
  refine wpAny_bind (wpAny_pyIter_zip hz ?_)
  refine wpAny_bind (wpAny_holding ?_)
  unfold Builtin.List.listLengthHint
  refine wpAny_bind (wpAny_specialOf hT F.zip_no_len ?_)
  show wpAny _ A.in1 (specialOf (Value.ref z) (Str.ofString "__length_hint__") >>= _) _ _ _
  refine wpAny_bind (wpAny_specialOf hT F.zip_no_hint ?_)
  refine wpAny_pure ?_
  show wpAny _ A.in1 (rule "list.extend.makes-room" >>= fun _ => Builtin.List.listTouch (.ref S) >>= fun _ =>
    again (.builtin "list.extend.loop" ⟨[.ref S, .ref z, res], []⟩)) _ _ _
  refine wpAny_bind (wpAny_rule ?_)
  refine wpAny_bind ?_
  show wpAny _ A.in1 (updateSeq S (·.push .none) >>= fun _ => updateSeq S (·.pop)) _ _ _
  refine wpAny_bind (wpAny_updateSeq hSl rfl ?_)
  have hS₂ := Heap.get?_update_self (Obj.mapSeq (·.push Value.none)) hSl rfl
  refine wpAny_updateSeq (hz := by seq_fits) hS₂ rfl ?_
  have hS₃ := Heap.get?_update_self (Obj.mapSeq (·.pop)) hS₂ rfl
  have oth : ∀ b o, b ≠ S → s.heap.get? b = some o → ((s.heap.update S (Obj.mapSeq (·.push Value.none))).update S (Obj.mapSeq (·.pop))).get? b = some o :=
    fun b o hb e => (Heap.get?_update_other _ _ (Ne.symm hb)).trans ((Heap.get?_update_other _ _ (Ne.symm hb)).trans e)
  refine wpAny_pure ⟨plainId_quiet F.plain_extend_loop _, zip_loop Sep D1 D2 hS hlow hl hn hh res its2.size 0 _ _ _ [] rfl (Nat.zero_le _)
    (hst.at (a := a) (b := b) (fun k s => (D1 A hh).frame _ _ _ s k) (fun k s => (D2 A hh).frame _ _ _ s k) fun c hc o e => oth c o (fun q => hS (q ▸ hc)) e) hS₃ rfl rfl ⟨List.Pairwise.nil, fun j t ht => by simp at ht⟩ (by show n0 ≤ ((s.heap.update S _).update S _).objs.size; rw [Heap.size_update, Heap.size_update]; exact hn0) fun h' tk acc' c' ts' f1 f2 f3 f4 f5 => ?_⟩
  exact hR h' tk ⟨fun c o hc e => f1 c o hc (oth c o (fun q => hc (by simp [q])) e), acc', c', ts', f2, f3, f4, f5⟩
end
section
variable {prog : Program} {w : World} {A : Around} {E : Value → Shared → Prop} {s : Shared}
end
end Lm
namespace Lm
open PySem PySem.Spec PyProof.Rows L2
/-- the heap with the tuples told -/
def addT (H : Hp) (ts : List Addr) (its its2 : Array Value) (xs ys : List V) : Hp := fun b => if b ∈ ts then some (.frz { cls := .type "tuple", data := .seq #[its.getD (ts.idxOf b) .none, its2.getD (ts.idxOf b) .none] } (.tup [xs.getD (ts.idxOf b) .non, ys.getD (ts.idxOf b) .non])) else H b
theorem idx_at {ts : List Addr} (h : ts.Pairwise (· < ·)) {j : Nat} {t : Addr} (e : ts[j]? = some t) : ts.idxOf t = j := by
  obtain ⟨hj, e2⟩ := List.getElem?_eq_some_iff.mp e
  have hm : t ∈ ts := List.mem_of_getElem? e
  have hi := List.idxOf_lt_length_of_mem hm
  have p := List.pairwise_iff_getElem.mp h
  have eg : ts[ts.idxOf t] = t := List.getElem_idxOf _
  rcases Nat.lt_trichotomy (ts.idxOf t) j with q | q | q
  · have := p _ _ hi hj q
    rw [eg, e2] at this
    exact absurd this (Nat.lt_irrefl _)
  · exact q
  · have := p _ _ hj hi q
    rw [eg, e2] at this
    exact absurd this (Nat.lt_irrefl _)
section
variable {X : Cx} {K : PySem.W.Frag} (hK : X.K = K)
include hK
end
section
variable {c : Ct} {H H' : Hp} {Γ : List (Option Rs)} {tr : TA} {ds es : List PyData} {kv : Bool}
theorem bo_of : ∀ {vs : List V} {ds : List PyData}, vs.length = ds.length → (∀ (j : Nat) (v : V) (d : PyData), vs[j]? = some v → ds[j]? = some d → Bo c H v d) → BoAll c H vs ds
  | [], [], _, _ => .nil
  | v :: vs, d :: ds, hl, h => .cons (h 0 v d rfl rfl) (bo_of (by simpa using hl) fun j v d a b => h (j + 1) v d (by simpa using a) (by simpa using b))
  | [], _ :: _, hl, _ => by simp at hl
  | _ :: _, [], hl, _ => by simp at hl
def zipTs (ds es : List PyData) : List PyData := (ds.zip es).map fun p => .tuple [p.1, p.2]
theorem zipTs_flat (hd : flatAll ds = true) (he : flatAll es = true) : flatAll (zipTs ds es) = true := flatAll_mem fun d hd' => by
  obtain ⟨p, hp, rfl⟩ := List.mem_map.mp hd'
  have h1 := flatAll_one hd (List.of_mem_zip hp).1
  have h2 := flatAll_one he (List.of_mem_zip hp).2
  simp [flatD, flatAll, h1, h2]
end
end Lm


/-! slices of tuples or lists, a range kept in a name, enumerate of a new list -/
namespace Lm
open PySem PySem.Spec PyProof.Rows L2
def rSlU (K : PySem.W.Frag) : V → Option Int → Option Int → Hp → VK → Prop := fun x lo hi H Q => rSlN K x lo hi H Q ∨ rSlL K x lo hi H Q
section
variable {X : Cx} {tg : Expr}
end
section
variable {X : Cx} {K : PySem.W.Frag} (hK : X.K = K)
include hK
theorem k_slU : SlR X (rSlU K) := by
  subst hK
  intro pins s σ H x v vl vu lo hi sl Q I rx hs pl pu h
  rcases h with h | h
  · exact sl_tupN pins s σ H x v vl vu lo hi sl Q I rx hs pl pu h
  · exact sl_list pins s σ H x v vl vu lo hi sl Q I rx hs pl pu h
end
section
variable {c : Ct} {H H' H0 H1 H2 H3 : Hp} {O : List Addr} {Γ Γ' Γ1 : List (Option Rs)}
variable {te ta tb tx : TE} {tl th : TO} {k ka kb : Kd} {d x y z : PyData} {i j : Int} {a b : Bool} {ds es : List PyData} {u : TS} {P : Out → Prop} {n : Nat} {kv : Bool} {tr : TA}
/-- a slice of a list: a new list -/
theorem e_slL {lo hi : Option Int} (h : Ev c te Γ k (.list ds)) (h1 : Eo c tl Γ lo) (h2 : Eo c th Γ hi) (hf : flatAll ds = true) : Ev c (tSl (rSlU c.K) te tl th) Γ .o (.list (cutD ds lo hi)) := fun H0 O H σ e Q q =>
  h H0 O H σ e _ fun v H1 r1 s1 => h1 H0 O H1 σ (e.on r1) _ fun H2 r2 => h2 H0 O H2 σ ((e.on r1).on r2) _ fun H3 r3 => .inr <| by
    have r : Rr c H H3 := (r1.tr r2).tr r3
    obtain ⟨p, xs, rfl, _, s, al⟩ := (Res.bo e (Res.on e r1 (r2.tr r3) s1)).lst'
    refine ⟨p, xs, rfl, s, fun p' hp => ?_⟩
    have sm : Same H3 (upd H3 p' (.lst (cutV xs lo hi))) := fun b u z => by rw [upd_ne (ne_of_none z hp)]; exact z
    refine q _ _ (r.tr (Rr.same sm)) ⟨[p'], .lst upd_same (FoAll.leaves ?_ (al.cut.same sm)), by simp, fun b hb => ?_⟩
    · exact flatAll_mem fun d hd => flatAll_one hf (List.mem_of_mem_drop (List.mem_of_mem_take hd))
    · cases List.mem_singleton.mp hb
      exact r.back e.jH hp
end
end Lm


/-! series of allocations: their steps, losses, turns -/
namespace Lm
open PySem PySem.Spec PyProof.Rows L2
structure Ser (A : List (List Int)) (v b : Int) : Prop where
  l1 : 1 ≤ A.length
  l2 : A.length ≤ 10
  alc : ∀ a ∈ A, Alc a v b
  v1 : 1 ≤ v
  v5 : v ≤ 5
  b20 : b ≤ 20
variable {A : List (List Int)} {v b : Int}
theorem Ser.len (h : Ser A v b) : ∀ a ∈ A, a.length = v.toNat := fun a ha => by have := (h.alc a ha).len; omega
theorem Ser.at (h : Ser A v b) {i : Nat} (hi : i < A.length) : Alc (A.getD i []) v b := by
  have : A.getD i [] = A[i] := by simp [List.getD_eq_getElem?_getD, hi]
  rw [this]
  exact h.alc _ (List.getElem_mem hi)
end Lm


/-! series: the promises -/
namespace Lm
open PySem PySem.Spec PyProof.Rows L2
section
variable {c : Ct} {H H' H0 H1 H2 H3 : Hp} {O : List Addr} {Γ Γ' Γ1 : List (Option Rs)}
variable {te ta tb tx : TE} {k ka kb : Kd} {d x y z : PyData} {ds es : List PyData} {u : TS} {P : Out → Prop} {n : Nat}
end
theorem fl_rows (A : List (List Int)) : flatAll (A.map tupD) = true := flatAll_mem fun d hd => by
  obtain ⟨r, _, rfl⟩ := List.mem_map.mp hd
  exact flatT r
end Lm
namespace Lm
open PySem PySem.Spec PyProof.Rows L2
end Lm
namespace Lm
open PySem PySem.Spec PyProof.Rows L2
theorem i_seqB' {c : Ct} {Γ : List (Option Rs)} {tl : TE} {k : Kd} {ds : List PyData} {items : List Im} (h : Ev c tl Γ k (.list ds)) (hf : flatAll ds = true) (e : ds.map Im.d = items) : EvI c (iSeq c.K tl) Γ false items := e ▸ i_seqB h hf
end Lm
namespace Lm
open PySem PySem.Spec PyProof.Rows L2
end Lm
namespace Lm
open PySem PySem.Spec PyProof.Rows L2
end Lm


/-! lists that hold lists of one's own; any item of a list handed back; forms of any data -/
namespace Lm
open PySem PySem.Spec PyProof.Rows L2
section
variable {c : Ct} {H H' H0 H1 H2 H3 : Hp} {O : List Addr} {Γ Γ' Γ1 : List (Option Rs)}
variable {te ta tb tx : TE} {k ka kb kx : Kd} {d x y z : PyData} {ds es : List PyData} {u : TS} {P : Out → Prop} {n : Nat} {tr : TA} {i : Int}
/-- arguments that may hold new lists -/
def EvO (c : Ct) (tr : TA) (Γ : List (Option Rs)) (ds : List PyData) : Prop :=
  ∀ H0 O H σ, Env c H0 O H σ Γ → ∀ Q : List V → Hp → Prop, (∀ vs H2 fp, Rr c H H2 → FoAll c H2 vs ds fp → fp.Nodup → (∀ a ∈ fp, H a = none) → Q vs H2) → tr σ H Q
theorem eo_nil : EvO c tNil Γ [] := fun H0 O H σ e Q q => q [] H [] Rr.rf .nil List.nodup_nil (fun _ h => nomatch h)
theorem eo_cons (h : Ev c te Γ .o d) (g : EvO c tr Γ ds) : EvO c (tCons te tr) Γ (d :: ds) := fun H0 O H σ e Q q =>
  h H0 O H σ e _ fun v H1 r1 ⟨f1, F1, n1, new1⟩ => g H0 O H1 σ (e.on r1) _ fun vs H2 f2 r2 F2 n2 new2 => by
    refine q (v :: vs) H2 (f1 ++ f2) (r1.tr r2) (.cons (F1.up (fun _ _ s => r2.tup (e.on r1).jH s) fun a ha o z => r2.1 a o (okA.fresh e.jH (new1 a ha)) z) F2) ?_ ?_
    · rw [List.nodup_append]
      refine ⟨n1, n2, fun a ha b hb w => ?_⟩
      subst w
      obtain ⟨xs, z⟩ := F1.isL a ha
      rw [new2 a hb] at z
      cases z
    · intro a ha
      rcases List.mem_append.mp ha with w | w
      · exact new1 a w
      · exact r1.back e.jH (new2 a w)
theorem e_lstO (h : EvO c tr Γ ds) (hl : ds.length ≤ 1000000) : Ev c (tLst tr) Γ .o (.list ds) := fun H0 O H σ e Q q =>
  h H0 O H σ e _ fun vs H1 fp r F nd new => by
    have lv : vs.length = ds.length := (F.bo fun a ha => okA.fresh e.jH (new a ha)).len
    refine ⟨by rw [lv]; exact sizeOk hl, fun p hp => ?_⟩
    have sm : Same H1 (upd H1 p (.lst vs)) := fun b u z => by rw [upd_ne (ne_of_none z hp)]; exact z
    refine q _ _ (r.tr (Rr.same sm)) ⟨p :: fp, .lst upd_same (F.up (fun _ _ s => sqT_same sm s) fun a _ o z => sm a o z), List.nodup_cons.mpr ⟨fun w => ?_, nd⟩, fun a ha => ?_⟩
    · obtain ⟨xs, z⟩ := F.isL p w
      rw [hp] at z
      cases z
    · rcases List.mem_cons.mp ha with w | w
      · rw [w]; exact r.back e.jH hp
      · exact new a w
/-- any item of a list handed in -/
def sp__law_pick (K : PySem.W.Frag) : Sp := fun vs H Q _ => ∃ (st l p : Addr) (xs : List V), vs = [.ref st, .ref p] ∧ Str1 K st l H ∧ SqL K H p xs ∧ p ≠ st ∧ 0 < xs.length ∧ xs.length ≤ 1000 ∧ ∀ (i : Nat) (v : V) (H' : Hp), xs[i]? = some v → Rr (sc K st l) H H' → Q v H'
end
/-- each value once -/
def dd : List Int → List Int
  | [] => []
  | n :: l => if n ∈ l then dd l else n :: dd l
def ddN : PyData → Nat
  | .tuple ds => (dd (ds.map Lm.intD)).length
  | _ => 0
def isOrdB (x : PyData) (m : Int) : Bool := areInts x 0 (m - 1) && (decide ((lenT x : Int) = m) && decide ((ddN x : Int) = m))
end Lm
namespace Lm
open PySem PySem.Spec PyProof.Rows L2
section
variable {c : Ct} {Γ : List (Option Rs)} {t u w : TS} {P : Out → Prop}
end
end Lm
namespace Lm
open PySem PySem.Spec PyProof.Rows L2
theorem s_seqE {c : Ct} {Γ : List (Option Rs)} {t u : TS} {P : Out → Prop} (I : List (Option Rs) → Prop) (h : Sd c t Γ (fun o => ∃ Γ3, o = .nx Γ3 ∧ I Γ3)) (hd : ∀ Γ3, I Γ3 → Sd c u Γ3 P) : Sd c (tSeq t u) Γ P :=
  s_seq h (fun _ e => by obtain ⟨Γ3, e, i⟩ := e; cases e; exact hd _ i) (fun _ _ e => by obtain ⟨_, e, _⟩ := e; cases e) (fun _ e => by obtain ⟨_, e, _⟩ := e; cases e) (fun _ e => by obtain ⟨_, e, _⟩ := e; cases e)
end Lm


/-! defs that raise: promises with a second half -/
namespace Lm
open PySem PySem.Spec PyProof.Rows L2
section
variable {P : Program} {w : World} {K : PySem.W.Frag} {mg : Str → Option Value} {base : Heap} {k : Nat} {f : Addr} {fd : FuncData} {ps : List Str} {sp : Sp} {x : Str} {CX : CXT}
/-- what never raises does so in any context -/
theorem fn_up0 (F : FnOk P w K mg base CX0 k f fd ps sp) : FnOk P w K mg base CX k f fd ps sp :=
  ⟨F.len, fun A outer s H args us vs Q E hr he hb hv hs => codeAny_mono (F.run A outer s H args us vs Q E hr he hb hv hs) fun r s' h => by
    cases r with
    | ok fl => cases fl <;> exact h
    | error e => exact False.elim h⟩
theorem cal_up0 (F : Cal P w K mg base CX0 k x ps sp) : Cal P w K mg base CX k x ps sp := by
  obtain ⟨f, fd, F1, F2⟩ := F.ok
  exact ⟨f, fd, fn_up0 F1, F2⟩
end
/-- __init__ of an exception that keeps a text at x -/
def spIni (C : Addr) (x : Str) : Sp := fun vs H Q _ => ∃ (a : Addr) (nm : Str), vs = [.ref a, .str nm] ∧ nm.length ≤ 1000 ∧ H a = some (exo a C none) ∧ ∀ dx, H dx = none → dx ≠ a → Q .non (upd (upd H dx (exd dx [(x, .str nm)])) a (exo a C (some dx)))
/-- it holds, or the name is raised -/
def spReq (C : Addr) : Sp := fun vs H Q E => ∃ (b : Bool) (nm : Str), vs = [.bl b, .str nm] ∧ nm.length ≤ 1000 ∧ (b = true → Q .non H) ∧ (b = false → ∀ dx, H dx = none → E (.ref C) (some dx) (upd H dx (.xd [("name", .str nm)])))
theorem upd_end {H : Hp} {a dx : Addr} {o o2 o3 : HO} {u : HO} (ha : H a = none) (hd : dx ≠ a) : upd (del (upd (upd (upd H a o) dx o2) a o3) a) dx u = upd H dx u := by
  funext b
  by_cases h1 : b = dx
  · subst h1; rw [upd_same, upd_same]
  · rw [upd_ne h1, upd_ne h1]
    by_cases h2 : b = a
    · subst h2; rw [del_same, ha]
    · rw [del_ne h2, upd_ne h2, upd_ne h1, upd_ne h2]
/-- raise C(e) where e is a text -/
theorem mkO_req {C : Addr} {ta : TE} {σ : L2.St} {H : Hp} {Q : XK} {nm : Str} (hz : nm.length ≤ 1000) (h : ∀ Q' : VK, Q' (.str nm) H → ta σ H Q') (q : ∀ dx, H dx = none → Q (.ref C) (some dx) (upd H dx (.xd [("name", .str nm)]))) :
    tMkO C (spIni C "name") [] (tCons ta tNil) σ H Q := by
  refine h _ ⟨by simp, fun a ha => ⟨a, nm, rfl, hz, upd_same, fun dx hdx hne => ⟨rfl, dx, [("name", .str nm)], upd_same, ?_, ?_, ?_⟩⟩⟩
  · rw [upd_ne hne, upd_same]
  · rw [upd_ne hne] at hdx; exact hdx
  · rw [upd_ne hne] at hdx
    rw [upd_end ha hne]
    exact q dx hdx
end Lm
namespace Lm
open PySem PySem.Spec PyProof.Rows L2
section
variable {P : Program} {w : World} {K : PySem.W.Frag} {mg : Str → Option Value} {base : Heap} {k : Nat} {f : Addr} {fd : FuncData} {ps : List Str} {sp : Sp}
/-- nothing gets out of it -/
theorem fn_down0 (h : ∀ vs H Q E, sp vs H Q E → sp vs H Q E0) (F : FnOk P w K mg base (L2.CX P w) k f fd ps sp) : FnOk P w K mg base CX0 k f fd ps sp :=
  ⟨F.len, fun A outer s H args us vs Q E hr he hb hv hs => codeAny_mono (F.run A outer s H args us vs Q E0 hr he hb hv (h _ _ _ _ hs)) fun r s' h => by
    cases r with
    | ok fl => cases fl <;> exact h
    | error e =>
      obtain ⟨_, _, _, _, _, _, _, _, _, _, _, _, z⟩ := h
      exact z.elim⟩
end
end Lm
namespace Lm
open PySem PySem.Spec PyProof.Rows L2
section
variable {c : Ct} {H0 : Hp} {Γ : List (Option Rs)} {te : TE} {u : TS} {k : Kd} {d : PyData} {n : Nat}
/-- a body that ends in a raise: whatever stands behind -/
def SdX (c : Ct) (H0 : Hp) (t : TS) (Γ : List (Option Rs)) : Prop := ∀ O H σ D, Env c H0 O H σ Γ → t D σ H
theorem x_drop (h : Ev c te Γ k d) (p : SdX c H0 u Γ) : SdX c H0 (tSeq (tDrop te) u) Γ := fun O H σ D e => h H0 O H σ e _ fun v H2 r q => p O H2 σ D (e.on r)
theorem x_asg (h : Ev c te Γ .v d) (p : SdX c H0 u (Γ.set n (some (.v d)))) : SdX c H0 (tSeq (tAsg te (gName n)) u) Γ := fun O H σ D e => h H0 O H σ e _ fun v H2 r q => p _ H2 _ D ((e.on r).setV q)
theorem x_req {K : PySem.W.Frag} {C : Addr} {nm : Str} {E : XK} (hz : nm.length ≤ 1000) (hE : ∀ dx H1, Same H0 H1 → H1 dx = some (.xd [("name", .str nm)]) → E (.ref C) (some dx) H1) (h : Ev (pc K) te Γ k (.bool false)) : SdX (pc K) H0 (tSeq (tDrop (tCall (spReq C) [] E (tCons te (tCons (tC (.str nm)) tNil)))) u) Γ := fun O H σ D e =>
  h H0 O H σ e _ fun v H1 r s => ⟨false, nm, by rw [(Res.bo e s).bl']; rfl, hz, (fun w => nomatch w), fun _ dx hdx => hE dx _ (fun a o z => by
    have z1 : H1 a = some o := (e.rH.tr r).1 a o (fun _ _ w => nomatch w) z
    rw [upd_ne (ne_of_none z1 hdx)]
    exact z1) upd_same⟩
end
end Lm


/-! __init__ of an exception class two below ValueError: super().__init__(..) and what stands behind it -/
namespace PySem.W
open PySem PySem.Calls PyProof.Rows PyProof.V PySem.Spec
theorem call_mwr {prog : Program} {w : World} {A : Around} {E : Value → Shared → Prop} {h : Heap} {g : Array GenState} {d : Drawn} {t : Nat} {os : OsState} {nm q : Str} {C N u e t0 : Addr} {bs bm bmB : List Value} {hdct : Bool} {sn : List Str} {sub : List Value} {ab : Bool} {col : Option Bool} {dd dv : Option Addr}
    {k0 k1 k2 k3 k5 : Option Value} {c2 : Value} {B newId i : String} {rest : List Value} {Q : Value → Shared → Prop} (FB : ExcBaseFacts B newId i bmB) (hC : h.get? C = some (excClassObj nm q C N bs bm hdct sn sub ab col dd k0 k1 k2 k3 k5 newId))
    (he : h.get? e = some (excObj C t0 dv c2)) (hu : h.get? u = some (kxs_mw i e)) (hz : rest.length ≤ sizeLine)
    (fin : ∀ h', (∀ b o, b ≠ e → h.get? b = some o → h'.get? b = some o) → h'.get? e = some (excObj C h.objs.size dv c2) → Q .none ⟨h', g, d, t, os⟩) : wpAny (model prog w) A (call (.ref u) rest) Q E ⟨h, g, d, t, os⟩ := by
  refine wpAny_call (codeAny_of_tree ?_)
  show wpAny _ A.in1 (callAny (.ref u) ⟨rest, []⟩) _ _ _
  simp only [callAny]
  refine wpAny_bind (wpAny_load hu ?_)
  simp only [kxs_mw, show (Value.type "method-wrapper" == Value.type "method" || Value.type "method-wrapper" == Value.type "builtin_function_or_method" || Value.type "method-wrapper" == Value.type "method-wrapper") = true by decide, if_true]
  refine KFB.if_so (by decide) ?_
  refine wpAny_bind (check_bound_init FB.toExcCallFacts hC he rfl ?_)
  refine wpAny_bind (wpAny_pure (wpAny_pure ?_))
  refine ⟨plainId_quiet FB.init.plain _, codeAny_builtin FB.initEntry ?_⟩
  exact exc_init_tree (cls := .ref C) (t0 := t0) (dv := dv) (c2 := c2) (c3 := .none) (b4 := .bool false) he hz fun h' k e' _ => fin h' k e'
end PySem.W
namespace Lm
open PySem PySem.Spec PyProof.Rows L2
/-- the context of such a def's body: the class's cell is free in it -/
def cxF (CX : CXT) (P : Program) (w : World) (K : PySem.W.Frag) (mg : Str → Option Value) (base : Heap) (N : List Str) (qual : Str) (scope : Scope) (f : Addr) (cd : Value) (cc : Addr) (A : Around) (outer : List PySem.Env) (s : Shared) (H : Hp) (E : XK) : Cx where
  prog := P
  w := w
  K := K
  mg := mg
  base := base
  A := A.deeper (PySem.W.ksEnv qual scope s.heap.objs.size f cd cc)
  N := N
  s_0 := s
  H_0 := H
  env := PySem.W.ksEnv qual scope s.heap.objs.size f cd cc
  outer := outer
  stack := PySem.W.ksEnv qual scope s.heap.objs.size f cd cc :: outer
  ex := []
  calm := true
  fn := fun _ => false
  pn := []
  xe := fun e s' => wpAny (model P w) (A.deeper (PySem.W.ksEnv qual scope s.heap.objs.size f cd cc)) (leaving (PySem.W.ksEnv qual scope s.heap.objs.size f cd cc) e) (fun _ s'' => CX outer H s E e s'') (fun e' s'' => CX outer H s E e' s'') s'
/-- its scope -/
structure IniScope (N P : List Str) (sc : Scope) : Prop where
  kind : sc.kind = .function
  co : sc.isCoroutine = false
  gen : sc.isGenerator = false
  nd : N.Nodup
  pre : N.take P.length = P
  par : ∀ x ∈ P, sc.names.lookup x = some .local
  nocell : ∀ y ∈ sc.names, y.2 ≠ .cell
  free : ∀ y ∈ sc.names, y.2 = .free → y.1 = "__class__"
  sup : sc.names.lookup ("super" : Str) = some .globalImplicit
  cls : sc.names.lookup ("__class__" : Str) = some .free
theorem lookup_mem : ∀ {l : List (Str × Value)} {x : Str} {v : Value}, (l.map (·.1)).Nodup → (x, v) ∈ l → l.lookup x = some v
  | [], _, _, _, h => nomatch h
  | (y, u) :: l, x, v, nd, h => by
    have nd' := List.nodup_cons.mp nd
    by_cases e : x = y
    · subst e
      rcases List.mem_cons.mp h with z | z
      · cases z; simp [List.lookup]
      · exact absurd (List.mem_map_of_mem (f := (·.1)) z) nd'.1
    · have e' : (x == y) = false := by simpa using e
      rcases List.mem_cons.mp h with z | z
      · cases z; exact absurd rfl e
      · simp only [List.lookup, e']
        exact lookup_mem nd'.2 z
theorem cell1 {x : Str} {c cc : Addr} (h : [(("__class__" : Str), cc)].lookup x = some c) : x = "__class__" ∧ c = cc := by
  by_cases e : x = "__class__"
  · subst e
    exact ⟨rfl, (Option.some.inj (by simpa [List.lookup] using h)).symm⟩
  · have e' : (x == ("__class__" : Str)) = false := by simpa using e
    simp [List.lookup, e'] at h
theorem inv_startF {CX : CXT} {P : Program} {w : World} {K : PySem.W.Frag} {mg : Str → Option Value} {base : Heap} {N ps : List Str} {qual : Str} {scope : Scope} {f cc : Addr} {cd : Value} {A : Around} {outer : List PySem.Env} {s : Shared} {h1 : Heap} {tk : Nat} {H : Hp} {E : XK} {us : List Value} {vs : List V} {cl : Value} {cld : Option Addr} {cv : Option Value} {csl : Array (Option Value)}
    (S : IniScope N ps scope) (hcell : K.lookup cc = some ⟨cl, cld, .cell cv, csl⟩) (hd : A.handled = none) (e0 : Env0 P w K mg base A outer s H) (hl : vs.length = ps.length) (r : Vals vs us)
    (hns : h1.Ns s.heap.objs.size (fun x => (ps.zip us).reverse.lookup x)) (hk : ∀ b o, s.heap.get? b = some o → h1.get? b = some o) :
    Inv (cxF CX P w K mg base N qual scope f cd cc A outer s H E) [] (L2.start N vs) H { s with heap := h1, toks := tk } := by
  have hpl : ps.length ≤ N.length := by have := congrArg List.length S.pre; rw [List.length_take] at this; omega
  have hb : base.get? cc = some ⟨cl, cld, .cell cv, csl⟩ := e0.mod.kin _ _ hcell
  have hs := e0.bs _ _ hb
  have noA : ∀ b : Addr, b ∉ (cxF CX P w K mg base N qual scope f cd cc A outer s H E).ex := fun b z => absurd (show b ∈ ([] : List Addr) from z) (by simp)
  refine ⟨⟨e0.mod, S.kind, rfl, rfl, Nat.le_refl _, fun y z c p q => ((cell1 p).1.trans (cell1 q).1.symm), fun y hy => ?_, fun y c z _ => (nomatch z), fun _ => hd, Around.frames_deeper e0.frames, .inr ⟨rfl, rfl⟩, fun b z => absurd z (noA b), e0.bs, e0.bsz, fun b _ _ => noA b, fun b z => absurd z (noA b), e0.funs, e0.frf⟩,
    rfl, e0.bare, Un.kept hk, ⟨_, hns, fun i y v p q z => ?_⟩, fun y c z => ?_, e0.hok.fresh (Nat.le_refl _), fun y c z => ?_, fun p hp => absurd (show p ∈ ([] : List (Addr × Obj)) from hp) (by simp), e0.hok.kept hk, ?_⟩
  · have hy : scope.names.lookup y = some .cell ∨ scope.names.lookup y = some .free := hy
    rcases hy with hy | hy
    · exact absurd rfl (S.nocell _ (PySem.mem_of_lookup hy))
    · have e := S.free _ (PySem.mem_of_lookup hy) rfl
      exact ⟨cc, by
        have e' : y = "__class__" := e
        subst e'
        show [(("__class__" : Str), cc)].lookup ("__class__" : Str) = some cc
        simp [List.lookup]⟩
  · have hi : i < vs.length := by
      unfold L2.start at q
      by_cases hi : i < vs.length
      · exact hi
      · rw [List.getElem?_append_right (by simpa using hi), List.getElem?_replicate] at q
        split at q <;> cases q
    have ha : vs[i]? = some v := by
      unfold L2.start at q
      rw [List.getElem?_append_left (by simpa using hi), List.getElem?_map] at q
      cases e : vs[i]? with
      | none => rw [e] at q; cases q
      | some a => rw [e] at q; cases q; rfl
    obtain ⟨u, hu, rv⟩ := r.get ha
    have hp : ps[i]? = some y := by
      rw [← S.pre, List.getElem?_take_of_lt (by omega)]; exact p
    have ndP : ps.Nodup := by rw [← S.pre]; exact S.nd.sublist (List.take_sublist _ _)
    have ml : (y, u) ∈ ps.zip us := by
      have : (ps.zip us)[i]? = some (y, u) := by rw [List.getElem?_zip_eq_some]; exact ⟨hp, hu⟩
      exact List.mem_of_getElem? this
    have lz : us.length = ps.length := by rw [← hl, Paired.length r]
    refine ⟨u, rv, .inl ⟨S.par y (List.mem_of_getElem? hp), lookup_mem ?_ (List.mem_reverse.mpr ml)⟩⟩
    rw [List.map_reverse, List.map_fst_zip (by omega)]
    exact (List.reverse_perm ps).nodup_iff.mpr ndP
  · obtain ⟨_, rfl⟩ := cell1 z
    exact ⟨cv, _, hk _ _ hs.1, rfl⟩
  · obtain ⟨_, rfl⟩ := cell1 z
    exact hs.2
  · unfold L2.start
    show _ = N.length
    rw [List.length_append, List.length_map, List.length_replicate]
    omega

theorem super_boot : bootBuiltins "super" = some (.type "super") := by first | rfl | decide +kernel
/-- THE RULE: super().__init__(e), then the rest of the body -/
theorem fn_super {CX : CXT} {P : Program} {w : World} {K : PySem.W.Frag} {mg : Str → Option Value} {base : Heap} {k : Nat} {f C cc cda : Addr} {name qual : Str} {params : Arguments} {scope : Scope} {dV kV doc pm ct oc : Value} {an od : Option Addr} {osl : Array (Option Value)} {N ps : List Str} {sp : Sp}
    {p0 p1 p2 p3 p4 : Pos} {e : Expr} {rest : List Stmt} {ar : Arg} {vs : Array Value} {file : Str} {tf : Tok} {ccl cl : Value} {cdd cld : Option Addr} {ccs csl : Array (Option Value)}
    (lk : K.lookup f = some ⟨oc, od, .func (PySem.W.ksFn name qual params (.Expr (.Call (.Attribute (.Call (.Name "super" p0) [] [] p1) "__init__" p2) [e] [] p3) p4 :: rest) scope dV kV doc pm an (.ref cda) ct cc), osl⟩)
    (hcd : PySem.W.codeIn K (.ref cda) qual = true) (S : IniScope N ps scope) (hp : (params.posonlyargs ++ params.args).head? = some ar) (h0 : ps[0]? = some ar.arg)
    (hcode : K.lookup cda = some ⟨ccl, cdd, .fields vs, ccs⟩) (hvs : vs[2]? = some (.str file tf)) (hfile : ((P.main.file : Str) == file) = true) (hcell : K.lookup cc = some ⟨cl, cld, .cell (some (.ref C)), csl⟩)
    (T : OexC K C) (hsuper : mg "super" = none) (hsub : PySem.W.subIn K (.ref C) (.type "ValueError") = some true) (hop : PySem.W.nsIn K cStatics "thirdparty.any" = some none)
    (hm : PySem.W.ks_superIn K C C "__init__" = some (some (.builtin "ValueError.__init__"))) (htop : (P.main.scope.names.lookup ("super" : Str)).isSome = false)
    (len : ∀ vs H Q E, sp vs H Q E → vs.length = ps.length)
    (hbody : ∀ (A : Around) (outer : List PySem.Env) (s : Shared) (H : Hp) (vs : List V) (Q : VK) (E : XK), Room k (A.deeper (PySem.W.ksEnv qual scope s.heap.objs.size f (.ref cda) cc)) → sp vs H Q E →
      ∃ (a : Addr) (ws : List V) (te : TE) (t : TS), vs = .ref a :: ws ∧ H a = some (exo a C none) ∧ PE (cxF CX P w K mg base N qual scope f (.ref cda) cc A outer s H E) e te ∧ PSs (cxF CX P w K mg base N qual scope f (.ref cda) cc A outer s H E) rest t ∧
        te (L2.start N vs) H fun _ H1 => H1 a = some (exo a C none) ∧ t { nx := fun _ H' => Q .non H', rt := Q } (L2.start N vs) H1)
    {pl : PySem.Env → Sem Bool}
    (hme : ∀ env : PySem.Env, eval (.Call (.Attribute (.Call (.Name "super" p0) [] [] p1) "__init__" p2) [e] [] p3) env = (do
      let ov ← attributeBase (.Call (.Name "super" p0) [] [] p1) "__init__" env (eval (.Call (.Name "super" p0) [] [] p1) env)
      standAt p2.atName
      let (f, first) ← holding [ov] (getMethod ov "__init__" (pl env))
      callWith p3 f first (backTo p3 (starEach [e] env)) []) := by intro env; rfl)
    (he : ∀ env : PySem.Env, starEach [e] env = [(false, eval e env)] := by intro env; rfl) :
    FnOk P w K mg base CX (k + 1) f (PySem.W.ksFn name qual params (.Expr (.Call (.Attribute (.Call (.Name "super" p0) [] [] p1) "__init__" p2) [e] [] p3) p4 :: rest) scope dV kV doc pm an (.ref cda) ct cc) ps sp := by
  refine ⟨len, fun A outer s H args us vs Q E hr e0 hb r hsp => ?_⟩
  have hl := len _ _ _ _ hsp
  have KX : K.In s.heap := e0.mod.kin.keeps fun b o e => (e0.bs b o e).1
  have lim : s.heap.NoLimit := e0.mod.nolimit.keeps fun b o e => (e0.bs b o e).1
  refine ks_codeAny_call_defAt (fd := PySem.W.ksFn name qual params (.Expr (.Call (.Attribute (.Call (.Name "super" p0) [] [] p1) "__init__" p2) [e] [] p3) p4 :: rest) scope dV kV doc pm an (.ref cda) ct cc) (binds := ps.zip us) hr.depth (KX _ _ lk) rfl lim (PySem.W.codeRec_of KX hcd) rfl hb S.nocell
    (fun y hy => S.par _ (List.of_mem_zip (a := y.1) (b := y.2) hy).1) (fun h1 hns hk => ?_) S.co S.gen S.kind
  obtain ⟨a, ws, te, t, ev, ha, hpe, hps, hq⟩ := hbody A outer s H vs Q E (hr.deeper _) hsp
  have I := inv_startF (CX := CX) (w := w) (mg := mg) (qual := qual) (f := f) (cd := .ref cda) (tk := s.toks + (ps.zip us).length) (E := E) S hcell hr.hd e0 hl r hns hk
  show PySem.wpAt (model P w) (A.deeper (PySem.W.ksEnv qual scope s.heap.objs.size f (.ref cda) cc)) (.func _ (PySem.W.ksEnv qual scope s.heap.objs.size f (.ref cda) cc)) (execs _ (PySem.W.ksEnv qual scope s.heap.objs.size f (.ref cda) cc)) _ _ _
  refine ks_wpAt_execs_cons (ks_wpAt_Expr_any (ks_wpAt_MethodCall ?_ (hme _)) I.quiet (by rfl))
  obtain ⟨t1, hoe⟩ := exo_at e0.hok ha
  obtain ⟨nm, qn, Nn, bs, bm, sn, sub, ab, col, dd, k0, k1, k2, k3, k5, hC, hbm⟩ := T.cls
  have hcl : PySem.W.clsIn K C = some { name := nm, bases := bs, mro := .ref C :: bm, ns := Nn, qualname := qn, hasDict := true, slotNames := sn, subclasses := sub, abstract := ab, collection := col, hasDel := false } := by unfold PySem.W.clsIn; rw [hC] <;> rfl
  have hmro : PySem.W.mroIn K C (.ref C) = some true := by
    unfold PySem.W.mroIn
    rw [hcl, Option.bind_some, if_neg (show ¬ (List.isEmpty (Value.ref C :: bm) = true) from Bool.false_ne_true)]
    simp
  have KI := I.kIn
  have hsf : N[0]? = some ar.arg := by
    have h1 : ps.length ≠ 0 := fun z => by rw [List.length_eq_zero_iff.mp z] at h0; cases h0
    rw [← S.pre, List.getElem?_take_of_lt (by omega)] at h0
    exact h0
  have hk0 := S.par _ (List.mem_of_getElem? h0)
  refine ks_wpAt_super_base (env := PySem.W.ksEnv qual scope s.heap.objs.size f (.ref cda) cc) S.sup S.cls (by decide) rfl (KI _ _ lk) rfl hp rfl (KI _ _ hcode) rfl hvs hfile htop ?_
  obtain ⟨mb, b1, b2⟩ := I.mod.blt
  refine PySem.W.ks_loadName_global S.kind S.sup (Calls.loadGlobal_builtin (env := PySem.W.ksEnv qual scope s.heap.objs.size f (.ref cda) cc) (I.mod.glob.keeps I.bk) hsuper (b1.keeps I.bk) ((b2 _ (by decide)).trans super_boot) ⟨rfl, ?_⟩)
  refine wpAny_loadName_free S.kind S.cls rfl ⟨_, KI _ _ hcell, rfl⟩ ?_
  obtain ⟨m, hn, hlk⟩ := I.loc
  have hself : m ar.arg = some (.ref a) := by
    obtain ⟨u, ru, l⟩ := hlk 0 ar.arg (.ref a) hsf (by rw [ev]; rfl) (.inl hk0)
    obtain rfl : u = Value.ref a := ru
    rcases l with l | ⟨l, _⟩
    · exact l.2
    · have l' : scope.names.lookup ar.arg = some .cell ∨ scope.names.lookup ar.arg = some .free := l
      rw [hk0] at l'
      rcases l' with z | z <;> cases z
  refine wpAny_loadName_local S.kind hk0 hn hself ?_
  refine ks_wpAny_isType_cls (KI _ _ hC) rfl ⟨rfl, ?_⟩
  refine ks_wpAny_call_super (KI _ _ hC) rfl (hk _ _ hoe) rfl (fun c z => by cases z) (PySem.W.looks_mroIn KI hmro) (fun h2 e2 kk2 => ?_)
  have I2 := I.kept (t' := s.toks + (ps.zip us).length) kk2
  have KI2 := I2.kIn
  have hxC : a ≠ C := fun z => by
    have := (I2.bs C _ (e0.mod.kin _ _ hC)).2
    rw [← z, ha] at this
    cases this
  have hI : PySem.W.InstAt h2 a _ C none := ⟨kk2 _ _ (hk _ _ hoe), rfl, rfl, trivial⟩
  unfold PySem.W.ks_superIn at hm
  rw [hcl] at hm
  refine PySem.W.kxs_getMethod PySem.W.kxs_ValueError e2 (PySem.W.looks_opaque KI2 hop) (l₀ := .ref C :: bm) (fun A Q E s k q => wpAny_bind ((PySem.W.looks_clsIn KI2 hcl) A _ E s k (wpAny_pure q))) rfl KI2 hm (hI.type.andThen (PySem.W.looks_subIn KI2 hsub)) hxC (by decide) ?_
  have hu : (h2.push (PySem.W.kxs_mw "ValueError.__init__" a)).get? h2.objs.size = some (PySem.W.kxs_mw "ValueError.__init__" a) := Heap.get?_push_at rfl rfl
  have I3 := I2.kept (h' := h2.push (PySem.W.kxs_mw "ValueError.__init__" a)) (t' := s.toks + (ps.zip us).length + 1) (fun b o z => Heap.get?_push_of_some _ z)
  have I4 := I3.pins_of (pins' := [(h2.objs.size, PySem.W.kxs_mw "ValueError.__init__" a)]) (fun p hp => by
    have ep : p = (h2.objs.size, PySem.W.kxs_mw "ValueError.__init__" a) := by simpa using hp
    subst ep
    refine ⟨hu, I2.hok.fresh (Nat.le_refl _), fun z => ?_, I2.nofs (Nat.le_refl _), fun v z => by cases z⟩
    have y := I2.lt
    rw [← z] at y
    exact Nat.lt_irrefl _ y)
  show PySem.wpAny _ _ (callWith p3 (.ref h2.objs.size) [] (backTo p3 (starEach [e] (PySem.W.ksEnv qual scope s.heap.objs.size f (.ref cda) cc))) []) _ _ _
  rw [he]
  refine PySem.W.kxs_callWith (i := "ValueError.__init__") (x := a) rfl (Calls.evalArgs_plain ?_)
  refine Calls.spliced_cons (thn (hpe.run _ _ _ _ _ I4 hq) fun u1 s1 ⟨x, H1, I5, r1, ea, q1⟩ => Calls.spliced_nil ⟨(I5.pin (h2.objs.size, PySem.W.kxs_mw "ValueError.__init__" a) (List.mem_append_right _ (by simp))).1, ?_⟩)
  obtain ⟨hp', g, d, tk, os⟩ := s1
  obtain ⟨t2, ho⟩ := exo_at I5.hok ea
  refine PySem.W.call_mwr F.excBase_ValueError (I5.kIn _ _ hC) ho (I5.pin (h2.objs.size, PySem.W.kxs_mw "ValueError.__init__" a) (List.mem_append_right _ (by simp))).1 (by show 1 ≤ sizeLine; rw [sizeLine_eq]; omega) (fun h' k' e' => ?_)
  have J := I5.write (t' := tk) (x := a) (e := a) (o := exo a C none) (by rw [ea]; exact True.intro) (.inl rfl) k' ⟨_, e'⟩ (exo_ok e')
  have eu : upd H1 a (exo a C none) = H1 := by
    funext b
    by_cases hb : b = a
    · rw [hb, upd_same, ea]
    · rw [upd_ne hb]
  rw [eu] at J
  have J0 := J.pins_of (pins' := []) (fun p hp => by simp at hp)
  refine wpAt_of_wpAny (wpAny_mono (hps.run [] _ _ _ _ J0 q1) (fun fl s' hs => ?_) fun e s' hs => hs)
  cases fl with
  | ret u =>
    obtain ⟨v, σ', H', J, rv, q⟩ := hs
    exact ⟨v, H', J.os, J.bare, J.base, J.hok, rv, q⟩
  | next =>
    obtain ⟨σ', H', J, q⟩ := hs
    exact ⟨V.non, H', J.os, J.bare, J.base, J.hok, rfl, q⟩
  | brk =>
    obtain ⟨_, _, _, q⟩ := hs
    exact False.elim q
  | cont =>
    obtain ⟨_, _, _, q⟩ := hs
    exact False.elim q

theorem exm_self {K : PySem.W.Frag} {C : Addr} {cd : ClassData} (xb : PySem.W.subIn K (.ref C) (.type "BaseException") = some true) (hc : PySem.W.clsIn K C = some cd) (xt : PySem.W.typeIn K (.ref C) = some (.type "type")) (hs : PySem.W.subIn K (.ref C) (.ref C) = some true) :
    PySem.W.exmOne K (.ref C) (.ref C) = some true := by
  unfold PySem.W.exmOne PySem.W.kitCls
  rw [if_pos (by rw [xb]; rfl)]
  show (if ((PySem.W.clsIn K C).isSome && PySem.W.typeIn K (.ref C) == some (.type "type")) = true then PySem.W.subIn K (.ref C) (.ref C) else none) = some true
  rw [hc, xt, hs]
  rfl
/-- what is known of an exception class that keeps a text -/
structure Exc1 (P : Program) (w : World) (K : PySem.W.Frag) (mg : Str → Option Value) (base : Heap) (cls fld : Str) (C : Addr) : Prop where
  O : OexC K C
  X : XfC K C
  hC : mg cls = some (.ref C)
  no : PySem.W.findIn K (.ref C) fld = some none
  exm : PySem.W.exmOne K (.ref C) (.ref C) = some true
  ini : ∃ fI fdI, PySem.W.findIn K (.ref C) "__init__" = some (some (.ref fI)) ∧ PySem.W.typeIn K (.ref fI) = some (.type "function") ∧ FnOk P w K mg base (L2.CX P w) 1 fI fdI ["self", fld] (spIni C fld) ∧ Binds K fdI ["self", fld] []
/-- the readings of such an __init__ -/
theorem run_ini {K : PySem.W.Frag} {C a : Addr} {pre fld nm : Str} {σ : L2.St} {H : Hp} {Q : VK} {D : Ends} (hp : pre.length ≤ 1000) (hz : nm.length ≤ 1000) (O : OexC K C) (hno : PySem.W.findIn K (.ref C) fld = some none) (s0 : σ[0]? = some (some (.ref a))) (s1 : σ[1]? = some (some (.str nm)))
    (ha : H a = some (exo a C none)) (hq : ∀ dx, H dx = none → dx ≠ a → D.nx σ (upd (upd H dx (exd dx [(fld, .str nm)])) a (exo a C (some dx)))) :
    tJs [tC (.str pre), tFmt (tVar 1)] Str.empty σ H fun out H1 => H1 a = some (exo a C none) ∧ tOst K fld (tVar 0) (tVar 1) D σ H1 := by
  have e0 : Str.empty.length = 0 := by decide
  refine ⟨pre, rfl, ?_, .str nm, s1, .inl ⟨nm, rfl, ?_, nm, rfl, ?_, ha, .str nm, s1, .ref a, s0, a, C, rfl, O, hno, .inl ⟨ha, hq⟩⟩⟩
  · rw [PySem.Str.length_append, sizeLine_eq]; omega
  · rw [sizeLine_eq]; omega
  · rw [PySem.Str.length_append, PySem.Str.length_append, sizeLine_eq]; omega
end Lm


/-! tuple * int, any int from 0 on -/
namespace L2
open PySem PySem.Spec PyProof.Rows
end L2
namespace Lm
open PySem PySem.Spec PyProof.Rows L2
section
variable {X : Cx}
end
end Lm
namespace Lm
open PySem PySem.Spec PyProof.Rows L2
section
variable {X : Cx} {K : PySem.W.Frag} (hK : X.K = K)
include hK
end
section
variable {c : Ct} {Γ : List (Option Rs)} {ta tb : TE} {ka kb : Kd} {ds : List PyData} {i : Int}
end
end Lm


/-! intervals: one variant after another -/
namespace Lm
open PySem PySem.Spec PyProof.Rows L2
/-- the assignment by intervals -/
def runL (as os : List Int) : List Int := os.flatMap fun o => List.replicate (gI as o).toNat o
theorem runL_cons {as os : List Int} {o : Int} : runL as (o :: os) = List.replicate (gI as o).toNat o ++ runL as os := rfl
def shL (as os : List Int) : List Int := os.map (gI as)
theorem gI_nn {as : List Int} (h : ∀ n ∈ as, 0 ≤ n) (o : Int) : 0 ≤ gI as o := by
  unfold gI
  rw [List.getD_eq_getElem?_getD]
  cases e : as[o.toNat]? with
  | none => simp
  | some x => simpa using h x (List.mem_of_getElem? e)
theorem runL_len {as : List Int} (h : ∀ n ∈ as, 0 ≤ n) : ∀ os : List Int, ((runL as os).length : Int) = (shL as os).sum
  | [] => rfl
  | o :: os => by
    have := runL_len h os
    have := gI_nn h o
    rw [runL_cons, List.length_append, List.length_replicate]
    simp only [shL, List.map_cons, List.sum_cons] at *
    omega
theorem shL_sum {as os : List Int} {v b : Int} (h : Alc as v b) (o : IsOrd os v) : (shL as os).sum = b := by
  have hl : os.length = as.length := by have := h.len; have := o.len; omega
  have p : (shL as (upI 0 os.length)).sum = (shL as os).sum := perm_sum (o.perm.map _)
  rw [← p, ← h.sum, ← sum_range (ns := as), hl]
  unfold shL upI gI
  rw [List.map_map]
  congr 1
  apply List.map_congr_left
  intro j hj
  show as.getD (0 + (j : Int)).toNat 0 = as.getD j 0
  rw [Int.zero_add, Int.toNat_natCast]
theorem runL_length {as os : List Int} {v b : Int} (h : Alc as v b) (o : IsOrd os v) : ((runL as os).length : Int) = b := by
  rw [runL_len h.nn, shL_sum h o]
/-! promises -/
end Lm


/-! readings that the intervals want -/
namespace Lm
open PySem PySem.Spec PyProof.Rows L2
theorem cutD_last {α : Type} {ds : List α} : cutD ds none (some (-1)) = ds.dropLast := by
  show (ds.drop 0).take ((if (-1 : Int) < 0 then ((-1 : Int) + (ds.length : Int)).toNat else min (-1 : Int).toNat ds.length) - 0) = ds.dropLast
  rw [if_pos (by decide), List.drop_zero, List.dropLast_eq_take]
  congr 1
  omega
theorem Asg.up {ns : List Int} {v w : Int} (h : Asg ns v) (hw : v ≤ w) : Asg ns w := ⟨h.len, fun n hn => ⟨(h.rng n hn).1, by have := (h.rng n hn).2; omega⟩⟩
section
variable {c : Ct} {H H' H0 H1 H2 H3 : Hp} {O : List Addr} {Γ Γ' Γ1 : List (Option Rs)}
variable {te ta tb tx ty : TE} {k ka kb kc : Kd} {d x y z : PyData}
end
end Lm


/-! all assignments of an allocation, in order; the one whose places ascend -/
namespace Lm
open PySem PySem.Spec PyProof.Rows L2
theorem nodup_sub {α : Type} [DecidableEq α] : ∀ {l m : List α}, l.Nodup → (∀ x ∈ l, x ∈ m) → l.length ≤ m.length
  | [], _, _, _ => Nat.zero_le _
  | a :: l, m, nd, h => by
    have nd' := List.nodup_cons.mp nd
    have ha := h a (by simp)
    have ih := nodup_sub (m := m.erase a) nd'.2 fun x hx => (List.mem_erase_of_ne (fun z => nd'.1 (by rw [← z]; exact hx))).mpr (h x (by simp [hx]))
    rw [List.length_erase_of_mem ha] at ih
    have := List.length_pos_of_mem ha
    simp only [List.length_cons]; omega
theorem perm_of_count {r m : List Int} (hc : ∀ x, r.count x ≤ m.count x) (hl : m.length ≤ r.length) : r.Perm m := by
  induction r generalizing m with
  | nil =>
    have : m = [] := List.eq_nil_of_length_eq_zero (by simpa using hl)
    rw [this]
  | cons a r ih =>
    have ha : a ∈ m := by
      have := hc a
      rw [List.count_cons_self] at this
      exact List.count_pos_iff.mp (by omega)
    refine (List.Perm.cons a (ih (m := m.erase a) (fun x => ?_) ?_)).trans (List.perm_cons_erase ha).symm
    · have h1 := hc x
      rw [List.count_erase]
      by_cases e : a = x
      · subst e
        rw [List.count_cons_self] at h1
        simp; omega
      · rw [List.count_cons_of_ne e] at h1
        rw [if_neg (by simpa using e)]; omega
    · rw [List.length_erase_of_mem ha]
      simp only [List.length_cons] at hl; omega
/-- what may come behind r -/
def nxtA (as r : List Int) : List Int := (upI 0 as.length).filter fun x => decide ((r.count x : Int) < gI as x)
def asgN (as : List Int) : Nat → List (List Int)
  | 0 => [[]]
  | n + 1 => (asgN as n).flatMap fun r => (nxtA as r).map fun x => r ++ [x]
theorem mem_asgN {as : List Int} (nn : ∀ n ∈ as, 0 ≤ n) : ∀ (n : Nat) (r : List Int), r ∈ asgN as n ↔ r.length = n ∧ (∀ x ∈ r, 0 ≤ x ∧ x < as.length) ∧ ∀ x, (r.count x : Int) ≤ gI as x
  | 0, r => by
    constructor
    · intro h
      have : r = [] := by simpa [asgN] using h
      subst this
      exact ⟨rfl, fun _ h => (nomatch h), fun x => by have := gI_nn nn x; simpa using this⟩
    · rintro ⟨h, _⟩
      rw [List.eq_nil_of_length_eq_zero h]
      simp [asgN]
  | n + 1, r => by
    unfold asgN
    rw [List.mem_flatMap]
    constructor
    · rintro ⟨q, hq, h⟩
      obtain ⟨x, hx, rfl⟩ := List.mem_map.mp h
      obtain ⟨h1, h2, h3⟩ := (mem_asgN nn n q).mp hq
      obtain ⟨hx1, hx2⟩ := List.mem_filter.mp hx
      have hx3 := of_decide_eq_true hx2
      have hx4 := mem_upI.mp hx1
      refine ⟨by simp [h1], fun y hy => ?_, fun y => ?_⟩
      · rcases List.mem_append.mp hy with w | w
        · exact h2 y w
        · rw [List.mem_singleton.mp w]; exact hx4
      · rw [List.count_append]
        by_cases e : x = y
        · subst e
          simp only [List.count_cons_self, List.count_nil]; omega
        · rw [List.count_cons_of_ne e, List.count_nil]
          exact h3 y
    · rintro ⟨h1, h2, h3⟩
      have hne : r ≠ [] := fun z => by rw [z] at h1; simp at h1
      have el := List.dropLast_concat_getLast hne
      obtain ⟨q, eq⟩ : ∃ q, q = r.dropLast := ⟨_, rfl⟩
      obtain ⟨x, ex⟩ : ∃ x, x = r.getLast hne := ⟨_, rfl⟩
      rw [← eq, ← ex] at el
      have cx : ∀ y, r.count y = q.count y + [x].count y := fun y => by rw [← el, List.count_append]
      have xr : x ∈ r := by rw [← el]; simp
      refine ⟨q, (mem_asgN nn n q).mpr ⟨by rw [eq, List.length_dropLast]; omega, fun y hy => h2 y (by rw [← el]; simp [hy]), fun y => by have := h3 y; have := cx y; omega⟩, List.mem_map.mpr ⟨x, List.mem_filter.mpr ⟨mem_upI.mpr (h2 x xr), decide_eq_true ?_⟩, el⟩⟩
      have a1 := h3 x
      have a2 := cx x
      rw [List.count_cons_self, List.count_nil] at a2
      omega
/-- the places that ascend -/
theorem runL_count {as : List Int} (nn : ∀ n ∈ as, 0 ≤ n) : ∀ {os : List Int}, os.Nodup → ∀ o, ((runL as os).count o : Int) = if o ∈ os then gI as o else 0
  | [], _, o => by simp [runL]
  | p :: os, nd, o => by
    have nd' := List.nodup_cons.mp nd
    have ih := runL_count nn nd'.2 o
    have g0 := gI_nn nn o
    rw [runL_cons, List.count_append, List.count_replicate, Int.natCast_add, ih]
    by_cases e : p = o
    · subst e
      rw [if_neg nd'.1, if_pos (by simp), if_pos (by simp)]; omega
    · rw [if_neg (by simpa using e), Int.natCast_zero, Int.zero_add]
      by_cases m : o ∈ os
      · rw [if_pos m, if_pos (by simp [m])]
      · rw [if_neg m, if_neg (fun z => by rcases List.mem_cons.mp z with w | w; exact e w.symm; exact m w)]
section
variable {c : Ct} {Γ : List (Option Rs)} {te : TE} {k : Kd}
end
end Lm


/-! t[::-1] of a tuple -/
namespace HT
open PySem PySem.W PySem.Calls PyProof.Rows
end HT
namespace Lm
open PySem PySem.Spec PyProof.Rows L2
section
variable {prog : Program} {w : World} {A : Around} {E : Value → Shared → Prop} {s : Shared}
end
section
variable {c : Ct} {Γ : List (Option Rs)} {te : TE} {ds : List PyData}
end
end Lm


/-! intervals: bounds of their churn, and when nothing is wasted -/
namespace Lm
open PySem PySem.Spec PyProof.Rows L2
variable {as cs os : List Int} {v b : Int}
theorem runL_counts (h : Alc as v b) (o : IsOrd os v) : countsI (runL as os) v = as := by
  have hl := h.len
  apply List.ext_getElem
  · simp [countsI, upI]; omega
  · intro j h1 h2
    have hj : (j : Int) < v := by omega
    have e := countsI_get (ns := runL as os) hj
    rw [List.getD_eq_getElem?_getD, List.getElem?_eq_getElem h1] at e
    have e' : (countsI (runL as os) v)[j] = ((runL as os).count (j : Int) : Int) := e
    rw [e', runL_count h.nn o.nd, if_pos (o.mem (by omega) hj)]
    simp [gI, h2]
/-! the other bound -/
/-! both ways, and backwards -/
/-! when nothing is wasted -/
end Lm


/-! the first history: each step's first change is the least one -/
namespace Lm
open PySem PySem.Spec PyProof.Rows L2
variable {v b : Int} {A T : List (List Int)} {as f r : List Int} {n : Nat}
theorem asgN_cnt (h : Alc as v b) (hr : r ∈ asgN as b.toNat) : (r.length : Int) = b ∧ (∀ x ∈ r, 0 ≤ x ∧ x < v) ∧ countsI r v = as := by
  obtain ⟨h1, h2, h3⟩ := (mem_asgN h.nn _ r).mp hr
  have hl := h.len
  have o := ord_upI (m := v) (by omega)
  have rl := runL_length h o
  have b0 : 0 ≤ b := by rw [← h.sum]; exact sum_nn h.nn
  have cle : ∀ x, r.count x ≤ (runL as (upI 0 v.toNat)).count x := fun x => by
    have c1 := runL_count h.nn o.nd x
    by_cases m : x ∈ upI 0 v.toNat
    · rw [if_pos m] at c1
      have := h3 x
      omega
    · rw [List.count_eq_zero_of_not_mem fun z => m (o.mem (h2 x z).1 (by have := (h2 x z).2; omega))]; omega
  have sp : r.Perm (runL as (upI 0 v.toNat)) := perm_of_count cle (by omega)
  refine ⟨by omega, fun x hx => ⟨(h2 x hx).1, by have := (h2 x hx).2; omega⟩, ?_⟩
  rw [← runL_counts h o]
  unfold countsI
  apply List.map_congr_left
  intro i _
  rw [sp.count_eq]
/-- rows of the allocations' sizes -/
structure Tab (T A : List (List Int)) (v b : Int) : Prop where
  ser : Ser A v b
  len : T.length = A.length
  asg : ∀ t ∈ T, Asg t v ∧ (t.length : Int) = b
theorem Tab.at (h : Tab T A v b) (hn : n < A.length) : Asg (T.getD n []) v ∧ ((T.getD n []).length : Int) = b := by
  have := h.len
  have e : T.getD n [] = T[n] := by simp [List.getD_eq_getElem?_getD, show n < T.length by omega]
  rw [e]
  exact h.asg _ (List.getElem_mem (by omega))
section
variable {c : Ct} {H H' H0 H1 H2 H3 : Hp} {O : List Addr} {Γ Γ' Γ1 : List (Option Rs)} {te : TE} {k : Kd} {i : Int}
end
/-! of lists -/
end Lm


/-! itertools.combinations(range(n), k), walked -/
namespace CmbK
open PySem PySem.Spec PyProof.Rows L2
/-- the iterator: its items' tuple, 0 before the first item, 1 behind it, 2 at the end; what it handed out; the places -/
def cells (T : Addr) (st : Int) (bf : Value) (ks : List Nat) : Array Value := ([.ref T, .int st 0, bf] ++ ks.map fun (i : Nat) => Value.int i 0).toArray
end CmbK


/-! itertools.combinations(range(n), k): made, its turns -/
namespace CmbK
open PySem PySem.Spec PyProof.Rows L2
end CmbK


/-! itertools.combinations: its turns -/
namespace CmbK
open PySem PySem.Spec PyProof.Rows L2
/-- the items at these places -/
def picks (xs : Array Value) (ks : List Nat) : List Value := ks.map fun i => xs.getD i .none
section
variable {prog : Program} {w : World} {A : Around} {E : Value → Shared → Prop} {s : Shared} {it T : Addr} {bf : Value} {ks : List Nat} {xs : Array Value}
end
end CmbK


/-! the places that combinations hands out -/
namespace Lm
open PySem PySem.Spec PyProof.Rows L2 CmbK
def cmbL : List Nat → Nat → List (List Nat)
  | _, 0 => [[]]
  | [], _ + 1 => []
  | a :: l, k + 1 => (cmbL l k).map (a :: ·) ++ cmbL l (k + 1)
def cmbs (n k : Nat) : List (List Nat) := cmbL (List.range n) k
/-- the pairs, the first place first -/
def pairL (n : Nat) : List (List Nat) := (List.range n).flatMap fun i => (List.range (n - (i + 1))).map fun d => [i, i + 1 + d]
theorem mem_pairL {n : Nat} {ks : List Nat} : ks ∈ pairL n ↔ ∃ i j, ks = [i, j] ∧ i < j ∧ j < n := by
  unfold pairL
  simp only [List.mem_flatMap, List.mem_map, List.mem_range]
  constructor
  · rintro ⟨i, hi, d, hd, rfl⟩
    exact ⟨i, i + 1 + d, rfl, by omega, by omega⟩
  · rintro ⟨i, j, rfl, h1, h2⟩
    exact ⟨i, by omega, j - (i + 1), by omega, by congr; omega⟩
end Lm


/-! families of shares: the promises -/
namespace Lm
open PySem PySem.Spec PyProof.Rows L2
/-- a share of each variant but the control -/
structure Shr (r : List Int) (v : Int) : Prop where
  len : (r.length : Int) = v - 1
  nn : ∀ x ∈ r, 0 ≤ x
  sum : r.sum ≤ 10
structure Fam (F : List (List Int)) (v : Int) : Prop where
  v1 : 1 ≤ v
  v5 : v ≤ 5
  l1 : 1 ≤ F.length
  l5 : F.length ≤ 5
  shr : ∀ r ∈ F, Shr r v
/-- lists of different buckets below b, one for each of v variants -/
structure Lsts (L : List (List Int)) (v b : Int) : Prop where
  len : (L.length : Int) = v
  v4 : v ≤ 1000
  rng : ∀ r ∈ L, ∀ x ∈ r, 0 ≤ x ∧ x < b
  nd : ∀ r ∈ L, r.Nodup
  small : ∀ r ∈ L, r.length ≤ 1000
theorem Shr.le {r : List Int} {v : Int} (h : Shr r v) : ∀ x ∈ r, x ≤ 10 := fun x hx => by
  have := le_sum h.nn x hx
  have := h.sum
  omega
end Lm


/-! which lists serve which shares -/
namespace Lm
open PySem PySem.Spec PyProof.Rows L2
variable {L F : List (List Int)} {r s : List Int} {v b : Int}
/-- what of a list is used -/
def hdL (L : List (List Int)) (r : List Int) (i : Nat) : List Int := (L.getD i []).take (r.getD i 0).toNat
/-- long enough, and none twice -/
def OkF (L : List (List Int)) (r : List Int) : Prop := (∀ i < r.length, r.getD i 0 ≤ ((L.getD i []).length : Int)) ∧ ∀ i j, i < j → j < r.length → ∀ x ∈ hdL L r i, x ∉ hdL L r j
/-- the shares that are allowed -/
def AllF (F : List (List Int)) (s : List Int) : Prop := ∃ r ∈ F, s.length = r.length ∧ ∀ i < s.length, 0 ≤ s.getD i 0 ∧ s.getD i 0 ≤ r.getD i 0
end Lm


/-! == of plain data, forms of data, a drawn test behind a plain one -/
namespace Lm
open PySem PySem.Spec PyProof.Rows L2
mutual
/-- no truth values, no dicts: == is being equal -/
def plD : PyData → Bool
  | .none => true
  | .int _ => true
  | .str _ => true
  | .list ds => plAll ds
  | .tuple ds => plAll ds
  | _ => false
def plAll : List PyData → Bool
  | [] => true
  | d :: ds => plD d && plAll ds
end
mutual
theorem eqv_pl : ∀ {x y : PyData}, plD x = true → plD y = true → (PyData.eqv x y = true ↔ x = y)
  | .none, .none, _, _ => by simp [PyData.eqv]
  | .int i, .int j, _, _ => by simp [PyData.eqv]
  | .str i, .str j, _, _ => by simp [PyData.eqv]
  | .list xs, .list ys, h, g => by
    have := eqv_plA (xs := xs) (ys := ys) h g
    simp only [PyData.eqv, this, PyData.list.injEq]
  | .tuple xs, .tuple ys, h, g => by
    have := eqv_plA (xs := xs) (ys := ys) h g
    simp only [PyData.eqv, this, PyData.tuple.injEq]
  | .none, .int _, _, _ | .none, .str _, _, _ | .none, .list _, _, _ | .none, .tuple _, _, _ => by simp [PyData.eqv]
  | .int _, .none, _, _ | .int _, .str _, _, _ | .int _, .list _, _, _ | .int _, .tuple _, _, _ => by simp [PyData.eqv]
  | .str _, .none, _, _ | .str _, .int _, _, _ | .str _, .list _, _, _ | .str _, .tuple _, _, _ => by simp [PyData.eqv]
  | .list _, .none, _, _ | .list _, .int _, _, _ | .list _, .str _, _, _ | .list _, .tuple _, _, _ => by simp [PyData.eqv]
  | .tuple _, .none, _, _ | .tuple _, .int _, _, _ | .tuple _, .str _, _, _ | .tuple _, .list _, _, _ => by simp [PyData.eqv]
  | .bool _, _, h, _ | .dict _, _, h, _ => by simp [plD] at h
  | .none, .bool _, _, g | .none, .dict _, _, g | .int _, .bool _, _, g | .int _, .dict _, _, g | .str _, .bool _, _, g | .str _, .dict _, _, g | .list _, .bool _, _, g | .list _, .dict _, _, g | .tuple _, .bool _, _, g | .tuple _, .dict _, _, g => by simp [plD] at g
theorem eqv_plA : ∀ {xs ys : List PyData}, plAll xs = true → plAll ys = true → (PyData.eqvAll xs ys = true ↔ xs = ys)
  | [], [], _, _ => by simp [PyData.eqvAll]
  | [], _ :: _, _, _ => by simp [PyData.eqvAll]
  | _ :: _, [], _, _ => by simp [PyData.eqvAll]
  | x :: xs, y :: ys, h, g => by
    have h' : (plD x && plAll xs) = true := h
    have g' : (plD y && plAll ys) = true := g
    rw [Bool.and_eq_true] at h' g'
    have e1 := eqv_pl (x := x) (y := y) h'.1 g'.1
    have e2 := eqv_plA (xs := xs) (ys := ys) h'.2 g'.2
    simp only [PyData.eqvAll, Bool.and_eq_true, e1, e2, List.cons.injEq]
end
/-- data of a depth of at most n, all of it to be compared -/
def Sh (n : Nat) (d : PyData) : Prop := d.canLay0 = true ∧ d.depth ≤ n
theorem Sh.ok {n : Nat} {d : PyData} (h : Sh n d) (hn : n ≤ 64) : SeqAt.shaped d = true := by
  unfold SeqAt.shaped
  rw [h.1, decide_eq_true (by have := h.2; omega)]
  rfl
theorem sh_all {n : Nat} : ∀ {ds : List PyData}, (∀ d ∈ ds, Sh n d) → PyData.canLayAll0 ds = true ∧ PyData.depthAll ds ≤ n
  | [], _ => ⟨rfl, by simp [PyData.depthAll]⟩
  | d :: ds, h => by
    have a := h d (by simp)
    have b := sh_all (ds := ds) fun e he => h e (List.mem_cons_of_mem _ he)
    refine ⟨?_, ?_⟩
    · show (d.canLay0 && PyData.canLayAll0 ds) = true
      rw [a.1, b.1]; rfl
    · show max d.depth (PyData.depthAll ds) ≤ n
      have := a.2; have := b.2; omega
theorem sh_tup {n : Nat} {ds : List PyData} (h : ∀ d ∈ ds, Sh n d) : Sh (n + 1) (.tuple ds) := by
  have := sh_all h
  exact ⟨this.1, by show PyData.depthAll ds + 1 ≤ _; omega⟩
theorem Sh.up {n m : Nat} {d : PyData} (h : Sh n d) (hn : n ≤ m) : Sh m d := ⟨h.1, Nat.le_trans h.2 hn⟩
section
variable {c : Ct} {Γ : List (Option Rs)} {ta tb : TE} {tt tu : TT} {ka kb : Kd} {d e : PyData} {a : Bool}
end
end Lm


/-! in and not in over tuples or lists of data -/
namespace Lm
open PySem PySem.Spec PyProof.Rows L2
def rInU (K : PySem.W.Frag) (neg : Bool) : R2 := fun x y H Q => ∃ d ds, Dp K H x d ∧ (Dp K H y (.list ds) ∨ Dp K H y (.tuple ds)) ∧ SeqAt.shaped d = true ∧ SeqAt.shaped (.tuple ds) = true ∧ Q (.bl (if neg then !(ds.any fun z => PyData.eqv z d) else ds.any fun z => PyData.eqv z d)) H
section
variable {X : Cx}
theorem op_inU (hu : X.A.units + 65 < cLine) : OpR X (compareOp .In) (rInU X.K false) := by
  intro pins s σ H x y v u Q I rx ry h
  obtain ⟨d, ds, hd, he, sd, se, q⟩ := h
  obtain ⟨as, r1⟩ := Dp.reads I d x v hd rx
  rcases he with he | he
  · obtain ⟨bs, r2⟩ := Dp.reads I (.list ds) y u he ry
    exact SeqAt.in_list_reads r2 r1 (SeqAt.canLay_of_shaped se) (SeqAt.canLay_of_shaped sd) (room_in_shaped sd hu) ⟨.bl _, H, I, rfl, q⟩
  · obtain ⟨bs, r2⟩ := Dp.reads I (.tuple ds) y u he ry
    exact SeqAt.in_tuple_reads r2 r1 (SeqAt.canLay_of_shaped se) (SeqAt.canLay_of_shaped sd) (room_in_shaped sd hu) ⟨.bl _, H, I, rfl, q⟩
variable {K : PySem.W.Frag} (hK : X.K = K)
include hK
theorem k_inU (hu : X.A.units + 65 < cLine) : OpR X (compareOp .In) (rInU K false) := hK ▸ op_inU hu
end
section
variable {c : Ct} {Γ : List (Option Rs)} {ta tb : TE} {ka kb : Kd} {d : PyData} {ds : List PyData} {r : List Int} {P : List (List Int)} {neg : Bool}
theorem e_inUL (ha : Ev c ta Γ ka d) (hb : Ev c tb Γ kb (.list ds)) (sd : SeqAt.shaped d = true) (sl : SeqAt.shaped (.tuple ds) = true) : Ev c (tOp (rInU c.K neg) ta tb) Γ .v (.bool (if neg then !(ds.any fun z => PyData.eqv z d) else ds.any fun z => PyData.eqv z d)) :=
  d_bin ha hb fun H O v u Q bv bu q => ⟨d, ds, bv.dp, .inl bu.dp, sd, sl, q _ H Rr.rf (.bl _)⟩
theorem e_inUT (ha : Ev c ta Γ ka d) (hb : Ev c tb Γ kb (.tuple ds)) (sd : SeqAt.shaped d = true) (sl : SeqAt.shaped (.tuple ds) = true) : Ev c (tOp (rInU c.K neg) ta tb) Γ .v (.bool (if neg then !(ds.any fun z => PyData.eqv z d) else ds.any fun z => PyData.eqv z d)) :=
  d_bin ha hb fun H O v u Q bv bu q => ⟨d, ds, bv.dp, .inr bu.dp, sd, sl, q _ H Rr.rf (.bl _)⟩
end
section
variable {c : Ct} {Γ : List (Option Rs)} {tr : TA} {kv : Bool} {n m lo : Nat} {a : Im}
end
/-! ### plans -/
/-! bad triples -/
def castL (ks : List Nat) : List Int := ks.map fun (i : Nat) => (i : Int)
end Lm


/-! rules: the mathematics -/
namespace Lm
open PySem PySem.Spec PyProof.Rows L2
abbrev Pr := List Int × List Int
/-- an allocation and an assignment of it -/
structure OkP (p : Pr) (v b : Int) : Prop where
  alc : Alc p.1 v b
  len : (p.2.length : Int) = b
  rng : ∀ x ∈ p.2, 0 ≤ x ∧ x < v
  cnt : countsI p.2 v = p.1
theorem OkP.asg {p : Pr} {v b : Int} (h : OkP p v b) (hb : b ≤ 20) : Asg p.2 v := ⟨by have := h.len; omega, h.rng⟩
/-- a bucket leaves needlessly -/
def leftB (p q : Pr) (i : Nat) : Bool := !decide (p.2.getD i 0 = 0) && (!decide (q.2.getD i 0 = p.2.getD i 0) && decide (p.1.getD (p.2.getD i 0).toNat 0 ≤ q.1.getD (p.2.getD i 0).toNat 0))
/-! the first of three places -/
/-! lists give the variants their buckets -/
theorem getD_setI {r : List Int} {i j : Nat} {x : Int} (hi : i < r.length) : (r.set i x).getD j 0 = if i = j then x else r.getD j 0 := by
  simp only [List.getD_eq_getElem?_getD, List.getElem?_set]
  split
  · rename_i h
    subst h
    simp [hi]
  · rfl
theorem gL_mem {Ls : List (List Int)} {i : Nat} (h : i < Ls.length) : Ls.getD i [] ∈ Ls := by
  rw [List.getD_eq_getElem?_getD, List.getElem?_eq_getElem h]
  exact List.getElem_mem h
/-- how often a number stands in a list: at so many places -/
theorem count_places (r : List Int) (x : Int) : r.count x = ((List.range r.length).filter fun i => decide (r.getD i 0 = x)).length := by
  induction r with
  | nil => rfl
  | cons a r ih =>
    rw [List.length_cons, List.range_succ_eq_map, List.filter_cons]
    have e : ((List.range r.length).map Nat.succ).filter (fun i => decide ((a :: r).getD i 0 = x)) = ((List.range r.length).filter fun i => decide (r.getD i 0 = x)).map Nat.succ := by
      rw [List.filter_map]
      congr 1
    rw [List.count_cons, e, ih]
    by_cases h : a = x
    · subst h; simp
    · simp [h]
end Lm


/-! rules: the promises -/
namespace Lm
open PySem PySem.Spec PyProof.Rows L2
section
variable {c : Ct} {Γ : List (Option Rs)} {tl : TE} {k : Kd} {R : List Pr} {tr : TA}
theorem e_tupL {ds : List PyData} (h : Ev c tl Γ k (.list ds)) (hf : flatAll ds = true) : Ev c (tCB (rTuple c.K) (tCons tl tNil)) Γ .v (.tuple ds) := d_tuple h hf
end
end Lm


/-! drawn assignments of an allocation; drawn tests -/
namespace Lm
open PySem PySem.Spec PyProof.Rows L2
structure Drw (as : List Int) (lf acc : List Int) (n : Nat) : Prop where
  len : lf.length = as.length
  al : acc.length = n
  nn : ∀ x ∈ lf, 0 ≤ x
  rng : ∀ x ∈ acc, 0 ≤ x ∧ x < (as.length : Int)
  cnt : ∀ i < as.length, (acc.count (i : Int) : Int) + lf.getD i 0 = as.getD i 0
  sum : lf.sum + (n : Int) = as.sum
theorem sum_setX : ∀ {l : List Int} {i : Nat} {x : Int}, i < l.length → (l.set i x).sum = l.sum - l.getD i 0 + x
  | [], _, _, h => by simp at h
  | a :: l, 0, x, _ => by simp only [List.set_cons_zero, List.sum_cons, List.getD_cons_zero]; omega
  | a :: l, i + 1, x, h => by
    have := sum_setX (l := l) (i := i) (x := x) (by simpa using h)
    simp only [List.set_cons_succ, List.sum_cons, List.getD_cons_succ]
    omega
theorem Drw.step {as lf acc : List Int} {n i : Nat} (h : Drw as lf acc n) (hi : i < as.length) (hp : 0 < lf.getD i 0) : Drw as (lf.set i (lf.getD i 0 - 1)) (acc ++ [(i : Int)]) (n + 1) := by
  have hl := h.len
  refine ⟨by simpa using hl, by simp [h.al], fun x hx => ?_, fun x hx => ?_, fun j hj => ?_, ?_⟩
  · rcases List.mem_or_eq_of_mem_set hx with w | w
    · exact h.nn x w
    · omega
  · rcases List.mem_append.mp hx with w | w
    · exact h.rng x w
    · rw [List.mem_singleton.mp w]; omega
  · have hc := h.cnt j hj
    rw [getD_setI (by omega), List.count_append]
    by_cases e : i = j
    · subst e
      have c1 : List.count (i : Int) [(i : Int)] = 1 := by simp
      rw [if_pos rfl, c1]
      omega
    · have c1 : List.count (j : Int) [(i : Int)] = 0 := List.count_eq_zero_of_not_mem (by simp; omega)
      rw [if_neg e, c1]
      omega
  · rw [sum_setX (by omega)]
    have := h.sum
    omega
section
variable {c : Ct} {Γ : List (Option Rs)} {te ta tb : TE} {tt tu : TT} {k ka kb : Kd} {a : Bool} {P : Out → Prop} {n : Nat}
end
end Lm


/-! two places exchanged; drawn changes; which pairs a table keeps -/
namespace Lm
open PySem PySem.Spec PyProof.Rows L2
section
variable {c : Ct} {H H0 : Hp} {O : List Addr} {σ : L2.St} {Γ : List (Option Rs)} {te ta tb tx ty : TE} {k ka kb kc : Kd} {P : Out → Prop} {n m : Nat} {i j x y : Int} {ns : List Int} {u : TS}
end
/-- drawn steps from one assignment to one of another allocation -/
structure Chg (A B g : List Int) (v : Int) (n : Nat) (t : Int) : Prop where
  rng : ∀ x ∈ g, 0 ≤ x ∧ x < v
  len : (g.length : Int) = B.sum
  up : ∀ x : Nat, (x : Int) < v → A.getD x 0 ≤ B.getD x 0 → (g.count (x : Int) : Int) ≤ B.getD x 0
  dn : ∀ x : Nat, (x : Int) < v → B.getD x 0 < A.getD x 0 → (g.count (x : Int) : Int) = if x < n then B.getD x 0 else if x = n then A.getD x 0 - t else A.getD x 0
section
variable {A B g : List Int} {v b : Int} {n : Nat} {t : Int}
theorem Chg.step (h : Chg A B g v n t) (ht : 0 ≤ t ∧ t < A.getD n 0 - B.getD n 0) (hn : (n : Int) < v) {p x : Nat} (hp : p < g.length) (hg : g.getD p 0 = (n : Int)) (hx : (x : Int) < v) (hw : (g.count (x : Int) : Int) < B.getD x 0) : Chg A B (g.set p (x : Int)) v n (t + 1) := by
  have cn := h.dn n hn (by omega)
  rw [if_neg (by omega), if_pos rfl] at cn
  have nx : x ≠ n := fun e => by subst e; omega
  have e1 : g[p] = (n : Int) := by rw [← hg]; simp [List.getD_eq_getElem?_getD, hp]
  have pos : 1 ≤ g.count (n : Int) := List.count_pos_iff.mpr (e1 ▸ List.getElem_mem hp)
  have cnt : ∀ y : Nat, ((g.set p (x : Int)).count (y : Int) : Int) = (g.count (y : Int) : Int) - (if y = n then 1 else 0) + (if y = x then 1 else 0) := fun y => by
    rw [List.count_set hp, e1]
    by_cases h1 : y = n
    · subst h1
      have : ¬ (x : Int) = (y : Int) := by omega
      simp [this, show ¬ y = x by omega]
      omega
    · by_cases h2 : y = x
      · subst h2
        have : ¬ (n : Int) = (y : Int) := by omega
        simp [this, h1]
      · have a1 : ¬ (n : Int) = (y : Int) := by omega
        have a2 : ¬ (x : Int) = (y : Int) := by omega
        simp [a1, a2, h1, h2]
  refine ⟨fun z hz => ?_, by simpa using h.len, fun y hy hd => ?_, fun y hy hd => ?_⟩
  · rcases List.mem_or_eq_of_mem_set hz with w | w
    · exact h.rng z w
    · omega
  · have := h.up y hy hd
    rw [cnt y]
    by_cases h1 : y = n
    · subst h1; omega
    · by_cases h2 : y = x
      · subst h2; rw [if_neg h1, if_pos rfl]; omega
      · rw [if_neg h1, if_neg h2]; omega
  · have hc := h.dn y hy hd
    have y2 : y ≠ x := fun e => by
      subst e
      rw [hc] at hw
      by_cases q : y < n
      · rw [if_pos q] at hw; omega
      · rw [if_neg q, if_neg nx] at hw; omega
    rw [cnt y, hc, if_neg y2]
    by_cases h1 : y = n
    · subst h1
      rw [if_neg (by omega), if_pos rfl, if_pos rfl, if_neg (by omega), if_pos rfl]
      omega
    · rw [if_neg h1]
      simp only [if_neg h1]
      omega
end
/-! which pairs a table keeps -/
/-- a table of a plan -/
structure Tbl (T A : List (List Int)) (v b : Int) : Prop where
  ser : Ser A v b
  len : T.length = A.length
  ok : ∀ i < A.length, OkP (A.getD i [], T.getD i []) v b
end Lm


/-! which buckets fit: the mathematics -/
namespace Lm
open PySem PySem.Spec PyProof.Rows L2
abbrev Pk := Nat → Bool
/-- all its own are among the chosen -/
def insP (p : Pk) (own : List Int) : Bool := own.all fun y => p y.toNat
def rmP (as : List Int) (p : Pk) : Int := ((List.range as.length).map fun x => if p x then as.getD x 0 else 0).sum
def cfP (C : List (List Int)) (p : Pk) : Int := ((C.filter (insP p)).length : Nat)
def Hall (as : List Int) (C : List (List Int)) : Prop := ∀ p : Pk, cfP C p ≤ rmP as p
def dcI (x : Int) (as : List Int) : List Int := as.set x.toNat (as.getD x.toNat 0 - 1)
theorem dcI_len {x : Int} {as : List Int} : (dcI x as).length = as.length := by simp [dcI]
def b1 (b : Bool) : Int := if b then 1 else 0
theorem cf_cons {own : List Int} {C : List (List Int)} {p : Pk} : cfP (own :: C) p = cfP C p + b1 (insP p own) := by
  unfold cfP b1
  rw [List.filter_cons]
  split <;> simp
theorem cf_nn {C : List (List Int)} {p : Pk} : 0 ≤ cfP C p := by unfold cfP; omega
theorem sum_upd {g h : Nat → Int} : ∀ {n x : Nat}, x < n → (∀ i < n, i ≠ x → h i = g i) → ((List.range n).map h).sum = ((List.range n).map g).sum - g x + h x
  | n + 1, x, hx, e => by
    rw [List.range_succ, List.map_append, List.map_append, List.sum_append, List.sum_append]
    simp only [List.map_cons, List.map_nil, List.sum_cons, List.sum_nil]
    by_cases q : x = n
    · subst q
      have : (List.range x).map h = (List.range x).map g := List.map_congr_left fun i hi => e i (by have := List.mem_range.mp hi; omega) (by have := List.mem_range.mp hi; omega)
      rw [this]
      omega
    · have := sum_upd (n := n) (x := x) (g := g) (h := h) (by omega) fun i hi hn => e i (by omega) hn
      rw [this, e n (by omega) (fun z => q z.symm)]
      omega
theorem rm_dec {x : Int} {as : List Int} (hx : 0 ≤ x ∧ x < as.length) (p : Pk) : rmP (dcI x as) p = rmP as p - b1 (p x.toNat) := by
  unfold rmP
  rw [dcI_len]
  have xl : x.toNat < as.length := by omega
  have s : ∀ i, (dcI x as).getD i 0 = if x.toNat = i then as.getD x.toNat 0 - 1 else as.getD i 0 := fun i => getD_setI xl
  rw [sum_upd (g := fun i => if p i then as.getD i 0 else 0) xl fun i hi hn => by
    have e : (dcI x as).getD i 0 = as.getD i 0 := by rw [s, if_neg (fun z => hn z.symm)]
    rw [e]]
  rw [s, if_pos rfl]
  unfold b1
  split <;> omega
theorem rm_or (as : List Int) (p q : Pk) : rmP as (fun x => p x || q x) + rmP as (fun x => p x && q x) = rmP as p + rmP as q := by
  have e : ∀ (a c : Bool) (n : Int), (if (a || c) = true then n else 0) + (if (a && c) = true then n else 0) = (if a = true then n else 0) + (if c = true then n else 0) := fun a c n => by cases a <;> cases c <;> simp
  unfold rmP
  generalize List.range as.length = l
  induction l with
  | nil => rfl
  | cons x l ih =>
    have h1 := e (p x) (q x) (as.getD x 0)
    simp only [List.map_cons, List.sum_cons]
    simp only at ih
    omega
theorem ins_or {p q : Pk} {own : List Int} : insP p own = true → insP (fun x => p x || q x) own = true := fun h => by
  unfold insP at *
  rw [List.all_eq_true] at *
  intro y hy
  show (p y.toNat || q y.toNat) = true
  rw [h y hy]; rfl
theorem ins_or' {p q : Pk} {own : List Int} : insP q own = true → insP (fun x => p x || q x) own = true := fun h => by
  unfold insP at *
  rw [List.all_eq_true] at *
  intro y hy
  show (p y.toNat || q y.toNat) = true
  rw [h y hy, Bool.or_true]
theorem ins_and {p q : Pk} {own : List Int} : insP (fun x => p x && q x) own = (insP p own && insP q own) := by
  unfold insP
  induction own with
  | nil => rfl
  | cons y l ih =>
    simp only [List.all_cons, ih]
    cases p y.toNat <;> cases q y.toNat <;> simp
theorem cf_or (C : List (List Int)) (p q : Pk) : cfP C p + cfP C q ≤ cfP C (fun x => p x || q x) + cfP C (fun x => p x && q x) := by
  induction C with
  | nil => simp [cfP]
  | cons own C ih =>
    rw [cf_cons, cf_cons, cf_cons, cf_cons, ins_and]
    have h1 := ins_or (p := p) (q := q) (own := own)
    have h2 := ins_or' (p := p) (q := q) (own := own)
    unfold b1
    cases a : insP p own <;> cases c : insP q own <;> cases d : insP (fun x => p x || q x) own <;> simp_all <;> omega
/-- with such a bucket there is more in the two together -/
theorem cf_or1 {own : List Int} {C : List (List Int)} {p q : Pk} (h1 : insP p own = false) (h2 : insP q own = false) (h3 : insP (fun x => p x || q x) own = true) :
    cfP (own :: C) p + cfP (own :: C) q + 1 ≤ cfP (own :: C) (fun x => p x || q x) + cfP (own :: C) (fun x => p x && q x) := by
  have := cf_or C p q
  rw [cf_cons, cf_cons, cf_cons, cf_cons, ins_and, h1, h2, h3]
  simp only [b1, Bool.false_and, if_true, if_false, Bool.false_eq_true]
  omega
theorem hall_back {as own : List Int} {C : List (List Int)} {x : Int} (hx : x ∈ own) (x0 : 0 ≤ x ∧ x < as.length) (h : Hall (dcI x as) C) : Hall as (own :: C) := fun p => by
  have := h p
  rw [rm_dec x0] at this
  rw [cf_cons]
  unfold b1 at *
  cases q : insP p own with
  | false => split at this <;> simp only [if_false, Bool.false_eq_true] <;> omega
  | true =>
    unfold insP at q
    rw [List.all_eq_true.mp q x hx] at this
    simp only [if_true] at *
    omega
theorem hall_step {as own : List Int} {C : List (List Int)} (hr : ∀ y ∈ own, 0 ≤ y ∧ y < as.length) (h : Hall as (own :: C)) : ∃ x ∈ own, Hall (dcI x as) C := by
  refine Classical.byContradiction fun hc => ?_
  have bad : ∀ x ∈ own, ∃ p : Pk, p x.toNat = true ∧ insP p own = false ∧ cfP (own :: C) p = rmP as p := fun x hx => by
    refine Classical.byContradiction fun hn => hc ⟨x, hx, fun p => ?_⟩
    have hp := h p
    rw [rm_dec (hr x hx)]
    have hp' := hp
    rw [cf_cons] at hp
    unfold b1 at *
    cases q : insP p own with
    | true =>
      rw [q] at hp
      unfold insP at q
      rw [List.all_eq_true.mp q x hx]
      simp only [if_true] at *
      omega
    | false =>
      rw [q] at hp
      cases z : p x.toNat with
      | false => simp only [if_false, Bool.false_eq_true] at *; omega
      | true =>
        have ne : cfP (own :: C) p ≠ rmP as p := fun e => hn ⟨p, z, q, e⟩
        have e2 : cfP (own :: C) p = cfP C p := by rw [cf_cons, q]; simp [b1]
        simp only [if_true]
        omega
  have key : ∀ xs : List Int, (∀ x ∈ xs, x ∈ own) → ∃ U : Pk, insP U own = false ∧ (∀ x ∈ xs, U x.toNat = true) ∧ cfP (own :: C) U = rmP as U := by
    intro xs
    induction xs with
    | nil =>
      intro _
      have h0 := h fun _ => false
      have r0 : rmP as (fun _ => false) = 0 := by
        unfold rmP
        simp only [Bool.false_eq_true, if_false]
        exact sum_zeroN _
      have c0 := cf_nn (C := own :: C) (p := fun _ => false)
      have c1 := cf_nn (C := C) (p := fun _ => false)
      have hc0 := cf_cons (own := own) (C := C) (p := fun _ => false)
      refine ⟨fun _ => false, ?_, by simp, by omega⟩
      cases q : insP (fun _ => false) own with
      | false => rfl
      | true => rw [q] at hc0; simp only [b1, if_true] at hc0; omega
    | cons x xs ih =>
      intro hs
      obtain ⟨U, u1, u2, u3⟩ := ih fun y hy => hs y (by simp [hy])
      obtain ⟨p, p1, p2, p3⟩ := bad x (hs x (by simp))
      have hW := h fun y => U y || p y
      have hA := h fun y => U y && p y
      have ro := rm_or as U p
      refine ⟨fun y => U y || p y, ?_, fun y hy => ?_, ?_⟩
      · cases q : insP (fun y => U y || p y) own with
        | false => rfl
        | true =>
          have := cf_or1 (C := C) u1 p2 q
          omega
      · rcases List.mem_cons.mp hy with w | w
        · rw [w]; simp [p1]
        · simp [u2 y w]
      · have := cf_or (own :: C) U p
        omega
  obtain ⟨U, u1, u2, _⟩ := key own fun x hx => hx
  have : insP U own = true := by
    unfold insP
    rw [List.all_eq_true]
    exact u2
  rw [this] at u1
  cases u1
where sum_zeroN : ∀ l : List Nat, (l.map fun _ => (0 : Int)).sum = 0
  | [] => rfl
  | a :: l => by rw [List.map_cons, List.sum_cons, sum_zeroN l]; rfl
/-- each bucket has one of its own, and all shares are used up -/
def Fits : List Int → List (List Int) → List Int → Prop
  | as, [], [] => ∀ x ∈ as, x = 0
  | as, own :: C, x :: f => x ∈ own ∧ Fits (dcI x as) C f
  | _, _, _ => False
theorem sum_dcI {x : Int} {as : List Int} (hx : 0 ≤ x ∧ x < as.length) : (dcI x as).sum = as.sum - 1 := by
  unfold dcI
  rw [sum_setX (by omega)]
  omega
theorem rm_one {as : List Int} {x : Nat} (hx : x < as.length) : rmP as (fun y => decide (y = x)) = as.getD x 0 := by
  unfold rmP
  rw [sum_upd (g := fun _ => 0) hx fun i _ hn => by simp [hn], hall_step.sum_zeroN]
  simp
theorem hall_nn {as : List Int} {C : List (List Int)} (h : Hall as C) : ∀ x ∈ as, 0 ≤ x := fun x hx => by
  obtain ⟨i, hi⟩ := List.getElem?_of_mem hx
  have il := (List.getElem?_eq_some_iff.mp hi).1
  have := h fun y => decide (y = i)
  rw [rm_one il] at this
  have c := cf_nn (C := C) (p := fun y => decide (y = i))
  have e : as.getD i 0 = x := by rw [List.getD_eq_getElem?_getD, hi]; rfl
  omega
def Rng (C : List (List Int)) (n : Nat) : Prop := ∀ own ∈ C, ∀ y ∈ own, 0 ≤ y ∧ y < (n : Int)
theorem fit_hall : ∀ {C : List (List Int)} {as f : List Int}, Rng C as.length → Fits as C f → Hall as C
  | [], as, [], _, h => fun p => by
    have z : ∀ x ∈ as, x = 0 := h
    have e : rmP as p = 0 := by
      unfold rmP
      rw [List.map_congr_left (g := fun _ => (0 : Int)) fun i hi => by
        have : as.getD i 0 = 0 := z _ (gd_mem (List.mem_range.mp hi))
        rw [this]; split <;> rfl]
      exact hall_step.sum_zeroN _
    rw [e]
    simp [cfP]
  | own :: C, as, x :: f, hr, h => by
    obtain ⟨hx, hf⟩ := h
    exact hall_back hx (hr own (by simp) x hx) (fit_hall (by rw [dcI_len]; exact fun o ho => hr o (by simp [ho])) hf)
  | [], _, _ :: _, _, h => absurd h id
  | _ :: _, _, [], _, h => absurd h id
open Classical in
noncomputable def grd : List Int → List (List Int) → List Int
  | _, [] => []
  | as, own :: C => (own.filter fun x => decide (Hall (dcI x as) C)).headD 0 :: grd (dcI ((own.filter fun x => decide (Hall (dcI x as) C)).headD 0) as) C
theorem headF_mem {l : List Int} {p : Int → Bool} (h : ∃ x ∈ l, p x = true) : (l.filter p).headD 0 ∈ l ∧ p ((l.filter p).headD 0) = true := by
  obtain ⟨x, hx, hp⟩ := h
  have m : x ∈ l.filter p := List.mem_filter.mpr ⟨hx, hp⟩
  cases q : l.filter p with
  | nil => rw [q] at m; cases m
  | cons y r =>
    have : y ∈ l.filter p := by rw [q]; simp
    exact List.mem_filter.mp this
open Classical in
theorem grd_fit : ∀ {C : List (List Int)} {as : List Int}, Rng C as.length → Hall as C → as.sum = C.length → Fits as C (grd as C)
  | [], as, _, h, hs => fun x hx => by
    have nn := hall_nn h
    have := nn x hx
    have := le_sum nn x hx
    simp at hs
    omega
  | own :: C, as, hr, h, hs => by
    have ro := hr own (by simp)
    obtain ⟨x, hx, hh⟩ := hall_step ro h
    obtain ⟨m1, m2⟩ := headF_mem (l := own) (p := fun x => decide (Hall (dcI x as) C)) ⟨x, hx, decide_eq_true hh⟩
    have m2 := of_decide_eq_true m2
    refine ⟨m1, grd_fit (by rw [dcI_len]; exact fun o ho => hr o (by simp [ho])) m2 ?_⟩
    rw [sum_dcI (ro _ m1), hs]
    simp
end Lm


/-! which buckets fit: by all sets of variants -/
namespace Lm
open PySem PySem.Spec PyProof.Rows L2
theorem cmb_sub : ∀ {l : List Nat} {k : Nat} {s : List Nat}, s ∈ cmbL l k → s.Sublist l
  | _, 0, s, h => by
    have : s = [] := by simpa [cmbL] using h
    rw [this]
    exact List.nil_sublist _
  | [], k + 1, s, h => by simp [cmbL] at h
  | a :: l, k + 1, s, h => by
    rcases List.mem_append.mp h with w | w
    · obtain ⟨t, ht, rfl⟩ := List.mem_map.mp w
      exact (cmb_sub ht).cons_cons a
    · exact (cmb_sub w).cons a
theorem cmb_filter (p : Nat → Bool) : ∀ l : List Nat, l.filter p ∈ cmbL l (l.filter p).length
  | [] => by simp [cmbL]
  | a :: l => by
    have ih := cmb_filter p l
    rw [List.filter_cons]
    by_cases h : p a = true
    · rw [if_pos h, List.length_cons]
      exact List.mem_append_left _ (List.mem_map_of_mem ih)
    · rw [if_neg h]
      cases q : (l.filter p).length with
      | zero => rw [List.eq_nil_of_length_eq_zero q]; simp [cmbL]
      | succ k => rw [q] at ih; exact List.mem_append_right _ ih
/-- all sets of variants, the smaller ones first -/
def vsN (v : Nat) : List (List Nat) := (List.range (v + 1)).flatMap fun k => cmbs v k
theorem vs_sub {v : Nat} {s : List Nat} (h : s ∈ vsN v) : s.Sublist (List.range v) := by
  obtain ⟨k, _, hs⟩ := List.mem_flatMap.mp h
  exact cmb_sub hs
theorem vs_filter (v : Nat) (p : Nat → Bool) : (List.range v).filter p ∈ vsN v := by
  refine List.mem_flatMap.mpr ⟨((List.range v).filter p).length, List.mem_range.mpr ?_, cmb_filter p _⟩
  have := List.length_filter_le p (List.range v)
  rw [List.length_range] at this
  omega
def inS (s : List Nat) : Pk := fun x => decide (x ∈ s)
/-- what a set of variants has, and how many buckets need it -/
def roomI (as : List Int) (s : List Nat) : Int := (s.map fun x => as.getD x 0).sum
theorem sum_sub {g : Nat → Int} : ∀ {l s : List Nat}, s.Sublist l → l.Nodup → (s.map g).sum = (l.map fun x => if decide (x ∈ s) then g x else 0).sum
  | _, _, .slnil, _ => rfl
  | a :: l, s, .cons _ h, nd => by
    have na : a ∉ s := fun m => (List.nodup_cons.mp nd).1 (h.subset m)
    rw [List.map_cons, List.sum_cons, sum_sub h (List.nodup_cons.mp nd).2, decide_eq_false na]
    simp
  | a :: l, _ :: s, .cons_cons _ h, nd => by
    have nd' := List.nodup_cons.mp nd
    rw [List.map_cons, List.sum_cons, List.map_cons, List.sum_cons, sum_sub h nd'.2]
    have e : (l.map fun x => if decide (x ∈ s) then g x else 0) = l.map fun x => if decide (x ∈ a :: s) then g x else 0 := List.map_congr_left fun x hx => by
      have : x ≠ a := fun e => nd'.1 (e ▸ hx)
      simp [this]
    rw [e]
    simp
theorem room_rm {as : List Int} {s : List Nat} (h : s ∈ vsN as.length) : roomI as s = rmP as (inS s) := sum_sub (vs_sub h) List.nodup_range
theorem fits_iff : ∀ {C : List (List Int)} {as f : List Int}, Rng C as.length → (Fits as C f ↔ f.length = C.length ∧ (∀ i < f.length, f.getD i 0 ∈ C.getD i []) ∧ ∀ x < as.length, (f.count (x : Int) : Int) = as.getD x 0)
  | [], as, [], _ => by
    constructor
    · intro h
      exact ⟨rfl, by simp, fun x hx => by
        have h' : ∀ x ∈ as, x = 0 := h
        rw [h' _ (gd_mem hx)]; rfl⟩
    · rintro ⟨_, _, h⟩ x hx
      obtain ⟨i, hi⟩ := List.getElem?_of_mem hx
      have := h i (List.getElem?_eq_some_iff.mp hi).1
      rw [List.getD_eq_getElem?_getD, hi] at this
      simpa using this.symm
  | own :: C, as, x :: f, hr => by
    have rC : Rng C (dcI x as).length := by rw [dcI_len]; exact fun o ho => hr o (by simp [ho])
    have ih := fits_iff (as := dcI x as) (f := f) rC
    have cnt : ∀ (x0 : 0 ≤ x ∧ x < as.length) (y : Nat), y < as.length → (((x :: f).count (y : Int) : Int) = as.getD y 0 ↔ (f.count (y : Int) : Int) = (dcI x as).getD y 0) := fun x0 y hy => by
      have e : (dcI x as).getD y 0 = if x.toNat = y then as.getD x.toNat 0 - 1 else as.getD y 0 := getD_setI (by omega)
      rw [e, List.count_cons]
      by_cases w : x.toNat = y
      · subst w
        have : x = ((x.toNat : Nat) : Int) := by omega
        rw [if_pos rfl, if_pos (by rw [beq_iff_eq]; exact this)]
        omega
      · have : ¬ x = (y : Int) := by omega
        rw [if_neg w, if_neg (by simpa using this)]
        omega
    show x ∈ own ∧ Fits (dcI x as) C f ↔ _
    rw [ih, dcI_len]
    constructor
    · rintro ⟨hx, h1, h2, h3⟩
      have x0 := hr own (by simp) x hx
      refine ⟨by simp [h1], fun i hi => ?_, fun y hy => (cnt x0 y hy).mpr (h3 y hy)⟩
      cases i with
      | zero => exact hx
      | succ i => exact h2 i (by simpa using hi)
    · rintro ⟨h1, h2, h3⟩
      have hx : x ∈ own := h2 0 (by simp)
      have x0 := hr own (by simp) x hx
      exact ⟨hx, by simpa using h1, fun i hi => h2 (i + 1) (by simpa using hi), fun y hy => (cnt x0 y hy).mp (h3 y hy)⟩
  | [], _, _ :: _, _ => by simp [Fits]
  | _ :: _, _, [], _ => by simp [Fits]
end Lm


/-! which buckets fit: the promises -/
namespace Lm
open PySem PySem.Spec PyProof.Rows L2
structure Mns (C : List (List Int)) (n : Nat) : Prop where
  rng : Rng C n
  len : C.length ≤ 20
  own : ∀ own ∈ C, own.length ≤ 5
section
variable {c : Ct} {Γ : List (Option Rs)} {tl : TE} {k : Kd} {C : List (List Int)} {d : PyData}
end
end Lm


/-! shortages, and how rules go on -/
namespace Lm
open PySem PySem.Spec PyProof.Rows L2
/-- the first set of variants that is too small -/
def shS (as : List Int) (C : List (List Int)) : Option (List Nat) := (vsN as.length).find? fun s => decide (roomI as s < cfP C (inS s))
theorem sh_some {as : List Int} {C : List (List Int)} {s : List Nat} (h : shS as C = some s) : s ∈ vsN as.length ∧ roomI as s < cfP C (inS s) := by
  unfold shS at h
  have q := List.find?_some h
  exact ⟨List.mem_of_find?_eq_some h, by simpa using q⟩
section
variable {c : Ct} {Γ : List (Option Rs)} {tl tb : TE} {kb : Kd} {C : List (List Int)} {cd : PyData}
end
/-! rules -/
end Lm


/-! strings in comparisons; whys -/
namespace Lm
open PySem PySem.Spec PyProof.Rows L2
theorem str_ok (s : String) : PyData.strOk (Str.ofString s) = true := by
  rw [Str.ofString_eq_toList]
  unfold PyData.strOk
  simp only [List.all_toArray, List.all_map, List.all_eq_true, Function.comp, decide_eq_true_eq]
  intro c _
  rcases c.valid with h | h
  · exact Nat.lt_trans h (by decide)
  · exact h.2
theorem sh_str {n : Nat} {s : String} : Sh n (.str (Str.ofString s)) := ⟨str_ok s, by simp [PyData.depth]⟩
theorem shapedS {s : String} : SeqAt.shaped (.str (Str.ofString s)) = true := (sh_str (n := 0)).ok (by decide)
theorem shapedS2 {s t : String} : SeqAt.shaped (.tuple [.str (Str.ofString s), .str (Str.ofString t)]) = true := (sh_tup (n := 0) (ds := [.str (Str.ofString s), .str (Str.ofString t)]) (by simp [sh_str])).ok (by decide)
end Lm


/-! a list of one's own put into another -/
namespace Lm
open PySem PySem.Spec PyProof.Rows L2
section
variable {c : Ct} {H H0 : Hp} {O : List Addr} {σ : L2.St} {Γ : List (Option Rs)} {ds : List PyData} {d : PyData} {n m : Nat} {P : Out → Prop} {u : TS}
theorem Env.gift (e : Env c H0 O H σ Γ) (hn : Γ[n]? = some (some (.o (.list ds)))) (hm : Γ[m]? = some (some (.o d))) (ne : n ≠ m) :
    ∃ p xs v, σ[n]? = some (some (.ref p)) ∧ σ[m]? = some (some v) ∧ H p = some (.lst xs) ∧ xs.length = ds.length ∧ Env c H0 O (upd H p (.lst (xs ++ [v]))) σ ((Γ.set m none).set n (some (.o (.list (ds ++ [d]))))) := by
  obtain ⟨fp, hr, nd, sub⟩ := e.rep
  obtain ⟨x, f, pre, post, hx, ⟨v, rfl, fo⟩, hfp, up⟩ := hr.nth hm
  subst hfp
  have r1 : Reps c O H (σ.set m (some v)) (Γ.set m none) (pre ++ ([] ++ post)) := up O H (some v) none [] (fun _ _ _ _ z => z) rfl
  have es : σ.set m (some v) = σ := by
    obtain ⟨hlt, e1⟩ := List.getElem?_eq_some_iff.mp hx
    rw [← e1]
    exact List.set_getElem_self hlt
  rw [es] at r1
  have hn' : (Γ.set m none)[n]? = some (some (.o (.list ds))) := by rw [List.getElem?_set_ne (Ne.symm ne)]; exact hn
  obtain ⟨y, f0, pre2, post2, hy, ⟨w, rfl, b⟩, hfp2, up2⟩ := r1.nth hn'
  obtain ⟨p, xs, g, rfl, rfl, hp, hfa⟩ := b.list'
  rw [List.nil_append] at hfp2
  have p1 : (pre ++ (f ++ post)).Perm (f ++ (pre ++ post)) := by
    rw [← List.append_assoc, ← List.append_assoc]
    exact List.Perm.append_right _ List.perm_append_comm
  have nd1 := p1.nodup_iff.mp nd
  rw [hfp2] at nd1
  have p2 : (f ++ (pre2 ++ ((p :: g) ++ post2))).Perm (pre2 ++ ((p :: (g ++ f)) ++ post2)) := by
    have q1 : (f ++ (pre2 ++ ((p :: g) ++ post2))).Perm ((pre2 ++ ((p :: g) ++ post2)) ++ f) := List.perm_append_comm
    refine q1.trans ?_
    rw [List.append_assoc, List.append_assoc]
    refine List.Perm.append_left _ ?_
    show ((p :: g) ++ (post2 ++ f)).Perm (((p :: g) ++ f) ++ post2)
    rw [List.append_assoc]
    exact List.Perm.append_left _ List.perm_append_comm
  have nd2 := p2.nodup_iff.mp nd1
  have subs : ∀ a ∈ pre2 ++ ((p :: (g ++ f)) ++ post2), a ∈ O := fun a ha => sub a (p1.mem_iff.mpr (by rw [hfp2]; exact p2.mem_iff.mpr ha))
  have hpO : p ∈ O := subs p (by simp)
  have mid := (List.nodup_append.mp (List.nodup_append.mp nd2).2.1).1
  have hpg : p ∉ g ++ f := (List.nodup_cons.mp mid).1
  have np : ∀ a ∈ pre2 ++ post2, a ≠ p := fun a ha w => by
    subst w
    rcases List.mem_append.mp ha with u | u
    · exact (List.nodup_append.mp nd2).2.2 a u a (by simp) rfl
    · exact (List.nodup_append.mp (List.nodup_append.mp nd2).2.1).2.2 a (by simp) a u rfl
  have em : mns (upd H p (.lst (xs ++ [v]))) O = mns H O := by
    funext a
    by_cases ha : a ∈ O
    · rw [mns_in ha, mns_in ha]
    · rw [mns_out ha, mns_out ha, upd_ne (fun z => ha (by rw [z]; exact hpO))]
  have lx : xs.length = ds.length := (hfa.bo fun a ha => e.okO a (subs a (by simp [ha]))).len
  refine ⟨p, xs, v, hy, hx, hp, lx, by rw [em]; exact e.r0, by rw [em]; exact e.j, e.fr, fun a ha => ?_, ?_⟩
  · by_cases q : a = p
    · rw [q]; exact ⟨_, upd_same, trivial⟩
    · rw [upd_ne q]; exact e.dm a ha
  · have hσ : σ.set n (some (.ref p)) = σ := by
      obtain ⟨hlt, e1⟩ := List.getElem?_eq_some_iff.mp hy
      rw [← e1]
      exact List.set_getElem_self hlt
    have fa : FoAll c (upd H p (.lst (xs ++ [v]))) (xs ++ [v]) (ds ++ [d]) (g ++ f) := by
      have := hfa.app (.cons fo .nil : FoAll c H [v] [d] (f ++ []))
      rw [List.append_nil] at this
      exact this.up (fun _ _ s => sqT_upd hp s) fun a ha o z => by
        have : a ≠ p := fun w => hpg (w ▸ ha)
        rw [upd_ne this]; exact z
    have := up2 O (upd H p (.lst (xs ++ [v]))) (some (.ref p)) (some (.o (.list (ds ++ [d])))) (p :: (g ++ f)) (fun y t h q z => ?_) ⟨.ref p, rfl, .lst upd_same fa⟩
    · rw [hσ] at this
      exact ⟨_, this, nd2, subs⟩
    · cases t with
      | none => exact z
      | some t =>
        cases t with
        | v d => exact ⟨z.1, z.2.elim fun v hv => ⟨v, hv.1, by rw [em]; exact hv.2⟩⟩
        | o d =>
          refine z.elim fun v hv => ⟨v, hv.1, hv.2.up (fun _ _ s => sqT_upd hp s) fun a ha o ho => ?_⟩
          rw [upd_ne (np a (q a ha))]
          exact ho
        | r y => exact z
        | d u =>
          refine z.elim fun a ⟨w1, w2, w3, w4⟩ => ⟨a, w1, w2, ?_, w4⟩
          rw [upd_ne (np a (q a (by rw [w1]; simp)))]
          exact w3
        | w ds =>
          refine z.elim fun a ⟨xs, w1, w2, w3, w4⟩ => ⟨a, xs, w1, w2, ?_, by rw [em]; exact w4⟩
          rw [upd_ne (np a (q a (by rw [w1]; simp)))]
          exact w3
end
end Lm


/-! zip of a list and a tuple -/
namespace Lm
open PySem PySem.Spec PyProof.Rows L2
def ItM (t : Bool) (h : Heap) (i a : Addr) (k : Nat) : Prop := match t with
  | true => h.IsListIter i a k
  | false => h.IsTupleIter i a k
theorem ItM.at {t : Bool} {h h' : Heap} {i a : Addr} {k : Nat} (x : ItM t h i a k) (f : ∀ o, h.get? i = some o → h'.get? i = some o) : ItM t h' i a k := by
  cases t
  · exact Heap.IsTupleIter.at x f
  · exact Heap.IsListIter.at x f
end Lm


/-! walks over zip of a list and a tuple; pairs that are drawn; forbidden pairs, pins, menus, bounds by levels -/
namespace Lm
open PySem PySem.Spec PyProof.Rows L2
section
variable {X : Cx} {K : PySem.W.Frag} (hK : X.K = K)
include hK
end
section
variable {c : Ct} {H H' H0 H1 H2 H3 : Hp} {O : List Addr} {Γ Γ' Γ1 : List (Option Rs)}
variable {te ta tb tx ty : TE} {k ka kb kc : Kd} {d x y z : PyData} {ds es : List PyData}
end
/-! ### mathematics -/
/-- pairs of buckets and variants, ascending -/
structure Prd (F : List (List Int)) (v b : Nat) : Prop where
  row : ∀ r ∈ F, ∃ x y : Nat, r = [(x : Int), (y : Int)] ∧ x < b ∧ y < v
  asc : F.Pairwise fun a b => TS.code 1000 a < TS.code 1000 b
  len : F.length ≤ 36
theorem Prd.filter {F : List (List Int)} {v b : Nat} (h : Prd F v b) (p : List Int → Bool) : Prd (F.filter p) v b :=
  ⟨fun r hr => h.row r (List.mem_filter.mp hr).1, h.asc.filter _, Nat.le_trans (List.length_filter_le _ _) h.len⟩
/-- pins: of different buckets -/
structure Pin (P : List (List Int)) (v b : Nat) : Prop extends Prd P v b where
  fst : P.Pairwise fun p q => p.getD 0 0 < q.getD 0 0
def psL (as : List Int) (v : Int) (b : Nat) (C : List (List Int)) : List (List Int) := (allL v b).filter fun f => decide (countsI f v = as) && ((List.range b).map fun k => decide (f.getD k 0 ∈ C.getD k [])).all id
theorem mem_psL {as f : List Int} {v : Int} {b : Nat} {C : List (List Int)} (hv : 0 ≤ v) : f ∈ psL as v b C ↔ f.length = b ∧ (∀ x ∈ f, 0 ≤ x ∧ x < v) ∧ countsI f v = as ∧ ∀ k < b, f.getD k 0 ∈ C.getD k [] := by
  unfold psL
  rw [List.mem_filter, mem_allL hv, Bool.and_eq_true, List.all_map, List.all_eq_true]
  simp only [decide_eq_true_eq, List.mem_range, Function.comp, id]
  constructor
  · rintro ⟨⟨h1, h2⟩, h3, h4⟩; exact ⟨h1, h2, h3, h4⟩
  · rintro ⟨h1, h2, h3, h4⟩; exact ⟨⟨h1, h2⟩, h3, h4⟩
def wrtI (h : Int) (ls : List Int) (y : Int) : Int := (if y = h then 1 else 0) - ls.getD y.toNat 0
def gw (own : List Int) (h : Int) (ls : List Int) : Int := mxL (own.map (wrtI h ls))
def gwS (C : List (List Int)) (f ls : List Int) : Int := ((C.zip f).map fun p => gw p.1 p.2 ls).sum
def mulI (a b : Int) : Int := a * b
theorem gw_ge {own ls : List Int} {h y : Int} (hy : y ∈ own) : wrtI h ls y ≤ gw own h ls := mxL_le _ (List.mem_map_of_mem hy)
/-- no row keeps more than the bound, less the levels it takes -/
theorem kept_le {ls : List Int} : ∀ {C : List (List Int)} {f r : List Int}, C.length = f.length → r.length = f.length → (∀ k < r.length, r.getD k 0 ∈ C.getD k []) →
    (f.length : Int) - zs ne1 f r ≤ gwS C f ls + (r.map fun y => ls.getD y.toNat 0).sum
  | [], [], [], _, _, _ => by simp [gwS, zs]
  | own :: C, h :: f, y :: r, h1, h2, hm => by
    have ih := kept_le (ls := ls) (C := C) (f := f) (r := r) (by simpa using h1) (by simpa using h2) fun k hk => by have := hm (k + 1) (by simpa using hk); simpa using this
    have m0 : y ∈ own := by have := hm 0 (by simp); simpa using this
    have g := gw_ge (ls := ls) (h := h) m0
    have e : gwS (own :: C) (h :: f) ls = gw own h ls + gwS C f ls := by simp [gwS]
    have en : ne1 h y = if h = y then 0 else 1 := rfl
    rw [zs_cons, e, en, List.map_cons, List.sum_cons, List.length_cons]
    unfold wrtI at g
    by_cases q : h = y
    · rw [if_pos q.symm] at g
      rw [if_pos q]
      omega
    · rw [if_neg (fun z => q z.symm)] at g
      rw [if_neg q]
      omega
  | [], _ :: _, _, h, _, _ => by simp at h
  | _ :: _, [], _, h, _, _ => by simp at h
  | _, [], _ :: _, _, h, _ => by simp at h
  | _, _ :: _, [], _, h, _ => by simp at h
theorem nil_sum {α : Type} : ∀ l : List α, (l.map fun _ => (0 : Int)).sum = 0
  | [] => rfl
  | _ :: l => by rw [List.map_cons, List.sum_cons, nil_sum l]; rfl
theorem pick_sum {g : Nat → Int} {x : Nat} : ∀ n : Nat, x < n → ((List.range n).map fun k => if k = x then g k else 0).sum = g x
  | 0, h => by omega
  | n + 1, h => by
    rw [List.range_succ, List.map_append, List.sum_append, List.map_singleton, List.sum_singleton]
    by_cases e : x = n
    · subst e
      have : ((List.range x).map fun k => if k = x then g k else 0) = (List.range x).map fun _ => (0 : Int) := List.map_congr_left fun k hk => if_neg (by have := List.mem_range.mp hk; omega)
      rw [this, if_pos rfl, nil_sum]
      omega
    · rw [pick_sum n (by omega), if_neg (fun z => e z.symm)]
      omega
/-- what the levels give in all -/
theorem lev_sum {ls : List Int} {v : Nat} (hl : ls.length = v) : ∀ {r : List Int}, (∀ x ∈ r, 0 ≤ x ∧ x < (v : Int)) → (r.map fun y => ls.getD y.toNat 0).sum = zs mulI (countsI r v) ls
  | [], _ => by
    unfold zs
    rw [countsI_len, Int.toNat_natCast]
    have : ((List.range v).map fun j => mulI ((countsI [] v).getD j 0) (ls.getD j 0)) = (List.range v).map fun _ => (0 : Int) := List.map_congr_left fun j hj => by
      rw [countsI_get (by have := List.mem_range.mp hj; omega)]
      simp [mulI]
    rw [this, nil_sum]
    rfl
  | y :: r, h => by
    have ih := lev_sum hl (r := r) fun x hx => h x (by simp [hx])
    obtain ⟨y0, y1⟩ := h y (by simp)
    obtain ⟨Y, rfl⟩ := Int.eq_ofNat_of_zero_le y0
    rw [List.map_cons, List.sum_cons, ih, Int.toNat_natCast]
    unfold zs
    rw [countsI_len, countsI_len, Int.toNat_natCast]
    have e : ∀ j ∈ List.range v, mulI ((countsI ((Y : Int) :: r) v).getD j 0) (ls.getD j 0) = (if j = Y then ls.getD j 0 else 0) + mulI ((countsI r v).getD j 0) (ls.getD j 0) := fun j hj => by
      have hj' : (j : Int) < v := by have := List.mem_range.mp hj; omega
      rw [countsI_get hj', countsI_get hj', List.count_cons]
      unfold mulI
      by_cases q : j = Y
      · subst q
        simp [Int.add_mul]
        omega
      · have : ¬ ((Y : Int) = (j : Int)) := by omega
        simp [q, this]
    rw [List.map_congr_left e]
    have add : ∀ (f g : Nat → Int) (l : List Nat), (l.map fun i => f i + g i).sum = (l.map f).sum + (l.map g).sum := fun f g l => by
      induction l with
      | nil => rfl
      | cons a l ih => rw [List.map_cons, List.sum_cons, List.map_cons, List.sum_cons, List.map_cons, List.sum_cons, ih]; omega
    rw [add, pick_sum (g := fun j => ls.getD j 0) v (by omega)]
/-- no possible assignment keeps more than the bound -/
theorem weak {as f r ls : List Int} {v b : Nat} {C : List (List Int)} (hC : C.length = b) (hf : f.length = b) (hl : ls.length = v) (hr : r ∈ psL as v b C) : [] ∉ C ∧ (b : Int) - zs ne1 f r ≤ zs mulI as ls + gwS C f ls := by
  obtain ⟨h1, h2, h3, h4⟩ := (mem_psL (by omega)).mp hr
  refine ⟨fun z => ?_, ?_⟩
  · obtain ⟨k, hk, e⟩ := List.getElem_of_mem z
    have := h4 k (by omega)
    rw [List.getD_eq_getElem?_getD, List.getD_eq_getElem?_getD, List.getElem?_eq_getElem hk, e] at this
    simp at this
  · have := kept_le (ls := ls) (C := C) (f := f) (r := r) (by omega) (by omega) fun k hk => h4 k (by omega)
    rw [lev_sum hl h2, h3] at this
    omega
end Lm


/-! forbidden pairs and pins that are drawn; promises -/
namespace Lm
open PySem PySem.Spec PyProof.Rows L2
structure PrdN (F : List (List Int)) (v n m : Nat) : Prop where
  row : ∀ r ∈ F, ∃ x y : Nat, r = [(x : Int), (y : Int)] ∧ y < v ∧ x * 1000 + y < n * 1000 + m
  asc : F.Pairwise fun a b => TS.code 1000 a < TS.code 1000 b
  len : F.length ≤ n * v + m
theorem PrdN.nil {v : Nat} : PrdN [] v 0 0 := ⟨by simp, List.Pairwise.nil, by simp⟩
structure PinN (P : List (List Int)) (v n : Nat) : Prop where
  row : ∀ r ∈ P, ∃ x y : Nat, r = [(x : Int), (y : Int)] ∧ x < n ∧ y < v
  fst : P.Pairwise fun p q => p.getD 0 0 < q.getD 0 0
  len : P.length ≤ n
theorem PinN.nil {v : Nat} : PinN [] v 0 := ⟨by simp, List.Pairwise.nil, by simp⟩
theorem Pin.nil {v b : Nat} : Pin [] v b := { row := by simp, fst := List.Pairwise.nil, len := by simp, asc := List.Pairwise.nil }
structure Exc (as f : List Int) (F P : List (List Int)) (v b : Nat) : Prop where
  v1 : 1 ≤ v
  v5 : v ≤ 5
  b6 : b ≤ 6
  asg : Asg f (v : Int)
  len : f.length = b
  alc : Alc as (v : Int) (b : Int)
  prd : Prd F v b
  pin : Pin P v b
end Lm


/-! lists that stay: displays of anything, put together, subscripts -/
namespace Lm
open PySem PySem.Spec PyProof.Rows L2
section
variable {X : Cx} {K : PySem.W.Frag} (hK : X.K = K)
include hK
end
section
variable {c : Ct} {Γ : List (Option Rs)} {te ta tb : TE} {tr : TA} {k ka kb : Kd} {d : PyData} {ds es : List PyData}
theorem Ev.frz (h : Ev c te Γ .o d) : Ev c te Γ .v d := fun H0 O H σ e Q q => h H0 O H σ e _ fun v H2 r s => q v H2 r (Res.frozen e r s ko_ne)
/-- a new list of things that stay -/
theorem newV {H0 H H2 : Hp} {O : List Addr} {σ : L2.St} {xs : List V} {p : Addr} (e : Env c H0 O H2 σ Γ) (al : BoAll c (mns H2 O) xs ds) (hp : H2 p = none) : Bo c (mns (upd H2 p (.lst xs)) O) (.ref p) (.list ds) := by
  have sm : Same H2 (upd H2 p (.lst xs)) := fun b o z => by rw [upd_ne (ne_of_none z hp)]; exact z
  have r4 : Rr c H2 (upd H2 p (.lst xs)) := Rr.same sm
  have no := new_notO e hp
  refine .lst (okA.fresh e.jH hp) (.inl ?_) (al.mono e.j (r4.mns e.j e.okO))
  left
  rw [mns_out no]
  exact upd_same
theorem e_lstV (h : EvA c tr Γ true ds) (hl : ds.length ≤ 1000000) : Ev c (tLst tr) Γ .v (.list ds) := fun H0 O H σ e Q q =>
  h H0 O H σ e _ fun vs H1 r s => by
    have s' := BoAll.vm s
    refine ⟨by rw [s'.len]; exact sizeOk hl, fun p hp => q _ _ (r.tr (Rr.same fun b u z => by rw [upd_ne (ne_of_none z hp)]; exact z)) (newV (H := H1) (e.on r) s' hp)⟩
end
end Lm


/-! possible assignments: which come first, what is none -/
namespace Lm
open PySem PySem.Spec PyProof.Rows L2
theorem mem_ps {as f : List Int} {v b : Nat} {C : List (List Int)} (al : as.length = v) (hC : C.length = b) (hr : Rng C v) : f ∈ psL as v b C ↔ Fits as C f := by
  rw [mem_psL (by omega), fits_iff (by rw [al]; exact hr), hC]
  have cnt : (countsI f v = as ↔ ∀ x < as.length, (f.count (x : Int) : Int) = as.getD x 0) := by
    constructor
    · intro h x hx
      rw [← h, countsI_get (by omega)]
    · intro h
      apply List.ext_getElem
      · rw [countsI_len]; omega
      · intro i h1 h2
        have e1 : (countsI f v).getD i 0 = (f.count (i : Int) : Int) := countsI_get (by omega)
        rw [h i h2] at e1
        simpa [List.getD_eq_getElem?_getD, h1, h2] using e1
  constructor
  · rintro ⟨h1, h2, h3, h4⟩
    exact ⟨h1, fun i hi => h4 i (by omega), cnt.mp h3⟩
  · rintro ⟨h1, h2, h3⟩
    refine ⟨h1, fun x hx => ?_, cnt.mpr h3, fun k hk => h2 k (by omega)⟩
    obtain ⟨i, hi⟩ := List.getElem?_of_mem hx
    have il := (List.getElem?_eq_some_iff.mp hi).1
    have m := h2 i il
    have fx : f.getD i 0 = x := by rw [List.getD_eq_getElem?_getD, hi]; rfl
    rw [fx] at m
    exact hr _ (gL_mem (by omega)) x m
end Lm


/-! entries of families -/
namespace Lm
open PySem PySem.Spec PyProof.Rows L2
def gsL (F : List (List Int)) (n : Nat) : List Int := (List.range n).map fun p => mxL (F.map fun r => r.getD p 0)
def entI (i : Nat) (n : Int) : List (List Int) := (List.range n.toNat).map fun (p : Nat) => [((i + 1 : Nat) : Int), (p : Int)]
def entL (ns : List Int) : List (List Int) := (List.range ns.length).flatMap fun i => entI i (ns.getD i 0)
/-- the row uses the entry -/
def usB (r e : List Int) : Bool := decide (e.getD 1 0 < r.getD (e.getD 0 0 - 1).toNat 0)
def togB (F : List (List Int)) (e f : List Int) : Bool := !decide (e = f) && (F.map fun r => usB r e && usB r f).any id
/-- the entries -/
theorem mem_ent {ns e : List Int} : e ∈ entL ns ↔ ∃ x y : Nat, e = [((x + 1 : Nat) : Int), (y : Int)] ∧ x < ns.length ∧ (y : Int) < ns.getD x 0 := by
  unfold entL entI
  simp only [List.mem_flatMap, List.mem_map, List.mem_range]
  constructor
  · rintro ⟨x, hx, y, hy, rfl⟩
    exact ⟨x, y, rfl, hx, by omega⟩
  · rintro ⟨x, y, rfl, hx, hy⟩
    exact ⟨x, hx, y, by omega, rfl⟩
end Lm


/-! sorted(xs), xs a list of rows -/
namespace L2
open PySem PySem.Spec PyProof.Rows
end L2
namespace Lm
open PySem PySem.Spec PyProof.Rows L2
section
variable {X : Cx} {K : PySem.W.Frag} (hK : X.K = K)
include hK
end
section
variable {c : Ct} {Γ : List (Option Rs)} {te : TE} {k : Kd}
end
end Lm


/-! tuple * -1 -/
namespace L2
open PySem PySem.Spec PyProof.Rows
end L2
namespace Lm
open PySem PySem.Spec PyProof.Rows L2
section
variable {X : Cx} {K : PySem.W.Frag} (hK : X.K = K)
include hK
end
section
variable {c : Ct} {Γ : List (Option Rs)} {ta tb : TE} {ka kb : Kd} {ds : List PyData} {i : Int}
end
end Lm


namespace Lm
open PySem PySem.Spec PyProof.Rows L2

/-! ### pairs of entries that are used together -/
abbrev E2 := List Int × List Int
structure UsP (A : List (List Int)) (s : List Int) (k : Nat) (Ps : List E2) : Prop where
  nd : Ps.Nodup
  mem : ∀ e f, (e, f) ∈ Ps ↔ (∃ r ∈ A, e ∈ entL r ∧ f ∈ entL r ∧ e ≠ f) ∨ (e ∈ (entL s).take k ∧ f ∈ entL s ∧ e ≠ f)
theorem UsP.nil : UsP [] [] 0 [] := ⟨List.nodup_nil, fun e f => by simp⟩
def newP (s e : List Int) (Ps : List E2) : List E2 := ((entL s).filter fun g => !decide (e = g) && !decide ((e, g) ∈ Ps)).map fun g => (e, g)
theorem UsP.step {A : List (List Int)} {s e : List Int} {k : Nat} {Ps : List E2} (h : UsP A s k Ps) (nd : (entL s).Nodup) (hk : (entL s)[k]? = some e) : UsP A s (k + 1) (Ps ++ newP s e Ps) := by
  refine ⟨?_, fun a b => ?_⟩
  · rw [List.nodup_append]
    refine ⟨h.nd, ?_, fun x hx y hy z => ?_⟩
    · exact List.Pairwise.map _ (fun a b ne z => ne (Prod.mk.inj z).2) (nd.filter _)
    · obtain ⟨g, hg, rfl⟩ := List.mem_map.mp hy
      have := (List.mem_filter.mp hg).2
      rw [Bool.and_eq_true] at this
      subst z
      have w := this.2
      rw [decide_eq_true hx] at w
      cases w
  · rw [List.mem_append, h.mem, List.take_add_one, hk]
    constructor
    · rintro ((w | w) | w)
      · exact .inl w
      · exact .inr ⟨List.mem_append_left _ w.1, w.2⟩
      · obtain ⟨g, hg, z⟩ := List.mem_map.mp w
        obtain ⟨rfl, rfl⟩ := Prod.mk.inj z
        obtain ⟨m, q⟩ := List.mem_filter.mp hg
        rw [Bool.and_eq_true] at q
        refine .inr ⟨by simp, m, ?_⟩
        have := q.1
        simpa using this
    · rintro (w | ⟨w1, w2, w3⟩)
      · exact .inl (.inl w)
      · rcases List.mem_append.mp w1 with q | q
        · exact .inl (.inr ⟨q, w2, w3⟩)
        · have q : a = e := by simpa using q
          subst q
          by_cases m : (a, b) ∈ Ps
          · exact .inl ((h.mem a b).mp m)
          · refine .inr (List.mem_map.mpr ⟨b, List.mem_filter.mpr ⟨w2, ?_⟩, rfl⟩)
            simp [m, w3]
theorem UsP.len {A : List (List Int)} {s : List Int} {k : Nat} {Ps : List E2} (h : UsP A s k Ps) (hA : ∀ r ∈ s :: A, r.length ≤ 4 ∧ ∀ x ∈ r, x ≤ 10) : Ps.length ≤ 1600 := by
  have big : ∀ r ∈ s :: A, ∀ e ∈ entL r, e ∈ entL [10, 10, 10, 10] := fun r hr e he => by
    obtain ⟨x, y, rfl, hx, hy⟩ := mem_ent.mp he
    have hs' := hA r hr
    have := hs'.2 _ (gd_mem hx)
    refine mem_ent.mpr ⟨x, y, rfl, by show x < 4; omega, ?_⟩
    have x4 : x < 4 := by omega
    have : ([10, 10, 10, 10] : List Int).getD x 0 = 10 := by
      match x, x4 with
      | 0, _ => rfl
      | 1, _ => rfl
      | 2, _ => rfl
      | 3, _ => rfl
    omega
  have l40 : (entL [10, 10, 10, 10]).length = 40 := by decide
  refine Nat.le_trans (nodup_sub (m := (entL [10, 10, 10, 10]).flatMap fun e => (entL [10, 10, 10, 10]).map fun f => (e, f)) h.nd fun p hp => ?_) ?_
  · obtain ⟨e, f⟩ := p
    have m : ∃ r ∈ s :: A, e ∈ entL r ∧ f ∈ entL r := by
      rcases (h.mem e f).mp hp with ⟨r, hr, h1, h2, _⟩ | ⟨h1, h2, _⟩
      · exact ⟨r, List.mem_cons_of_mem _ hr, h1, h2⟩
      · exact ⟨s, List.mem_cons_self, List.mem_of_mem_take h1, h2⟩
    obtain ⟨r, hr, h1, h2⟩ := m
    exact List.mem_flatMap.mpr ⟨e, big r hr e h1, List.mem_map_of_mem (big r hr f h2)⟩
  · have : ∀ (l m : List (List Int)), (l.flatMap fun e => m.map fun f => (e, f)).length = l.length * m.length := by
      intro l m
      induction l with
      | nil => simp
      | cons a l ih => rw [List.flatMap_cons, List.length_append, ih, List.length_map, List.length_cons, Nat.succ_mul]; omega
    rw [this, l40]
    decide
end Lm


namespace Lm
open PySem PySem.Spec PyProof.Rows L2

/-! ### while -/
section
variable {c : Ct} {H0 H : Hp} {O : List Addr} {σ : L2.St} {Γ : List (Option Rs)} {P : Out → Prop} {tc : TT} {tb u : TS}
theorem s_while (I : Nat → List (Option Rs) → Prop) {n0 : Nat} (h0 : I n0 Γ)
    (hs : ∀ n Γ1, I n Γ1 → ∃ b, EvT c tc Γ1 b ∧ (b = true → Sd c tb Γ1 (fun o => (∃ Γ3 m, (o = .nx Γ3 ∨ o = .ct Γ3) ∧ m < n ∧ I m Γ3) ∨ (∃ Γ3, o = .bk Γ3 ∧ P (.nx Γ3)) ∨ ∃ k d, o = .rt k d ∧ P o)) ∧ (b = false → P (.nx Γ1))) :
    Sd c (tWhile tc tb) Γ P := fun H0 O H σ D e s => by
  refine ⟨fun n σ' H' => ∃ O' Γ', I n Γ' ∧ Env c H0 O' H' σ' Γ', ⟨n0, O, Γ, h0, e⟩, ?_⟩
  rintro n σ' H' ⟨O', Γ', hI, e'⟩
  obtain ⟨b, ht, hb, hn⟩ := hs n Γ' hI
  refine ht _ _ _ _ e' _ fun H2 r2 => ?_
  cases b with
  | true =>
    rw [if_pos rfl]
    refine ⟨fun σ4 H4 => ∃ m, m < n ∧ ∃ O4 Γ4, I m Γ4 ∧ Env c H0 O4 H4 σ4 Γ4, fun σ4 H4 h => h, ?_⟩
    refine hb rfl _ _ _ _ _ (e'.on r2) fun o po => ?_
    rcases po with ⟨Γ3, m, ho, hm, h3⟩ | ⟨Γ3, ho, h3⟩ | ⟨k, d, ho, h3⟩
    · rcases ho with rfl | rfl
      · exact fun O4 H4 σ4 e4 => ⟨m, hm, O4, Γ3, h3, e4⟩
      · exact fun O4 H4 σ4 e4 => ⟨m, hm, O4, Γ3, h3, e4⟩
    · subst ho; exact fun O4 H4 σ4 e4 => s _ h3 O4 H4 σ4 e4
    · subst ho; exact s _ h3
  | false =>
    rw [if_neg (by decide)]
    exact s _ (hn rfl) _ _ _ (e'.on r2)
theorem q_while (I : Nat → List (Option Rs) → Prop) {n0 : Nat} (h0 : I n0 Γ)
    (hs : ∀ n Γ1, I n Γ1 → ∃ b, EvT c tc Γ1 b ∧ (b = true → Sd c tb Γ1 (fun o => (∃ Γ3 m, (o = .nx Γ3 ∨ o = .ct Γ3) ∧ m < n ∧ I m Γ3) ∨ (∃ Γ3, o = .bk Γ3 ∧ Sd c u Γ3 P) ∨ ∃ k d, o = .rt k d ∧ P o)) ∧ (b = false → Sd c u Γ1 P)) :
    Sd c (tSeq (tWhile tc tb) u) Γ P := by
  refine s_seq (P1 := fun o => (∃ Γ1, o = .nx Γ1 ∧ Sd c u Γ1 P) ∨ ∃ k d, o = .rt k d ∧ P o) (s_while I h0 fun n Γ1 hI => ?_) ?_ ?_ ?_ ?_
  · obtain ⟨b, ht, hb, hn⟩ := hs n Γ1 hI
    refine ⟨b, ht, fun e => (hb e).imp fun o po => ?_, fun e => .inl ⟨_, rfl, hn e⟩⟩
    rcases po with w | ⟨Γ3, ho, h3⟩ | ⟨k, d, ho, h3⟩
    · exact .inl w
    · exact .inr (.inl ⟨Γ3, ho, .inl ⟨_, rfl, h3⟩⟩)
    · exact .inr (.inr ⟨k, d, ho, .inr ⟨k, d, ho, h3⟩⟩)
  · rintro Γ1 (⟨Γ2, e, h⟩ | ⟨k, d, e, _⟩)
    · cases e; exact h
    · cases e
  · rintro k d (⟨Γ2, e, h⟩ | ⟨k', d', e, h⟩)
    · cases e
    · exact h
  · rintro Γ1 (⟨Γ2, e, h⟩ | ⟨k', d', e, h⟩) <;> cases e
  · rintro Γ1 (⟨Γ2, e, h⟩ | ⟨k', d', e, h⟩) <;> cases e
end

/-! ### levels: the mathematics -/
def bvI (own : List Int) (h : Int) (ls : List Int) : List Int := own.filter fun y => decide (wrtI h ls y = gw own h ls)
def bvL (C : List (List Int)) (f ls : List Int) : List (List Int) := (C.zip f).map fun p => bvI p.1 p.2 ls
def upS (c : Int) (p : Pk) (ls : List Int) : List Int := (List.range ls.length).map fun y => ls.getD y 0 + c * b1 (p y)
def bnd (as f : List Int) (C : List (List Int)) (ls : List Int) : Int := zs mulI as ls + gwS C f ls
theorem upS_len {c : Int} {p : Pk} {ls : List Int} : (upS c p ls).length = ls.length := by simp [upS]
theorem upS_get {c : Int} {p : Pk} {ls : List Int} {y : Nat} (h : y < ls.length) : (upS c p ls).getD y 0 = ls.getD y 0 + c * b1 (p y) := by
  unfold upS
  rw [List.getD_eq_getElem?_getD, List.getElem?_map, List.getElem?_range h]
  rfl
theorem sumM_add {α : Type} (g h : α → Int) : ∀ l : List α, (l.map fun x => g x + h x).sum = (l.map g).sum + (l.map h).sum
  | [] => rfl
  | a :: l => by simp only [List.map_cons, List.sum_cons, sumM_add g h l]; omega
theorem sumM_mul {α : Type} (c : Int) (h : α → Int) : ∀ l : List α, (l.map fun x => c * h x).sum = c * (l.map h).sum
  | [] => by simp
  | a :: l => by simp only [List.map_cons, List.sum_cons, sumM_mul c h l, Int.mul_add]
theorem zs_up {as ls : List Int} (c : Int) (p : Pk) (h : as.length = ls.length) : zs mulI as (upS c p ls) = zs mulI as ls + c * rmP as p := by
  unfold zs rmP
  rw [← sumM_mul, ← sumM_add]
  congr 1
  refine List.map_congr_left fun j hj => ?_
  have := List.mem_range.mp hj
  rw [upS_get (by omega)]
  unfold mulI b1
  rw [Int.mul_add]
  by_cases q : p j = true
  · rw [if_pos q, if_pos q, Int.mul_one, Int.mul_comm c]
  · rw [if_neg q, if_neg q]; simp
theorem wrt_up {h c : Int} {p : Pk} {ls : List Int} {y : Int} (y0 : 0 ≤ y) (yl : y < ls.length) : wrtI h (upS c p ls) y = wrtI h ls y - c * b1 (p y.toNat) := by
  unfold wrtI
  rw [upS_get (by omega)]
  omega
theorem gw_mem {own ls : List Int} {h : Int} (ne : own ≠ []) : ∃ y ∈ own, wrtI h ls y = gw own h ls := by
  obtain ⟨y, hy, e⟩ := List.mem_map.mp (mxL_mem (ns := own.map (wrtI h ls)) (by rw [List.length_map]; exact List.length_pos_iff.mpr ne))
  exact ⟨y, hy, e⟩
theorem gw_top {own ls : List Int} {h m : Int} (ne : own ≠ []) (hm : ∀ y ∈ own, wrtI h ls y ≤ m) : gw own h ls ≤ m := by
  obtain ⟨y, hy, e⟩ := gw_mem (h := h) (ls := ls) ne
  rw [← e]; exact hm y hy
theorem mem_bvI {own ls : List Int} {h y : Int} : y ∈ bvI own h ls ↔ y ∈ own ∧ wrtI h ls y = gw own h ls := by
  unfold bvI
  rw [List.mem_filter, decide_eq_true_iff]
theorem ins_iff {p : Pk} {own : List Int} : insP p own = true ↔ ∀ y ∈ own, p y.toNat = true := by
  unfold insP
  rw [List.all_eq_true]
theorem b1_nn (b : Bool) : 0 ≤ b1 b ∧ b1 b ≤ 1 := by cases b <;> simp [b1]
theorem gw_step {own ls : List Int} {h : Int} {p : Pk} (ne : own ≠ []) (hr : ∀ y ∈ own, 0 ≤ y ∧ y < ls.length) : gw own h (upS 1 p ls) = gw own h ls - b1 (insP p (bvI own h ls)) := by
  have wr : ∀ y ∈ own, wrtI h (upS 1 p ls) y = wrtI h ls y - b1 (p y.toNat) := fun y hy => by
    rw [wrt_up (hr y hy).1 (hr y hy).2]; omega
  obtain ⟨y1, m1, e1⟩ := gw_mem (h := h) (ls := upS 1 p ls) ne
  by_cases hc : insP p (bvI own h ls) = true
  · rw [hc]
    have hp := ins_iff.mp hc
    obtain ⟨y0, m0, e0⟩ := gw_mem (h := h) (ls := ls) ne
    have g0 := gw_ge (ls := upS 1 p ls) (h := h) m0
    rw [wr y0 m0, hp y0 (mem_bvI.mpr ⟨m0, e0⟩), e0] at g0
    have g1 := gw_ge (ls := ls) (h := h) m1
    rw [wr y1 m1] at e1
    show gw own h (upS 1 p ls) = gw own h ls - 1
    have b11 : b1 true = 1 := rfl
    by_cases q : wrtI h ls y1 = gw own h ls
    · rw [hp y1 (mem_bvI.mpr ⟨m1, q⟩)] at e1
      omega
    · have := b1_nn (p y1.toNat)
      omega
  · have hc' : insP p (bvI own h ls) = false := by simpa using hc
    rw [hc']
    have : ∃ y ∈ bvI own h ls, p y.toNat = false := by
      unfold insP at hc'
      rw [List.all_eq_false] at hc'
      obtain ⟨y, hy, q⟩ := hc'
      exact ⟨y, hy, by simpa using q⟩
    obtain ⟨y0, hy0, q0⟩ := this
    obtain ⟨m0, e0⟩ := mem_bvI.mp hy0
    have g0 := gw_ge (ls := upS 1 p ls) (h := h) m0
    rw [wr y0 m0, q0, e0] at g0
    have g1 := gw_ge (ls := ls) (h := h) m1
    rw [wr y1 m1] at e1
    have := b1_nn (p y1.toNat)
    have b10 : b1 false = 0 := rfl
    omega
/-- lowered by 1 where they are above a gap -/
theorem gw_down {own ls : List Int} {h t : Int} {p : Pk} (ne : own ≠ []) (hr : ∀ y ∈ own, 0 ≤ y ∧ y < ls.length) (hp : ∀ y < ls.length, p y = decide (t < ls.getD y 0)) (gap : ∀ y < ls.length, ls.getD y 0 ≠ t) :
    gw own h (upS (-1) p ls) ≤ gw own h ls + b1 (insP p own) := by
  have wr : ∀ y ∈ own, wrtI h (upS (-1) p ls) y = wrtI h ls y + b1 (p y.toNat) := fun y hy => by
    rw [wrt_up (hr y hy).1 (hr y hy).2]; omega
  refine gw_top ne fun y hy => ?_
  rw [wr y hy]
  have g := gw_ge (ls := ls) (h := h) hy
  by_cases hc : insP p own = true
  · rw [hc]
    have := b1_nn (p y.toNat)
    have b11 : b1 true = 1 := rfl
    omega
  · have hc' : insP p own = false := by simpa using hc
    rw [hc']
    have b10 : b1 false = 0 := rfl
    have b11 : b1 true = 1 := rfl
    have : ∃ z ∈ own, p z.toNat = false := by
      unfold insP at hc'
      rw [List.all_eq_false] at hc'
      obtain ⟨y, hy, q⟩ := hc'
      exact ⟨y, hy, by simpa using q⟩
    obtain ⟨z, hz, q⟩ := this
    have zr := hr z hz
    have yr := hr y hy
    rw [hp _ (by omega)] at q
    have q' := of_decide_eq_false q
    have gz := gap z.toNat (by omega)
    have g2 := gw_ge (ls := ls) (h := h) hz
    cases py : p y.toNat with
    | false => omega
    | true =>
      rw [hp _ (by omega)] at py
      have py' := of_decide_eq_true py
      unfold wrtI at g2 ⊢
      have a1 : (0 : Int) ≤ if z = h then 1 else 0 := by split <;> decide
      have a2 : (if y = h then (1 : Int) else 0) ≤ 1 := by split <;> decide
      omega
theorem bv_cons {own : List Int} {C : List (List Int)} {h : Int} {f ls : List Int} : bvL (own :: C) (h :: f) ls = bvI own h ls :: bvL C f ls := rfl
theorem gwS_cons {own : List Int} {C : List (List Int)} {h : Int} {f ls : List Int} : gwS (own :: C) (h :: f) ls = gw own h ls + gwS C f ls := by simp [gwS]
theorem gwS_step {p : Pk} {ls : List Int} : ∀ {C : List (List Int)} {f : List Int}, C.length = f.length → [] ∉ C → Rng C ls.length → gwS C f (upS 1 p ls) = gwS C f ls - cfP (bvL C f ls) p
  | [], [], _, _, _ => by simp [gwS, bvL, cfP]
  | own :: C, h :: f, hl, ne, hr => by
    have ih := gwS_step (p := p) (ls := ls) (C := C) (f := f) (by simpa using hl) (fun z => ne (List.mem_cons_of_mem _ z)) fun o ho => hr o (List.mem_cons_of_mem _ ho)
    rw [gwS_cons, gwS_cons, bv_cons, cf_cons, ih, gw_step (fun z => ne (by rw [z]; exact List.mem_cons_self)) (hr own List.mem_cons_self)]
    omega
  | [], _ :: _, h, _, _ => by simp at h
  | _ :: _, [], h, _, _ => by simp at h
theorem gwS_down {t : Int} {p : Pk} {ls : List Int} (hp : ∀ y < ls.length, p y = decide (t < ls.getD y 0)) (gap : ∀ y < ls.length, ls.getD y 0 ≠ t) : ∀ {C : List (List Int)} {f : List Int}, C.length = f.length → [] ∉ C → Rng C ls.length → gwS C f (upS (-1) p ls) ≤ gwS C f ls + cfP C p
  | [], [], _, _, _ => by simp [gwS, cfP]
  | own :: C, h :: f, hl, ne, hr => by
    have ih := gwS_down hp gap (C := C) (f := f) (by simpa using hl) (fun z => ne (List.mem_cons_of_mem _ z)) fun o ho => hr o (List.mem_cons_of_mem _ ho)
    have := gw_down (h := h) (fun z => ne (by rw [z]; exact List.mem_cons_self)) (hr own List.mem_cons_self) hp gap
    rw [gwS_cons, gwS_cons, cf_cons]
    omega
  | [], _ :: _, h, _, _ => by simp at h
  | _ :: _, [], h, _, _ => by simp at h
theorem bnd_step {as f ls : List Int} {C : List (List Int)} {p : Pk} (hl : C.length = f.length) (ne : [] ∉ C) (hr : Rng C ls.length) (ha : as.length = ls.length) : bnd as f C (upS 1 p ls) = bnd as f C ls + rmP as p - cfP (bvL C f ls) p := by
  unfold bnd
  rw [zs_up 1 p ha, gwS_step hl ne hr]
  omega
theorem bv_rng {C : List (List Int)} {f ls : List Int} {n : Nat} (h : Rng C n) : Rng (bvL C f ls) n := fun own ho y hy => by
  obtain ⟨p, hp, rfl⟩ := List.mem_map.mp ho
  exact h p.1 (List.of_mem_zip hp).1 y (mem_bvI.mp hy).1
theorem bv_len {C : List (List Int)} {f ls : List Int} (h : C.length = f.length) : (bvL C f ls).length = C.length := by simp [bvL, h]
theorem bv_mns {C : List (List Int)} {f ls : List Int} {n : Nat} (hl : C.length = f.length) (h : Mns C n) : Mns (bvL C f ls) n := ⟨bv_rng h.rng, by rw [bv_len hl]; exact h.len, fun own ho => by
  obtain ⟨p, hp, rfl⟩ := List.mem_map.mp ho
  exact Nat.le_trans (List.length_filter_le ..) (h.own p.1 (List.of_mem_zip hp).1)⟩
theorem bv_pw {C : List (List Int)} {f ls : List Int} (h : ∀ own ∈ C, own.Pairwise (· < ·)) : ∀ own ∈ bvL C f ls, own.Pairwise (· < ·) := fun own ho => by
  obtain ⟨p, hp, rfl⟩ := List.mem_map.mp ho
  exact (h p.1 (List.of_mem_zip hp).1).filter _
/-- what is added up: the worth beyond what is kept, 0 exactly if each bucket has what is worth most to it -/
theorem slack {ls : List Int} : ∀ {C : List (List Int)} {f r : List Int}, C.length = f.length → r.length = f.length → (∀ k < r.length, r.getD k 0 ∈ C.getD k []) →
    (((f.length : Int) - zs ne1 f r = gwS C f ls + (r.map fun y => ls.getD y.toNat 0).sum) ↔ ∀ k < r.length, r.getD k 0 ∈ (bvL C f ls).getD k [])
  | [], [], [], _, _, _ => by simp [gwS, zs]
  | own :: C, h :: f, y :: r, h1, h2, hm => by
    have mt : ∀ k < r.length, r.getD k 0 ∈ C.getD k [] := fun k hk => by have := hm (k + 1) (by simpa using hk); simpa using this
    have ih := slack (ls := ls) (C := C) (f := f) (r := r) (by simpa using h1) (by simpa using h2) mt
    have kl := kept_le (ls := ls) (C := C) (f := f) (r := r) (by simpa using h1) (by simpa using h2) mt
    have m0 : y ∈ own := by have := hm 0 (by simp); simpa using this
    have g := gw_ge (ls := ls) (h := h) m0
    have en : ne1 h y = if h = y then 0 else 1 := rfl
    have hd : (∀ k < (y :: r).length, (y :: r).getD k 0 ∈ (bvL (own :: C) (h :: f) ls).getD k []) ↔ y ∈ bvI own h ls ∧ ∀ k < r.length, r.getD k 0 ∈ (bvL C f ls).getD k [] := by
      rw [bv_cons]
      constructor
      · intro w
        refine ⟨by have := w 0 (by simp); simpa using this, fun k hk => by have := w (k + 1) (by simpa using hk); simpa using this⟩
      · rintro ⟨w0, w⟩ k hk
        cases k with
        | zero => simpa using w0
        | succ k => simpa using w k (by simpa using hk)
    rw [hd, ← ih, mem_bvI, zs_cons, gwS_cons, en, List.map_cons, List.sum_cons, List.length_cons]
    unfold wrtI at g ⊢
    by_cases q : h = y
    · rw [if_pos q.symm] at g ⊢
      rw [if_pos q]
      constructor
      · intro w; exact ⟨⟨m0, by omega⟩, by omega⟩
      · rintro ⟨⟨_, w⟩, w2⟩; omega
    · rw [if_neg (show ¬ (y = h) from fun z => q z.symm)] at g ⊢
      rw [if_neg q]
      constructor
      · intro w; exact ⟨⟨m0, by omega⟩, by omega⟩
      · rintro ⟨⟨_, w⟩, w2⟩; omega
  | [], _ :: _, _, h, _, _ => by simp at h
  | _ :: _, [], _, h, _, _ => by simp at h
  | _, [], _ :: _, _, h, _ => by simp at h
  | _, _ :: _, [], _, h, _ => by simp at h
/-- a possible assignment keeps as many as the bound tells exactly if each bucket has what is worth most to it -/
theorem tight {as f r ls : List Int} {v b : Nat} {C : List (List Int)} (hC : C.length = b) (hf : f.length = b) (hl : ls.length = v) (hr : r ∈ psL as v b C) : ((b : Int) - zs ne1 f r = bnd as f C ls) ↔ r ∈ psL as v b (bvL C f ls) := by
  obtain ⟨h1, h2, h3, h4⟩ := (mem_psL (by omega)).mp hr
  have s := slack (ls := ls) (C := C) (f := f) (r := r) (by omega) (by omega) fun k hk => h4 k (by omega)
  rw [lev_sum hl h2, h3, hf] at s
  unfold bnd
  rw [Int.add_comm, s, mem_psL (by omega)]
  constructor
  · intro w; exact ⟨h1, h2, h3, fun k hk => w k (by omega)⟩
  · rintro ⟨_, _, _, w⟩ k hk; exact w k (by omega)
theorem ps_sub {as r ls f : List Int} {v b : Nat} {C : List (List Int)} (hC : C.length = b) (hf : f.length = b) (h : r ∈ psL as v b (bvL C f ls)) : r ∈ psL as v b C := by
  obtain ⟨h1, h2, h3, h4⟩ := (mem_psL (by omega)).mp h
  refine (mem_psL (by omega)).mpr ⟨h1, h2, h3, fun k hk => ?_⟩
  have := h4 k hk
  unfold bvL at this
  rw [List.getD_eq_getElem?_getD, List.getElem?_map, List.getElem?_eq_getElem (by rw [List.length_zip]; omega)] at this
  have w := (mem_bvI.mp this).1
  rw [List.getElem_zip] at w
  rw [List.getD_eq_getElem?_getD, List.getElem?_eq_getElem (by omega)]
  exact w
end Lm


namespace Lm
open PySem PySem.Spec PyProof.Rows L2

/-! ### the first levels -/
theorem vs_sizes : ∀ v < 6, (vsN v).Pairwise fun a b => a.length ≤ b.length := by decide +kernel
theorem sh_first {as : List Int} {C : List (List Int)} {s t : List Nat} (h5 : as.length ≤ 5) (h : shS as C = some s) (ht : t ∈ vsN as.length) (hl : t.length < s.length) : cfP C (inS t) ≤ roomI as t := by
  obtain ⟨_, as1, bs, e, hn⟩ := List.find?_eq_some_iff_append.mp h
  have pw := vs_sizes as.length (by omega)
  rw [e] at pw ht
  obtain ⟨_, p2, _⟩ := List.pairwise_append.mp pw
  have q := (List.pairwise_cons.mp p2).1
  rcases List.mem_append.mp ht with w | w
  · have := hn t w
    simp only [Bool.not_eq_true', decide_eq_false_iff_not] at this
    omega
  · rcases List.mem_cons.mp w with w | w
    · rw [w] at hl; omega
    · have := q t w; omega
theorem bv_point {own ls ms : List Int} {h : Int} {p q t : Pk} (le : ∀ y ∈ own, ls.getD y.toNat 0 ≤ ms.getD y.toNat 0) (hq : ∀ y ∈ own, p y.toNat = true → q y.toNat = false → ls.getD y.toNat 0 = ms.getD y.toNat 0)
    (ht : ∀ y ∈ own, p y.toNat = true → ls.getD y.toNat 0 = ms.getD y.toNat 0 → t y.toNat = true)
    (h1 : insP p (bvI own h ls) = true) (h2 : insP q (bvI own h ls) = false) : insP t (bvI own h ms) = true := by
  unfold insP at h2
  rw [List.all_eq_false] at h2
  obtain ⟨y, hy, qy⟩ := h2
  have qy : q y.toNat = false := by simpa using qy
  have hp := ins_iff.mp h1
  obtain ⟨my, ey⟩ := mem_bvI.mp hy
  have e := hq y my (hp y hy) qy
  have wle : ∀ z ∈ own, wrtI h ms z ≤ wrtI h ls z := fun z hz => by
    unfold wrtI
    have := le z hz
    omega
  have wy : wrtI h ms y = wrtI h ls y := by unfold wrtI; rw [e]
  have g1 : gw own h ms ≤ gw own h ls := gw_top (fun z => by rw [z] at my; cases my) fun z hz => by
    have a := wle z hz
    have b := gw_ge (ls := ls) (h := h) hz
    omega
  have g2 := gw_ge (ls := ms) (h := h) my
  refine ins_iff.mpr fun z hz => ?_
  obtain ⟨mz, ez⟩ := mem_bvI.mp hz
  have a := wle z mz
  have b := gw_ge (ls := ls) (h := h) mz
  have best : z ∈ bvI own h ls := mem_bvI.mpr ⟨mz, by omega⟩
  refine ht z mz (hp z best) ?_
  have : wrtI h ms z = wrtI h ls z := by omega
  unfold wrtI at this
  omega
theorem bv_count {ls ms : List Int} {p q t : Pk} : ∀ {C : List (List Int)} {f : List Int}, C.length = f.length → (∀ own ∈ C, ∀ y ∈ own, ls.getD y.toNat 0 ≤ ms.getD y.toNat 0) → (∀ own ∈ C, ∀ y ∈ own, p y.toNat = true → q y.toNat = false → ls.getD y.toNat 0 = ms.getD y.toNat 0) →
    (∀ own ∈ C, ∀ y ∈ own, p y.toNat = true → ls.getD y.toNat 0 = ms.getD y.toNat 0 → t y.toNat = true) → cfP (bvL C f ls) p ≤ cfP (bvL C f ls) q + cfP (bvL C f ms) t
  | [], [], _, _, _, _ => by simp [bvL, cfP]
  | own :: C, h :: f, hl, le, hq, ht => by
    have ih := bv_count (p := p) (q := q) (t := t) (C := C) (f := f) (by simpa using hl) (fun o ho => le o (List.mem_cons_of_mem _ ho)) (fun o ho => hq o (List.mem_cons_of_mem _ ho)) fun o ho => ht o (List.mem_cons_of_mem _ ho)
    rw [bv_cons, bv_cons, cf_cons, cf_cons, cf_cons]
    have n1 := b1_nn (insP q (bvI own h ls))
    have n2 := b1_nn (insP t (bvI own h ms))
    have n3 := b1_nn (insP p (bvI own h ls))
    have b11 : b1 true = 1 := rfl
    have b10 : b1 false = 0 := rfl
    cases e1 : insP p (bvI own h ls) with
    | false => omega
    | true =>
      cases e2 : insP q (bvI own h ls) with
      | true => omega
      | false =>
        have := bv_point (h := h) (le own List.mem_cons_self) (hq own List.mem_cons_self) (ht own List.mem_cons_self) e1 e2
        rw [this]
        omega
  | [], _ :: _, h, _, _, _ => by simp at h
  | _ :: _, [], h, _, _, _ => by simp at h
theorem nodup_lt {s t : List Nat} {y : Nat} (nd : t.Nodup) (sub : ∀ x ∈ t, x ∈ s) (hy : y ∈ s) (hn : y ∉ t) : t.length < s.length := by
  have := nodup_sub (l := y :: t) (m := s) (List.nodup_cons.mpr ⟨hn, nd⟩) fun x hx => by
    rcases List.mem_cons.mp hx with q | q
    · rw [q]; exact hy
    · exact sub x q
  rw [List.length_cons] at this
  omega
/-- a smallest set that is too small is raised below all levels that reach the bound -/
theorem below {as f ls ms : List Int} {C : List (List Int)} {s : List Nat} (h5 : as.length ≤ 5) (hl : C.length = f.length) (hr : Rng C as.length) (l1 : ls.length = as.length) (h : shS as (bvL C f ls) = some s) (hall : Hall as (bvL C f ms))
    (le : ∀ y < as.length, ls.getD y 0 ≤ ms.getD y 0) : ∀ y < as.length, (upS 1 (inS s) ls).getD y 0 ≤ ms.getD y 0 := by
  intro y hy
  rw [upS_get (by omega)]
  have a := le y hy
  by_cases ys : inS s y = true
  · by_cases eq : ls.getD y 0 = ms.getD y 0
    · exfalso
      obtain ⟨hs, short⟩ := sh_some h
      obtain ⟨t, et⟩ : ∃ t : List Nat, t = (List.range as.length).filter fun x => inS s x && !decide (ls.getD x 0 = ms.getD x 0) := ⟨_, rfl⟩
      have tv : t ∈ vsN as.length := by rw [et]; exact vs_filter ..
      have mt : ∀ x, x ∈ t ↔ x < as.length ∧ (x ∈ s ∧ ls.getD x 0 ≠ ms.getD x 0) := fun x => by
        rw [et, List.mem_filter, List.mem_range, Bool.and_eq_true]
        unfold inS
        rw [decide_eq_true_iff, Bool.not_eq_true', decide_eq_false_iff_not]
      have lt : t.length < s.length := nodup_lt (by rw [et]; exact List.nodup_range.filter _) (fun x hx => ((mt x).mp hx).2.1) (show y ∈ s from of_decide_eq_true ys) fun w => ((mt y).mp w).2.2 eq
      have few := sh_first h5 h tv lt
      rw [room_rm tv] at few
      rw [room_rm hs] at short
      have up := bv_count (ls := ls) (ms := ms) (p := inS s) (q := inS t) (t := fun x => inS s x && decide (ls.getD x 0 = ms.getD x 0)) (C := C) (f := f) hl (fun own ho z hz => by
          have := hr own ho z hz
          exact le _ (by omega)) (fun own ho z hz p1 q1 => by
          have zr := hr own ho z hz
          apply Decidable.byContradiction
          intro ne
          have : inS t z.toNat = true := decide_eq_true ((mt _).mpr ⟨by omega, of_decide_eq_true p1, ne⟩)
          rw [this] at q1; cases q1) (fun own ho z hz p1 e1 => by
          show (inS s z.toNat && decide _) = true
          rw [p1, decide_eq_true e1]; rfl)
      have ha := hall fun x => inS s x && decide (ls.getD x 0 = ms.getD x 0)
      have parts : rmP as (inS s) = rmP as (inS t) + rmP as fun x => inS s x && decide (ls.getD x 0 = ms.getD x 0) := by
        unfold rmP
        rw [← sumM_add]
        congr 1
        refine List.map_congr_left fun x hx => ?_
        have hx := List.mem_range.mp hx
        by_cases m : x ∈ s
        · have e1 : inS s x = true := decide_eq_true m
          by_cases e : ls.getD x 0 = ms.getD x 0
          · have e2 : inS t x = false := decide_eq_false fun w => ((mt x).mp w).2.2 e
            simp only [e1, e2, decide_eq_true e]; simp
          · have e2 : inS t x = true := decide_eq_true ((mt x).mpr ⟨hx, m, e⟩)
            simp only [e1, e2, decide_eq_false e]; simp
        · have e1 : inS s x = false := decide_eq_false m
          have e2 : inS t x = false := decide_eq_false fun w => m ((mt x).mp w).2.1
          simp only [e1, e2]; simp
      omega
    · have := b1_nn (inS s y)
      omega
  · have e : inS s y = false := by simpa using ys
    rw [e]
    show ls.getD y 0 + 1 * 0 ≤ _
    omega
/-- what the levels of a setting speak of -/
structure LvOk (as f : List Int) (C : List (List Int)) (v b : Nat) : Prop where
  asl : as.length = v
  fl : f.length = b
  cl : C.length = b
  mns : Mns C v
  pw : ∀ own ∈ C, own.Pairwise (· < ·)
  v5 : v ≤ 5
  b20 : b ≤ 20
  alc : Alc as (v : Int) (b : Int)
variable {as f : List Int} {C : List (List Int)} {v b : Nat}
theorem LvOk.hall_ps (h : LvOk as f C v b) : Hall as C ↔ ∃ r, r ∈ psL as v b C := by
  have hr : Rng C as.length := by rw [h.asl]; exact h.mns.rng
  have sum : as.sum = C.length := by rw [h.alc.sum, h.cl]
  constructor
  · intro ha
    exact ⟨_, (mem_ps h.asl h.cl h.mns.rng).mpr (grd_fit hr ha sum)⟩
  · rintro ⟨r, hm⟩
    exact fit_hall hr ((mem_ps h.asl h.cl h.mns.rng).mp hm)
theorem LvOk.bv (h : LvOk as f C v b) (ls : List Int) : LvOk as f (bvL C f ls) v b := ⟨h.asl, h.fl, by rw [bv_len (by rw [h.cl, h.fl]), h.cl], bv_mns (by rw [h.cl, h.fl]) h.mns, bv_pw h.pw, h.v5, h.b20, h.alc⟩
theorem zs_b : ∀ {f r : List Int}, f.length = r.length → 0 ≤ zs ne1 f r ∧ zs ne1 f r ≤ f.length
  | [], [], _ => by simp [zs]
  | x :: f, y :: r, h => by
    have := zs_b (f := f) (r := r) (by simpa using h)
    have e : ne1 x y = if x = y then 0 else 1 := rfl
    rw [zs_cons, e, List.length_cons]
    split <;> omega
  | [], _ :: _, h => by simp at h
  | _ :: _, [], h => by simp at h
theorem LvOk.no_nil (h : LvOk as f C v b) (ha : Hall as C) : [] ∉ C := by
  obtain ⟨r, hr⟩ := h.hall_ps.mp ha
  exact (weak (ls := List.replicate v 0) h.cl h.fl (by simp) hr).1
theorem LvOk.nn (h : LvOk as f C v b) (ha : Hall as C) {ls : List Int} (hl : ls.length = v) : 0 ≤ bnd as f C ls := by
  obtain ⟨r, hr⟩ := h.hall_ps.mp ha
  have w := (weak (ls := ls) h.cl h.fl hl hr).2
  have rl := ((mem_psL (by omega)).mp hr).1
  have z := zs_b (f := f) (r := r) (by rw [h.fl, rl])
  have := h.fl
  unfold bnd
  omega
theorem LvOk.step (h : LvOk as f C v b) (ha : Hall as C) {ls : List Int} {s : List Nat} (hl : ls.length = v) (hs : shS as (bvL C f ls) = some s) : bnd as f C (upS 1 (inS s) ls) < bnd as f C ls := by
  rw [bnd_step (by rw [h.cl, h.fl]) (h.no_nil ha) (by rw [hl]; exact h.mns.rng) (by rw [h.asl, hl])]
  obtain ⟨h1, h2⟩ := sh_some hs
  rw [room_rm h1] at h2
  omega
/-- the first levels: as few as can be, and by them each bucket can have what is worth most to it -/
structure Lev (as f : List Int) (C : List (List Int)) (v : Nat) (ls : List Int) : Prop where
  len : ls.length = v
  rng : ∀ y < v, 0 ≤ ls.getD y 0 ∧ ls.getD y 0 ≤ 100
  hall : Hall as (bvL C f ls)
  least : ∀ ms : List Int, ms.length = v → (∀ y < v, 0 ≤ ms.getD y 0) → Hall as (bvL C f ms) → ∀ y < v, ls.getD y 0 ≤ ms.getD y 0
theorem Lev.best (h : LvOk as f C v b) {ls : List Int} (l : Lev as f C v ls) : ∃ r, r ∈ psL as v b (bvL C f ls) ∧ r ∈ psL as v b C ∧ (b : Int) - zs ne1 f r = bnd as f C ls := by
  obtain ⟨r, hr⟩ := (h.bv ls).hall_ps.mp l.hall
  have hr2 := ps_sub h.cl h.fl hr
  exact ⟨r, hr, hr2, (tight h.cl h.fl l.len hr2).mpr hr⟩
/-- levels by which the bound is reached are levels by which each bucket can have what is worth most to it -/
theorem reach_hall (h : LvOk as f C v b) {ms r : List Int} (ml : ms.length = v) (hr : r ∈ psL as v b C) (e : (b : Int) - zs ne1 f r = bnd as f C ms) : Hall as (bvL C f ms) :=
  (h.bv ms).hall_ps.mpr ⟨r, (tight h.cl h.fl ml hr).mp e⟩
/-- there is no gap in the first levels -/
theorem Lev.gap (h : LvOk as f C v b) {ls : List Int} (l : Lev as f C v ls) {t : Int} (t0 : 0 ≤ t) {y : Nat} (hy : y < v) (hb : t < ls.getD y 0) : ∃ z < v, ls.getD z 0 = t := by
  apply Decidable.byContradiction
  intro no
  have gap : ∀ z < ls.length, ls.getD z 0 ≠ t := fun z hz e => no ⟨z, by rw [← l.len]; exact hz, e⟩
  obtain ⟨r, hr1, hr, e⟩ := l.best h
  have ha : Hall as C := h.hall_ps.mpr ⟨r, hr⟩
  obtain ⟨p, ep⟩ : ∃ p : Pk, p = fun y => decide (t < ls.getD y 0) := ⟨_, rfl⟩
  have ul : (upS (-1) p ls).length = v := by rw [upS_len]; exact l.len
  have down := gwS_down (t := t) (p := p) (ls := ls) (fun y _ => by rw [ep]) gap (C := C) (f := f) (by rw [h.cl, h.fl]) (h.no_nil ha) (by rw [l.len]; exact h.mns.rng)
  have w := (weak (ls := upS (-1) p ls) h.cl h.fl ul hr).2
  have z := zs_up (as := as) (ls := ls) (-1) p (by rw [h.asl, l.len])
  have hp := ha p
  have e2 : (b : Int) - zs ne1 f r = bnd as f C (upS (-1) p ls) := by
    unfold bnd at e ⊢
    omega
  have le := l.least _ ul (fun x hx => by
    rw [upS_get (by rw [l.len]; exact hx)]
    have r0 := (l.rng x hx).1
    have : p x = decide (t < ls.getD x 0) := by rw [ep]
    rw [this]
    by_cases q : t < ls.getD x 0
    · rw [decide_eq_true q]; show 0 ≤ ls.getD x 0 + -1 * 1; omega
    · rw [decide_eq_false q]; show 0 ≤ ls.getD x 0 + -1 * 0; omega) (reach_hall h ul hr e2) y hy
  rw [upS_get (by rw [l.len]; exact hy)] at le
  have : p y = decide (t < ls.getD y 0) := by rw [ep]
  rw [this, decide_eq_true hb] at le
  have : ls.getD y 0 ≤ ls.getD y 0 + -1 * 1 := le
  omega
theorem Lev.lt (h : LvOk as f C v b) {ls : List Int} (l : Lev as f C v ls) : ∀ x ∈ ls, 0 ≤ x ∧ x < (v : Int) := by
  intro x hx
  obtain ⟨y, hy⟩ := List.getElem?_of_mem hx
  have yl := (List.getElem?_eq_some_iff.mp hy).1
  have e : ls.getD y 0 = x := by rw [List.getD_eq_getElem?_getD, hy]; rfl
  have yv : y < v := by rw [← l.len]; exact yl
  have r0 := l.rng y yv
  refine ⟨by omega, ?_⟩
  have := nodup_sub (l := (List.range (x.toNat + 1)).map fun (i : Nat) => (i : Int)) (m := ls) (List.Pairwise.map _ (fun a b ne z => ne (by omega)) List.nodup_range) fun t ht => by
    obtain ⟨i, hi, rfl⟩ := List.mem_map.mp ht
    have hi := List.mem_range.mp hi
    by_cases q : (i : Int) = x
    · rw [q]; exact hx
    · obtain ⟨z, hz, ez⟩ := l.gap h (t := (i : Int)) (by omega) yv (by omega)
      rw [← ez]
      exact gd_mem (by rw [l.len]; exact hz)
  rw [List.length_map, List.length_range, l.len] at this
  omega
end Lm


namespace Lm
open PySem PySem.Spec PyProof.Rows L2

/-! ### promises of keeping.py, for up to 20 buckets -/
structure ExcW (as f : List Int) (F P : List (List Int)) (v b : Nat) : Prop where
  v1 : 1 ≤ v
  v5 : v ≤ 5
  b6 : b ≤ 20
  asg : Asg f (v : Int)
  len : f.length = b
  alc : Alc as (v : Int) (b : Int)
  prd : Prd F v b
  pin : Pin P v b
theorem Exc.w {as f : List Int} {F P : List (List Int)} {v b : Nat} (h : Exc as f F P v b) : ExcW as f F P v b := ⟨h.v1, h.v5, by have := h.b6; omega, h.asg, h.len, h.alc, h.prd, h.pin⟩
variable {as f : List Int} {C : List (List Int)} {v b : Nat}
end Lm


namespace Lm
open PySem PySem.Spec PyProof.Rows L2
variable {as f : List Int} {C : List (List Int)} {v b : Nat}
theorem Prd.sub {F F' : List (List Int)} (h : Prd F v b) (s : F'.Sublist F) : Prd F' v b :=
  ⟨fun r hr => h.row r (s.subset hr), h.asc.sublist s, Nat.le_trans s.length_le h.len⟩
theorem Pin.sub {F F' : List (List Int)} (h : Pin F v b) (s : F'.Sublist F) : Pin F' v b :=
  ⟨h.toPrd.sub s, h.fst.sublist s⟩
end Lm


namespace Lm
open PySem PySem.Spec PyProof.Rows L2
section
variable {c : Ct} {H H' H0 H1 H2 H3 : Hp} {O : List Addr} {σ : L2.St} {Γ Γ' : List (Option Rs)} {te ta tx : TE} {k : Kd} {u : TS} {P : Out → Prop} {n : Nat} {x : PyData}
/-! ### where no list of one's own is alive, what a call answers may be kept, lists in it too -/
def bareB : List (Option Rs) → Bool
  | [] => true
  | some (.o _) :: _ => false
  | none :: Γ => bareB Γ
  | some (.v _) :: Γ => bareB Γ
  | some (.r _) :: Γ => bareB Γ
  | some (.d _) :: _ => false
  | some (.w _) :: _ => false
theorem Reps.bare {fp : List Addr} (h : Reps c O H σ Γ fp) : bareB Γ = true → Reps c [] H σ Γ [] := by
  induction h with
  | nil => intro _; exact .nil
  | @cons x s f fs σ Γ a b ih =>
    intro hb
    cases s with
    | none => exact .cons (f := []) (fs := []) rfl (ih hb)
    | some s =>
      cases s with
      | o d => cases hb
      | d u => cases hb
      | w ds => cases hb
      | v d =>
        obtain ⟨_, v, hv, bo⟩ := a
        exact .cons (f := []) (fs := []) ⟨rfl, v, hv, by rw [mns_nil]; exact Bo.same mns_same bo⟩ (ih hb)
      | r y => exact .cons (f := []) (fs := []) ⟨rfl, a.2⟩ (ih hb)
theorem Env.bare (e : Env c H0 O H σ Γ) (hb : bareB Γ = true) : Env c H0 [] H σ Γ := by
  obtain ⟨fp, hr, _, _⟩ := e.rep
  exact ⟨by rw [mns_nil]; exact e.rH, by rw [mns_nil]; exact e.jH, (fun a h => nomatch h), (fun a h => nomatch h), [], hr.bare hb, List.nodup_nil, fun a h => nomatch h⟩
end

/-! ### any evidence (k80) -/
end Lm


namespace Lm
open PySem PySem.Spec PyProof.Rows L2

/-! ### buckets and variants renamed in a setting -/
structure RnS (as as' : List Int) (C C' : List (List Int)) (v b : Nat) (os io nm im : List Int) : Prop where
  o : IsOrd os (b : Int)
  oi : IsOrd io (b : Int)
  q : IsOrd nm (v : Int)
  qi : IsOrd im (v : Int)
  o1 : ∀ k < b, gI io (gI os ((k : Nat) : Int)) = (k : Int)
  o2 : ∀ k < b, gI os (gI io ((k : Nat) : Int)) = (k : Int)
  q1 : ∀ k < v, gI im (gI nm ((k : Nat) : Int)) = (k : Int)
  q2 : ∀ k < v, gI nm (gI im ((k : Nat) : Int)) = (k : Int)
  al : as.length = v
  al' : as'.length = v
  cl : C.length = b
  cl' : C'.length = b
  rg : Rng C v
  rg' : Rng C' v
  sh : ∀ y < v, gI as' (gI nm ((y : Nat) : Int)) = gI as (y : Int)
  mn : ∀ k < b, ∀ y < v, (gI nm ((y : Nat) : Int) ∈ C'.getD (gI os ((k : Nat) : Int)).toNat [] ↔ (y : Int) ∈ C.getD k [])
section
variable {as as' f f' os io nm im : List Int} {C C' : List (List Int)} {v b : Nat}
theorem ord_nat {os : List Int} {m : Nat} (o : IsOrd os (m : Int)) {k : Nat} (hk : k < m) : ∃ j : Nat, gI os (k : Int) = (j : Int) ∧ j < m := by
  have r := o.rng _ (gd_mem (l := os) (j := k) (by have := o.len; omega))
  exact ⟨(os.getD k 0).toNat, by show os.getD k 0 = _; omega, by omega⟩
theorem RnS.symm (h : RnS as as' C C' v b os io nm im) : RnS as' as C' C v b io os im nm := by
  refine ⟨h.oi, h.o, h.qi, h.q, h.o2, h.o1, h.q2, h.q1, h.al', h.al, h.cl', h.cl, h.rg', h.rg, fun y hy => ?_, fun k hk y hy => ?_⟩
  · obtain ⟨z, ez, hz⟩ := ord_nat h.qi hy
    have := h.sh z hz
    rw [← ez, h.q2 y hy] at this
    exact this.symm
  · obtain ⟨z, ez, hz⟩ := ord_nat h.qi hy
    obtain ⟨j, ej, hj⟩ := ord_nat h.oi hk
    have := h.mn j hj z hz
    rw [← ez, ← ej, h.q2 y hy, h.o2 k hk, Int.toNat_natCast, ez] at this
    rw [ez, ej, Int.toNat_natCast]
    exact this.symm
end
end Lm


namespace Lm
open PySem PySem.Spec PyProof.Rows L2
/-! ### a def that answers or raises -/
theorem fn_or {P : Program} {w : World} {K : PySem.W.Frag} {mg : Str → Option Value} {base : Heap} {CX : CXT} {k : Nat} {f : Addr} {fd : FuncData} {ps : List Str} {sp sp' : Sp} (F : FnOk P w K mg base CX k f fd ps sp) (G : FnOk P w K mg base CX k f fd ps sp') :
    FnOk P w K mg base CX k f fd ps (fun vs H Q E => sp vs H Q E ∨ sp' vs H Q E) :=
  ⟨fun vs H Q E h => h.elim (F.len vs H Q E) (G.len vs H Q E), fun A outer s H args us vs Q E hr he hb hv hs => hs.elim (F.run A outer s H args us vs Q E hr he hb hv) (G.run A outer s H args us vs Q E hr he hb hv)⟩
end Lm


/-! itertools.permutations(range(n), k), walked -/
namespace PrmK
open PySem PySem.Spec PyProof.Rows L2
/-- the iterator: its items' tuple, 0 before the first item, 1 behind it, 2 at the end; how many it picks; what it handed out; the places and how often each goes round -/
def cells (T : Addr) (st : Int) (r : Nat) (bf : Value) (ns : List Nat) : Array Value := ([.ref T, .int st 0, .int r 0, bf] ++ ns.map fun (i : Nat) => Value.int i 0).toArray
abbrev IsPrm (h : Heap) (it T : Addr) (st : Int) (r : Nat) (bf : Value) (ns : List Nat) : Prop := h.get? it = some { cls := .type "itertools.permutations", dict := none, data := .fields (cells T st r bf ns), slots := #[] }
end PrmK


/-! itertools.permutations(range(n), k): made, its turns -/
namespace PrmK
open PySem PySem.Spec PyProof.Rows L2
end PrmK


/-! itertools.permutations: its turns -/
namespace PrmK
open PySem PySem.Spec PyProof.Rows L2
section
variable {prog : Program} {w : World} {A : Around} {E : Value → Shared → Prop} {s : Shared} {it T : Addr} {bf : Value} {ns : List Nat} {r : Nat} {xs : Array Value}
end
end PrmK


/-! for t in itertools.permutations(range(n), k) -/
namespace Lm
open PySem PySem.Spec PyProof.Rows L2 PrmK
abbrev PrS := List Nat × List Nat
section
variable {c : Ct} {Γ : List (Option Rs)} {te tk : TE} {kd ke : Kd}
end
end Lm


/-! itertools.permutations(range(n), k): made, its turns -/
namespace PrmK
open PySem PySem.Spec PyProof.Rows L2
end PrmK


/-! list(permutations(range(n))) -/
namespace PrmK
open PySem PySem.Spec PyProof.Rows L2
end PrmK
namespace Lm
open PySem PySem.Spec PyProof.Rows L2 PrmK
/-- the iterator at its i-th turn -/
def PAt (k : Nat) (seq : List PrS) (xs : Array Value) (h : Heap) (it T : Addr) (i : Nat) : Prop := ∃ bf st ns, IsPrm h it T st k bf ns ∧ h.IsTuple T xs ∧ ((i = 0 ∧ st = 0 ∧ ∃ s, seq[0]? = some s ∧ ns = s.1 ++ s.2) ∨ (∃ j, i = j + 1 ∧ st = 1 ∧ ∃ s, seq[j]? = some s ∧ ns = s.1 ++ s.2))
theorem PAt.at {k : Nat} {seq : List PrS} {xs : Array Value} {h h' : Heap} {it T : Addr} {i : Nat} (p : PAt k seq xs h it T i) (kk : ∀ c ∈ [it, T], ∀ o, h.get? c = some o → h'.get? c = some o) : PAt k seq xs h' it T i := by
  obtain ⟨bf, st, ns, hz, ⟨o, ho, r⟩, cs⟩ := p
  exact ⟨bf, st, ns, kk it (by simp) _ hz, ⟨o, kk T (by simp) _ ho, r⟩, cs⟩
section
variable {prog : Program} {w : World} {A : Around} {E : Value → Shared → Prop} {s : Shared} {it T : Addr} {n k : Nat} {seq : List PrS} {xs : Array Value}
end
section
variable {prog : Program} {w : World} {A : Around} {R : Result → Shared → Prop}
end
section
variable {prog : Program} {w : World} {A : Around} {E : Value → Shared → Prop} {s : Shared}
end
section
variable {c : Ct} {H H' : Hp} {Γ : List (Option Rs)} {te : TE} {kd : Kd}
end
end Lm


/-! sorted(xs), xs a list of data that can be compared -/
namespace L2
open PySem PySem.Spec PyProof.Rows
end L2
namespace Lm
open PySem PySem.Spec PyProof.Rows L2
section
variable {X : Cx} {K : PySem.W.Frag} (hK : X.K = K)
include hK
end
section
variable {c : Ct} {Γ : List (Option Rs)} {te : TE} {k : Kd}
end
end Lm


/-! a comprehension whose items stay, lists in them too; a for loop over such things -/
namespace Lm
open PySem PySem.Spec PyProof.Rows L2
section
variable {c : Ct} {H H' H0 H1 H2 H3 H4 : Hp} {O : List Addr} {σ : L2.St} {Γ Γ' : List (Option Rs)} {te ta tb tx : TE} {tr : TA} {k ka kb : Kd} {u : TS} {P : Out → Prop} {n : Nat} {x d : PyData} {ds : List PyData} {fz : Bool}
end
end Lm
namespace Lm
open PySem PySem.Spec PyProof.Rows L2
/-! ### any value: what shows that a set is too small -/
def SmF (x : PyData) : Prop := ∀ es, x = .tuple es → es.length < 64
end Lm
namespace Lm
open PySem PySem.Spec PyProof.Rows L2
end Lm
namespace Lm
open PySem PySem.Spec PyProof.Rows L2
end Lm


namespace Lm
open PySem PySem.Spec PyProof.Rows L2
section
variable {c : Ct} {H H' H0 H1 H2 H3 H4 : Hp} {O : List Addr} {σ : L2.St} {Γ Γ' : List (Option Rs)} {te ta tb tx : TE} {tt : TT} {tr : TA} {k ka kb : Kd} {u : TS} {n : Nat} {x d : PyData} {ds : List PyData} {fz : Bool}
end
theorem smf_len {es : List PyData} (h : es.length < 64) : SmF (.tuple es) := fun es' e => by cases e; exact h
theorem smf_tup {ns : List Int} (h : ns.length < 64) : SmF (tupD ns) := smf_len (by simpa using h)
theorem smf_no {x : PyData} (h : ∀ es, x ≠ .tuple es) : SmF x := fun es e => absurd e (h es)
end Lm


/-! displays of which some items are drawn -/
namespace Lm
open PySem PySem.Spec PyProof.Rows L2
def EvAN (c : Ct) (ta : TA) (Γ : List (Option Rs)) (Pd : List PyData → Prop) : Prop :=
  ∀ H0 O H σ, Env c H0 O H σ Γ → ∀ Q : List V → Hp → Prop, (∀ vs ds H2, Pd ds → Rr c H H2 → BoAll c (mns H2 O) vs ds → Q vs H2) → ta σ H Q
section
variable {c : Ct} {H H' H0 H1 H2 H3 H4 : Hp} {O : List Addr} {σ : L2.St} {Γ Γ' : List (Option Rs)} {te ta tb tx : TE} {tr : TA} {k ka kb : Kd} {u : TS} {n : Nat} {x d : PyData} {ds : List PyData} {P P' : PyData → Prop} {Pd : List PyData → Prop}
theorem EvAN.imp {P2 : List PyData → Prop} (h : EvAN c tr Γ Pd) (i : ∀ ds, Pd ds → P2 ds) : EvAN c tr Γ P2 := fun H0 O H σ e Q q => h H0 O H σ e Q fun vs ds H2 p => q vs ds H2 (i ds p)
end
theorem smf_i {i : Int} : SmF (.int i) := smf_no fun es e => by cases e
end Lm


/-! sorted(xs, key=len), xs a list of lists -/
namespace L2
open PySem PySem.Spec PyProof.Rows
end L2
namespace L2
open PySem PySem.Spec PyProof.Rows
end L2
namespace Lm
open PySem PySem.Spec PyProof.Rows L2
def lenI (a b : List Int) : Bool := decide ((a.length : Int) ≤ (b.length : Int))
section
variable {c : Ct} {Γ : List (Option Rs)} {te : TE} {k : Kd}
end
end Lm
namespace Lm
open PySem PySem.Spec PyProof.Rows L2
end Lm
namespace Lm
open PySem PySem.Spec PyProof.Rows L2
end Lm
namespace Lm
open PySem PySem.Spec PyProof.Rows L2
end Lm
namespace Lm
open PySem PySem.Spec PyProof.Rows L2
def SmL (x : PyData) : Prop := ∀ es, x = .tuple es → es.length ≤ 1000 ∧ ∀ r ∈ es, SmF r
end Lm


/-! lists by whomever (k56) -/
namespace Lm
open PySem PySem.Spec PyProof.Rows L2
/-! ### rules: a slice whose end is drawn, tuples of which one is drawn -/
section
variable {c : Ct} {H H' H0 H1 H2 H3 : Hp} {O : List Addr} {Γ Γ' Γ1 : List (Option Rs)}
variable {te ta tb tx : TE} {tl th : TO} {k ka kb : Kd} {d x y z : PyData} {i j : Int} {a b : Bool} {ds es : List PyData}
end
/-! ### the mathematics -/
inductive RwX : PyData → Prop
  | row {ns : List Int} : ns.length ≤ 60 → RwX (tupD ns)
  | bad {ns : List Int} : ns.length ≤ 60 → RwX (.tuple (ns.map .int ++ [.bool true]))
  | int (i : Int) : RwX (.int i)
def LsX (x : PyData) : Prop := x = .none ∨ (∃ xs, x = .list xs) ∨ ∃ es, x = .tuple es ∧ es.length ≤ 10 ∧ ∀ e ∈ es, RwX e
theorem RwX.sm {e : PyData} (h : RwX e) : SmF e := by
  cases h with
  | row h => exact smf_tup (by omega)
  | bad h => exact smf_len (by simp; omega)
  | int i => exact smf_i
theorem LsX.sm {x : PyData} (h : LsX x) : SmL x := fun es e => by
  subst e
  rcases h with h | ⟨xs, h⟩ | ⟨es', h, hl, hr⟩
  · cases h
  · cases h
  · cases h
    exact ⟨by omega, fun r hr' => (hr r hr').sm⟩
/-! ### the promises -/
end Lm


/-! the first list that serves (k55, k20) -/
namespace Lm
open PySem PySem.Spec PyProof.Rows L2
/-! ### sets that grow, each ascending -/
def addF (acc row : List Int) : List Int := acc ++ row.filter fun x => !decide (x ∈ acc)
structure Grow (acc : List Int) (R : List (List Int)) : Prop where
  nd : acc.Nodup
  asc : ∀ S ∈ R, S.Pairwise (· < ·)
  sub : ∀ S ∈ R, ∀ x ∈ acc, x ∈ S
  pw : R.Pairwise fun S T => ∀ x ∈ S, x ∈ T
theorem asc_nd {S : List Int} (h : S.Pairwise (· < ·)) : S.Nodup := h.imp fun w e => by omega
theorem add_perm {acc S : List Int} (nd : acc.Nodup) (ns : S.Nodup) (sub : ∀ x ∈ acc, x ∈ S) : (addF acc S).Perm S := by
  unfold addF
  refine (List.perm_ext_iff_of_nodup ?_ ns).mpr fun x => ?_
  · rw [List.nodup_append]
    exact ⟨nd, ns.filter _, fun a ha b hb e => by
      have := (List.mem_filter.mp hb).2
      rw [e] at ha
      simp [ha] at this⟩
  · rw [List.mem_append, List.mem_filter]
    constructor
    · rintro (h | h)
      · exact sub x h
      · exact h.1
    · intro h
      by_cases q : x ∈ acc
      · exact .inl q
      · exact .inr ⟨h, by simp [q]⟩
theorem Grow.step {acc S : List Int} {R : List (List Int)} (h : Grow acc (S :: R)) : (addF acc S).Perm S ∧ Grow (addF acc S) R := by
  have p1 := List.pairwise_cons.mp h.pw
  have p := add_perm h.nd (asc_nd (h.asc S (by simp))) (h.sub S (by simp))
  exact ⟨p, ⟨p.nodup_iff.mpr (asc_nd (h.asc S (by simp))), fun T hT => h.asc T (by simp [hT]), fun T hT x hx => p1.1 T hT x (p.mem_iff.mp hx), p1.2⟩⟩
theorem Grow.fold : ∀ {R : List (List Int)} {acc : List Int}, Grow acc R → acc <+: R.foldl addF acc ∧ (R.foldl addF acc).Nodup ∧ (∀ S ∈ R, ((R.foldl addF acc).take S.length).Perm S) ∧ ∀ S, R.getLast? = some S → (R.foldl addF acc).Perm S
  | [], acc, h => ⟨List.prefix_refl _, h.nd, (fun S hS => nomatch hS), fun S hS => nomatch hS⟩
  | S :: R, acc, h => by
    obtain ⟨p, g⟩ := h.step
    obtain ⟨i1, i2, i3, i4⟩ := g.fold
    rw [List.foldl_cons]
    refine ⟨(List.prefix_append _ _).trans i1, i2, fun T hT => ?_, fun T hT => ?_⟩
    · rcases List.mem_cons.mp hT with w | w
      · obtain ⟨t, ht⟩ := i1
        rw [w, ← ht, List.take_append_of_le_length (by rw [p.length_eq]; exact Nat.le_refl _), List.take_of_length_le (by rw [p.length_eq]; exact Nat.le_refl _)]
        exact p
      · exact i3 T w
    · cases R with
      | nil =>
        have : T = S := by simpa using hT.symm
        rw [this]; exact p
      | cons U R => exact i4 T (by simpa using hT)
end Lm
namespace Lm
open PySem PySem.Spec PyProof.Rows L2
/-- sets of which any two are one in the other, by size -/
structure Chn (M : List (List Int)) : Prop where
  asc : ∀ S ∈ M, S.Pairwise (· < ·)
  sub : ∀ S ∈ M, ∀ T ∈ M, S.length ≤ T.length → ∀ x ∈ S, x ∈ T
theorem sort_mem {M : List (List Int)} {S : List Int} : S ∈ M.mergeSort lenI ↔ S ∈ M := (List.mergeSort_perm _ _).mem_iff
theorem sort_len (M : List (List Int)) : (M.mergeSort lenI).Pairwise fun S T => S.length ≤ T.length := by
  have := List.pairwise_mergeSort (le := lenI) (fun a b c h1 h2 => by unfold lenI at *; simp at *; omega) (fun a b => by unfold lenI; simp; omega) M
  exact this.imp fun h => by unfold lenI at h; simp at h; omega
theorem Chn.grow {M : List (List Int)} (h : Chn M) : Grow [] (M.mergeSort lenI) := ⟨List.nodup_nil, fun S hS => h.asc S (sort_mem.mp hS), (fun S _ x hx => nomatch hx), by
  have := sort_len M
  exact this.imp_of_mem fun {S T} hS hT l => h.sub S (sort_mem.mp hS) T (sort_mem.mp hT) l⟩
def slM (M : List (List Int)) : List Int := (M.mergeSort lenI).foldl addF []
theorem Chn.nd {M : List (List Int)} (h : Chn M) : (slM M).Nodup := h.grow.fold.2.1
theorem Chn.take {M : List (List Int)} (h : Chn M) {S : List Int} (hS : S ∈ M) : ((slM M).take S.length).Perm S := h.grow.fold.2.2.1 S (sort_mem.mpr hS)
/-- as long as the greatest, and nothing besides -/
theorem Chn.whole {M : List (List Int)} (h : Chn M) : (slM M = [] ∧ M = []) ∨ ∃ S ∈ M, (slM M).Perm S ∧ ∀ T ∈ M, T.length ≤ S.length := by
  cases e : (M.mergeSort lenI).getLast? with
  | none =>
    left
    have e := List.getLast?_eq_none_iff.mp e
    have : M = [] := List.eq_nil_of_length_eq_zero (by rw [← List.length_mergeSort (le := lenI) M, e]; rfl)
    exact ⟨by unfold slM; rw [e]; rfl, this⟩
  | some S =>
    right
    have hm := List.mem_of_getLast? e
    refine ⟨S, sort_mem.mp hm, h.grow.fold.2.2.2 S e, fun T hT => ?_⟩
    have hT := sort_mem.mpr hT
    obtain ⟨ys, ey⟩ := List.getLast?_eq_some_iff.mp e
    rw [ey] at hT
    have pw := sort_len M
    rw [ey, List.pairwise_append] at pw
    rcases List.mem_append.mp hT with w | w
    · exact pw.2.2 T w S (by simp)
    · rw [List.mem_singleton.mp w]; exact Nat.le_refl _
theorem Chn.mem {M : List (List Int)} (h : Chn M) {x : Int} (hx : x ∈ slM M) : ∃ S ∈ M, x ∈ S := by
  rcases h.whole with ⟨e, _⟩ | ⟨S, hS, p, _⟩
  · rw [e] at hx; cases hx
  · exact ⟨S, hS, p.mem_iff.mp hx⟩
/-! ### the first list of a rule (k55) -/
end Lm


/-! first lists of a table (k20, k21) -/
namespace Lm
open PySem PySem.Spec PyProof.Rows L2
/-! ### the full lists -/
def rngI (b : Nat) : List Int := (List.range b).map fun (i : Nat) => (i : Int)
theorem mem_rngI {b : Nat} {x : Int} : x ∈ rngI b ↔ 0 ≤ x ∧ x < b := by
  unfold rngI
  rw [List.mem_map]
  constructor
  · rintro ⟨i, hi, rfl⟩
    have := List.mem_range.mp hi
    omega
  · intro h
    exact ⟨x.toNat, List.mem_range.mpr (by omega), by omega⟩
/-! ### the promises -/
end Lm


/-! defs that answer or raise: promises, and what raises within a body -/
namespace Lm
open PySem PySem.Spec PyProof.Rows L2
def spRef (K : PySem.W.Frag) (C : Addr) (R : List PyData → Str → Prop) : Sp := fun vs H Q E => ∃ ds nm, BoAll (pc K) H vs ds ∧ R ds nm ∧ ∀ dx H1, Same H H1 → H1 dx = some (.xd [("name", .str nm)]) → E (.ref C) (some dx) H1
abbrev spDR (K : PySem.W.Frag) (C : Addr) (sp : Sp) (R : List PyData → Str → Prop) : Sp := fun vs H Q E => sp vs H Q E ∨ spRef K C R vs H Q E
section
variable {K : PySem.W.Frag} {C : Addr} {H0 : Hp} {Γ : List (Option Rs)} {σ : L2.St} {te tf : TE} {ta : TA} {tt : TT} {t u : TS} {k kb : Kd} {d x : PyData} {n : Nat} {nm : Str} {ds : List PyData} {R : List PyData → Str → Prop} {sp : Sp} {E : XK} {W : L2.St → XK} {a : Bool}
/-- te raises -/
def EvRz (c : Ct) (H0 : Hp) (te : TE) (Γ : List (Option Rs)) : Prop := ∀ O H σ Q, Env c H0 O H σ Γ → te σ H Q
theorem same_of {H H1 : Hp} (e : Env (pc K) H0 O H σ Γ) (r : Rr (pc K) H H1) {H2 : Hp} (sm : Same H1 H2) : Same H0 H2 := fun a o w => sm a o ((e.rH.tr r).1 a o (fun _ _ w => nomatch w) w)
theorem x_ref (ha : EvA (pc K) ta Γ false ds) (hr : R ds nm) (hE : ∀ dx H1, Same H0 H1 → H1 dx = some (.xd [("name", .str nm)]) → E (.ref C) (some dx) H1) : EvRz (pc K) H0 (tCall (spDR K C sp R) [] E ta) Γ := fun O H σ Q e =>
  ha H0 O H σ e _ fun vs H1 r s => .inr ⟨ds, nm, by rw [List.append_nil]; exact s, hr, fun dx H2 sm z => hE dx H2 (same_of e r sm) z⟩
theorem x_good {pre : Pre} (h : EvA (pc K) ta Γ false ds) (hp : pre ds k d) : Ev (pc K) (tCall (spDR K C (spD K pre) R) [] E ta) Γ k d := fun H0 O H σ e Q q =>
  h H0 O H σ e _ fun vs H1 r s => by
    refine .inl ⟨ds, k, d, by rw [List.append_nil]; exact s.pure, hp, fun v H2 sm rt => q v H2 (r.tr (Rr.same sm)) ?_⟩
    have r2 : Rr (pc K) H H2 := r.tr (Rr.same sm)
    cases k with
    | v => exact (Bo.flat (c := pc K) (c' := pc K) rfl rt.1 rt.2).flatM e r2 rt.1
    | o =>
      obtain ⟨fp, f, nd, new⟩ := rt
      exact ⟨fp, f, nd, fun a ha => r.back e.jH (new a ha)⟩
    | b => obtain ⟨⟨_, e⟩, _⟩ := rt; exact nomatch e
theorem xl_req (hz : nm.length ≤ 1000) (hE : ∀ dx H1, Same H0 H1 → H1 dx = some (.xd [("name", .str nm)]) → E (.ref C) (some dx) H1) (h : Ev (pc K) te Γ k (.bool false)) : SdX (pc K) H0 (tDrop (tCall (spReq C) [] E (tCons te (tCons (tC (.str nm)) tNil)))) Γ := fun O H σ D e =>
  h H0 O H σ e _ fun v H1 r s => ⟨false, nm, by rw [(Res.bo e s).bl']; rfl, hz, (fun w => nomatch w), fun _ dx hdx => hE dx _ (fun a o z => by
    have z1 : H1 a = some o := (e.rH.tr r).1 a o (fun _ _ w => nomatch w) z
    rw [upd_ne (ne_of_none z1 hdx)]
    exact z1) upd_same⟩
theorem x_okreq (hz : nm.length ≤ 1000) (h : Ev (pc K) te Γ k (.bool true)) (p : SdX (pc K) H0 u Γ) : SdX (pc K) H0 (tSeq (tDrop (tCall (spReq C) [] E (tCons te (tCons (tC (.str nm)) tNil)))) u) Γ := fun O H σ D e =>
  h H0 O H σ e _ fun v H1 r s => ⟨true, nm, by rw [(Res.bo e s).bl']; rfl, hz, (fun _ => p O H1 σ D (e.on r)), fun w => nomatch w⟩
theorem x_seq {c : Ct} (h : SdX c H0 t Γ) : SdX c H0 (tSeq t u) Γ := fun O H σ D e => h O H σ _ e
theorem x_dropE {c : Ct} (h : EvRz c H0 te Γ) : SdX c H0 (tDrop te) Γ := fun O H σ D e => h O H σ _ e
theorem x_retE {c : Ct} (h : EvRz c H0 te Γ) : SdX c H0 (tRet te) Γ := fun O H σ D e => h O H σ _ e
theorem run_ref {N : List Str} {t : TS} {vs : List V} {H : Hp} {Q : VK}
    (hs : ∀ ds nm, R ds nm → (∀ dx H1, Same H H1 → H1 dx = some (.xd [("name", .str nm)]) → E (.ref C) (some dx) H1) → SdX (pc K) H t (argsG ds N.length)) (h : spRef K C R vs H Q E) : t { nx := fun _ H' => Q .non H', rt := Q } (start N vs) H := by
  obtain ⟨ds, nm, hb, hd, hE⟩ := h
  exact hs ds nm hd hE [] H (start N vs) _ (env_args Ji.pc hb)
/-! under try, where nothing is assigned -/
def SdY (c : Ct) (H0 : Hp) (σ : L2.St) (t : TS) (Γ : List (Option Rs)) : Prop := ∀ O H D, Env c H0 O H σ Γ → t D σ H
theorem y_if {c : Ct} (h : EvT c tt Γ a) (h1 : a = true → SdY c H0 σ t Γ) (h2 : a = false → SdY c H0 σ u Γ) : SdY c H0 σ (tIfS tt t u) Γ := fun O H D e => h H0 O H σ e _ fun H1 r => by
  show if a = true then t D σ H1 else u D σ H1
  cases a with
  | true => rw [if_pos rfl]; exact h1 rfl O H1 D (e.on r)
  | false => rw [if_neg (by decide)]; exact h2 rfl O H1 D (e.on r)
theorem y_yes {c : Ct} (h : EvT c tt Γ true) (h1 : SdY c H0 σ t Γ) : SdY c H0 σ (tIfS tt t u) Γ := y_if h (fun _ => h1) fun w => nomatch w
theorem y_no {c : Ct} (h : EvT c tt Γ false) (h1 : SdY c H0 σ u Γ) : SdY c H0 σ (tIfS tt t u) Γ := y_if h (fun w => nomatch w) fun _ => h1
theorem was_name {P : Program} {w : World} {mg : Str → Option Value} {base : Heap} {i : Nat} {Wout : WX} {D : Ends} {dx : Addr} {H1 : Hp} (X : Exc1 P w K mg base "BadValue" "name" C) (hi : i < σ.length) (hdx : H1 dx = some (.xd [("name", .str nm)])) (q : D.rt (.str nm) H1) :
    wAs K (.ref C) i (fun a cls d => tRet (tXf a cls d C "name" (tVar i))) Wout D (.ref C) (some dx) σ H1 :=
  ⟨true, X.exm, fun _ a ha => ⟨.ref a, by rw [List.getElem?_set_self hi], rfl, rfl, dx, _, .str nm, rfl, hdx, rfl, q⟩, fun w => nomatch w⟩
end
/-! ### who raises what -/
def RcV (ds : List PyData) (nm : Str) : Prop := ∃ x, ds = [x] ∧ isIntD x 1 5 = false ∧ nm = "variants"
theorem RcV_len {ds nm} (h : RcV ds nm) : ds.length = 1 := by obtain ⟨x, rfl, _⟩ := h; rfl
/-! ### k26 -/
end Lm


/-! what lists give, told or refused (k22) -/
namespace Lm
open PySem PySem.Spec PyProof.Rows L2
section
variable {K : PySem.W.Frag} {C : Addr} {σ : L2.St} {nm : Str}
end
/-! ### any value as an allocation -/
/-! ### what is due -/
/-! ### lists of distinct buckets -/
structure Dst (r : List Int) : Prop where
  nd : r.Nodup
  rg : ∀ x ∈ r, 0 ≤ x ∧ x < 20
theorem Dst.len {r : List Int} (h : Dst r) : r.length ≤ 20 := by
  have := List.Nodup.length_le_of_subset (l₁ := r) (l₂ := rngI 20) h.nd fun x hx => by
    have := h.rg x hx
    exact mem_rngI.mpr (by omega)
  unfold rngI at this
  simpa using this
end Lm


/-! a comprehension of two clauses -/
namespace Lm
open PySem PySem.Spec PyProof.Rows L2
section
variable {c : Ct} {H H' H0 H1 H2 H3 H4 : Hp} {O : List Addr} {σ σ1 : L2.St} {Γ Γ1 Γ' : List (Option Rs)} {te : TE} {fz : Bool} {k : Kd} {u : TS} {P : Out → Prop} {n : Nat}
theorem Reps.bareM {fp : List Addr} {D : Addr} (j : Ji c (mns H O)) (rm : Rr c (mns H O) (mns H' O)) (h : Reps c O H σ Γ fp) : bareB Γ = true → Reps c O H' σ Γ [] := by
  induction h with
  | nil => intro _; exact .nil
  | @cons x s f fs σ Γ a b ih =>
    intro hb
    cases s with
    | none => exact .cons (f := []) (fs := []) rfl (ih hb)
    | some s =>
      cases s with
      | o d => cases hb
      | d u => cases hb
      | w ds => cases hb
      | v d =>
        obtain ⟨_, v, hv, bo⟩ := a
        exact .cons (f := []) (fs := []) ⟨rfl, v, hv, bo.mono j rm⟩ (ih hb)
      | r y => exact .cons (f := []) (fs := []) ⟨rfl, a.2⟩ (ih hb)
end
end Lm
namespace Lm
open PySem PySem.Spec PyProof.Rows L2
/-! ### all tables of a plan (k39 to k43, k52) -/
def stepT (b : Nat) (rows : List (List (List Int))) (a : List Int) : List (List (List Int)) := rows.flatMap fun t => (asgN a b).map fun r => t ++ [r]
def tbF (b : Nat) (rows : List (List (List Int))) (A : List (List Int)) : List (List (List Int)) := A.foldl (stepT b) rows
/-- which tables there are -/
theorem mem_tbF {b : Nat} : ∀ {A : List (List Int)} {t : List (List Int)}, t ∈ tbF b [[]] A ↔ t.length = A.length ∧ ∀ i < A.length, t.getD i [] ∈ asgN (A.getD i []) b := by
  have gen : ∀ {A : List (List Int)} {rows : List (List (List Int))} {t : List (List Int)}, t ∈ tbF b rows A ↔ ∃ p ∈ rows, ∃ s, t = p ++ s ∧ s.length = A.length ∧ ∀ i < A.length, s.getD i [] ∈ asgN (A.getD i []) b := by
    intro A
    induction A with
    | nil =>
      intro rows t
      constructor
      · intro h
        exact ⟨t, h, [], by simp, rfl, by simp⟩
      · rintro ⟨p, hp, s, rfl, hs, _⟩
        have : s = [] := List.length_eq_zero_iff.mp hs
        subst this
        rw [List.append_nil]
        exact hp
    | cons a A ih =>
      intro rows t
      show t ∈ tbF b (stepT b rows a) A ↔ _
      rw [ih]
      constructor
      · rintro ⟨p, hp, s, rfl, hs, hm⟩
        obtain ⟨p0, hp0, hp1⟩ := List.mem_flatMap.mp hp
        obtain ⟨r, hr, rfl⟩ := List.mem_map.mp hp1
        refine ⟨p0, hp0, r :: s, by simp, by simp [hs], fun i hi => ?_⟩
        cases i with
        | zero => exact hr
        | succ i => exact hm i (by simpa using hi)
      · rintro ⟨p, hp, s, rfl, hs, hm⟩
        cases s with
        | nil => simp at hs
        | cons r s =>
          exact ⟨p ++ [r], List.mem_flatMap.mpr ⟨p, hp, List.mem_map.mpr ⟨r, hm 0 (by simp), rfl⟩⟩, s, by simp, by simpa using hs, fun i hi => hm (i + 1) (by simpa using hi)⟩
  intro A t
  rw [gen]
  constructor
  · rintro ⟨p, hp, s, rfl, h1, h2⟩
    rw [List.mem_singleton.mp hp]
    exact ⟨h1, h2⟩
  · rintro ⟨h1, h2⟩
    exact ⟨[], by simp, t, rfl, h1, h2⟩
/-! ### buckets may be told in another order -/
/-- what is found behind any start is found behind the ascending one -/
theorem Tbl.of {A : List (List Int)} {v b : Int} {s : List Int} {t : List (List Int)} (hA : Ser A v b) (hs : s ∈ asgN (A.getD 0 []) b.toNat) (ht : t ∈ tbF b.toNat [[]] (A.drop 1)) : Tbl (s :: t) A v b := by
  obtain ⟨h1, h2⟩ := mem_tbF.mp ht
  have l1 := hA.l1
  rw [List.length_drop] at h1 h2
  have okp : ∀ {a r : List Int}, Alc a v b → r ∈ asgN a b.toNat → OkP (a, r) v b := fun {a r} ha hr => by
    obtain ⟨c1, c2, c3⟩ := asgN_cnt ha hr
    exact ⟨ha, c1, c2, c3⟩
  refine ⟨hA, by rw [List.length_cons]; omega, fun i hi => ?_⟩
  cases i with
  | zero => exact okp (hA.alc _ (gL_mem hi)) hs
  | succ i =>
    have := h2 i (by omega)
    have e : (A.drop 1).getD i [] = A.getD (i + 1) [] := by simp [List.getD_eq_getElem?_getD, Nat.add_comm]
    rw [e] at this
    exact okp (hA.alc _ (gL_mem hi)) this
/-! ### how many there are -/
/-! ### the promises -/
/-! ### plans that go round -/
end Lm


/-! a list of one's own whose items stay, lists in them too -/
namespace Lm
open PySem PySem.Spec PyProof.Rows L2
section
variable {c : Ct} {H H' H0 H1 H2 H3 : Hp} {O : List Addr} {σ : L2.St} {Γ Γ' : List (Option Rs)} {te ta tb tx : TE} {tr : TA} {k ka kb : Kd} {u t : TS} {P : Out → Prop} {n m : Nat} {x d : PyData} {ds es : List PyData} {i : Int} {fz : Bool} {tt : TT}
/-- te makes a new list whose items stay -/
def EvW (c : Ct) (te : TE) (Γ : List (Option Rs)) (ds : List PyData) : Prop :=
  ∀ H0 O H σ, Env c H0 O H σ Γ → ∀ Q : VK, (∀ p xs H2, H p = none → Rr c H H2 → H2 p = some (.lst xs) → Rr c (mns H O) (mns H2 (p :: O)) → BoAll c (mns H2 (p :: O)) xs ds → Q (.ref p) H2) → te σ H Q
theorem x_yes (h : EvT c tt Γ true) (p : SdX c H0 t Γ) : SdX c H0 (tIfS tt t u) Γ := fun O H σ D e => h H0 O H σ e _ fun H1 r => by
  show if true = true then t D σ H1 else u D σ H1
  rw [if_pos rfl]
  exact p O H1 σ D (e.on r)
theorem x_no (h : EvT c tt Γ false) (p : SdX c H0 u Γ) : SdX c H0 (tIfS tt t u) Γ := fun O H σ D e => h H0 O H σ e _ fun H1 r => by
  show if false = true then t D σ H1 else u D σ H1
  rw [if_neg (by decide)]
  exact p O H1 σ D (e.on r)
end
end Lm


/-! three assignments: what is alike, and what is not -/
namespace Lm
open PySem PySem.Spec PyProof.Rows L2
variable {v : Int} {f g h as bs cs : List Int}
/-- both are i -/
def bo (i x y : Int) : Int := if x = i ∧ y = i then 1 else 0
end Lm


/-! assignments that are laid out by cores -/
namespace Lm
open PySem PySem.Spec PyProof.Rows L2
variable {v b : Int} {as bs cs ms : List Int} {z : List (Int × Int)} {p q : List (Option Int)}
/-- cores for an allocation -/
structure Crs (as cs : List Int) (v b : Int) : Prop where
  a : Alc as v b
  len : cs.length = as.length
  nn : ∀ n ∈ cs, 0 ≤ n
  le : cs.sum ≤ b
/-! ### cores that give up what the medians are too many -/
def crsI : Int → List Int → List Int → List Int
  | o, m :: ms, s :: bs => (m - min o (max (m - s) 0)) :: crsI (o - min o (max (m - s) 0)) ms bs
  | _, _, _ => []
theorem crs_len : ∀ {ms bs : List Int} {o : Int}, ms.length = bs.length → (crsI o ms bs).length = ms.length
  | [], [], _, _ => rfl
  | m :: ms, s :: bs, o, h => by unfold crsI; rw [List.length_cons, List.length_cons, crs_len (by simpa using h)]
  | [], _ :: _, _, h => by simp at h
  | _ :: _, [], _, h => by simp at h
theorem crs_at : ∀ {ms bs : List Int} {o : Int} {j : Nat}, 0 ≤ o → ms.length = bs.length → j < ms.length → min (ms.getD j 0) (bs.getD j 0) ≤ (crsI o ms bs).getD j 0 ∧ (crsI o ms bs).getD j 0 ≤ ms.getD j 0
  | [], _, _, _, _, _, h => by simp at h
  | _ :: _, [], _, _, _, h, _ => by simp at h
  | m :: ms, s :: bs, o, 0, h0, _, _ => by
    unfold crsI
    simp only [List.getD_cons_zero]
    omega
  | m :: ms, s :: bs, o, j + 1, h0, hl, hj => by
    have := crs_at (ms := ms) (bs := bs) (o := o - min o (max (m - s) 0)) (j := j) (by omega) (by simpa using hl) (by simpa using hj)
    unfold crsI
    simp only [List.getD_cons_succ]
    exact this
theorem crs_sum : ∀ {ms bs : List Int} {o : Int}, 0 ≤ o → ms.length = bs.length → (crsI o ms bs).sum = ms.sum - min o (zs (fun m s => max (m - s) 0) ms bs)
  | [], [], o, h0, _ => by
    show (0 : Int) = 0 - min o 0
    omega
  | m :: ms, s :: bs, o, h0, h => by
    have ih := crs_sum (ms := ms) (bs := bs) (o := o - min o (max (m - s) 0)) (by omega) (by simpa using h)
    have nn : 0 ≤ zs (fun m s => max (m - s) 0) ms bs := sum_nn fun n hn => by
      obtain ⟨j, _, rfl⟩ := List.mem_map.mp hn
      dsimp only
      omega
    rw [zs_cons]
    unfold crsI
    rw [List.sum_cons, ih, List.sum_cons]
    omega
  | [], _ :: _, _, _, h => by simp at h
  | _ :: _, [], _, _, h => by simp at h
theorem med_nn (h1 : ∀ n ∈ as, 0 ≤ n) (h2 : ∀ n ∈ bs, 0 ≤ n) (h3 : ∀ n ∈ cs, 0 ≤ n) (l1 : as.length = bs.length) (l2 : as.length = cs.length) : ∀ n ∈ medI as bs cs, 0 ≤ n := fun n hn => by
  obtain ⟨j, hj, rfl⟩ := List.mem_map.mp hn
  have := List.mem_range.mp hj
  have := h1 _ (gd_mem (l := as) (j := j) (by omega))
  have := h2 _ (gd_mem (l := bs) (j := j) (by omega))
  have := h3 _ (gd_mem (l := cs) (j := j) (by omega))
  unfold mid3
  (repeat' split) <;> omega
theorem med_len : (medI as bs cs).length = as.length := by simp [medI]
/-- the cores of a return -/
def retC (as bs cs : List Int) : List Int := crsI (exI as bs cs) (medI as bs cs) bs
theorem ex_nn : 0 ≤ exI as bs cs := by unfold exI; split <;> omega
theorem retC_nn (h1 : Alc as v b) (h2 : Alc bs v b) (h3 : Alc cs v b) : ∀ n ∈ retC as bs cs, 0 ≤ n := fun n hn => by
  have l1 := h1.lens h2
  have l2 := h1.lens h3
  have ml : (medI as bs cs).length = bs.length := by rw [med_len]; exact l1
  obtain ⟨j, hj, rfl⟩ := List.mem_iff_getElem.mp hn
  have hl : (retC as bs cs).length = (medI as bs cs).length := crs_len ml
  have hj' : j < (medI as bs cs).length := by omega
  have c := crs_at (o := exI as bs cs) ex_nn ml hj'
  have e : (retC as bs cs)[j] = (crsI (exI as bs cs) (medI as bs cs) bs).getD j 0 := (gd_lt hj).symm
  rw [e]
  have m0 := med_nn h1.nn h2.nn h3.nn l1 l2 _ (gd_mem hj')
  have b0 := h2.nn _ (gd_mem (l := bs) (j := j) (by omega))
  omega
theorem retC_crs (h1 : Alc as v b) (h2 : Alc bs v b) (h3 : Alc cs v b) : (retC as bs cs).length = as.length ∧ (retC as bs cs).sum ≤ b ∧ (retC as bs cs).sum = (medI as bs cs).sum - exI as bs cs := by
  have l1 := h1.lens h2
  have l2 := h1.lens h3
  have ml : (medI as bs cs).length = bs.length := by rw [med_len]; exact l1
  have s := crs_sum (o := exI as bs cs) ex_nn ml
  have : (medI as bs cs).sum - bs.sum ≤ zs (fun m s => max (m - s) 0) (medI as bs cs) bs := by
    have : ∀ {as bs : List Int}, as.length = bs.length → as.sum - bs.sum ≤ zs (fun m s => max (m - s) 0) as bs := by
      intro as
      induction as with
      | nil => intro bs hl; have : bs = [] := List.length_eq_zero_iff.mp (by simpa using hl.symm); subst this; exact Int.le_refl _
      | cons a as ih =>
        intro bs hl
        cases bs with
        | nil => simp at hl
        | cons b bs =>
          have := ih (bs := bs) (by simpa using hl)
          rw [zs_cons, List.sum_cons, List.sum_cons]
          omega
    exact this ml
  have e1 := h1.sum
  have e2 := h2.sum
  have e3 : (retC as bs cs).sum = (medI as bs cs).sum - exI as bs cs := by
    unfold retC
    rw [s]
    have n := sum_nn (ns := (List.range (medI as bs cs).length).map fun j => max ((medI as bs cs).getD j 0 - bs.getD j 0) 0) fun n hn => by
      obtain ⟨j, _, rfl⟩ := List.mem_map.mp hn
      omega
    have n' : 0 ≤ zs (fun m s => max (m - s) 0) (medI as bs cs) bs := n
    unfold exI suI
    split <;> omega
  refine ⟨by unfold retC; rw [crs_len ml, med_len], ?_, e3⟩
  rw [e3]
  unfold exI suI
  split <;> omega
theorem Crs.ret (h1 : Alc as v b) (h2 : Alc bs v b) (h3 : Alc cs v b) : Crs as (retC as bs cs) v b ∧ Crs bs (retC as bs cs) v b ∧ Crs cs (retC as bs cs) v b := by
  obtain ⟨l, s, _⟩ := retC_crs h1 h2 h3
  have n := retC_nn h1 h2 h3
  have l1 := h1.lens h2
  have l2 := h1.lens h3
  exact ⟨⟨h1, l, n, s⟩, ⟨h2, by omega, n, s⟩, ⟨h3, by omega, n, s⟩⟩
end Lm


/-! xs[i] = ys.pop(k); [rows[x].pop(0) for x in ..] -/
namespace Lm
open PySem PySem.Spec PyProof.Rows L2
section
variable {c : Ct} {H H' H0 H1 H2 H3 : Hp} {O : List Addr} {σ : L2.St} {Γ Γ' Γ1 : List (Option Rs)}
variable {te ta tb tx : TE} {tr : TA} {u : TS} {k ka kb : Kd} {d x y z : PyData} {i j : Int} {ds es : List PyData} {P : Out → Prop}
theorem Env.bareR (e : Env c H0 O H σ Γ) (hb : bareB Γ = true) : Reps c O H σ Γ [] := let ⟨_, hr, _⟩ := e.rep; hr.bareM (D := 0) e.j Rr.rf hb
theorem Env.take (e : Env c H0 O H σ Γ) (hb : bareB Γ = true) {n : Nat} {a : Addr} {ns : List Int} (ha : a ∈ O) (h : H a = some (.lst (ns.map V.int))) : Env c H0 O H (σ.set n (some (.ref a))) (Γ.set n (some (.o (.list (ns.map .int))))) := by
  have hr := e.bareR hb
  refine ⟨e.r0, e.j, e.fr, e.dm, ?_⟩
  by_cases hi : n < Γ.length
  · obtain ⟨x, f, pre, post, h1, h2, h3, h4⟩ := hr.nth (s := Γ[n]) (List.getElem?_eq_getElem hi)
    have h3' := h3.symm
    rw [List.append_eq_nil_iff, List.append_eq_nil_iff] at h3'
    obtain ⟨rfl, rfl, rfl⟩ := h3'
    exact ⟨[a], h4 O H _ _ [a] (fun _ _ _ _ z => z) ⟨.ref a, rfl, .lst h (FoAll.leaves (flatAll_ints _) (BoAll.ofInts _))⟩, by simp, fun b hb => by cases List.mem_singleton.mp hb; exact ha⟩
  · have hs : ¬ n < σ.length := by rw [hr.len]; exact hi
    rw [List.set_eq_of_length_le (by omega), List.set_eq_of_length_le (by omega)]
    exact ⟨[], hr, List.nodup_nil, fun a h => nomatch h⟩
theorem Env.forget (e : Env c H0 O H σ Γ) {m : Nat} : Env c H0 O H σ (Γ.set m none) := by
  have := e.setN (i := m) (x := (σ[m]?).getD none)
  have hσ : σ.set m ((σ[m]?).getD none) = σ := by
    by_cases h : m < σ.length
    · rw [List.getElem?_eq_getElem h]
      exact List.set_getElem_self h
    · exact List.set_eq_of_length_le (by omega)
  rwa [hσ] at this
/-! ### rows from which the first ones are taken -/
end
end Lm


/-! who raises what among the triples (k34) -/
namespace Lm
open PySem PySem.Spec PyProof.Rows L2
section
variable {K : PySem.W.Frag} {C : Addr} {H0 : Hp} {Γ : List (Option Rs)} {σ : L2.St} {te : TE} {tt : TT} {t u : TS} {nm : Str}
theorem x_asgE {c : Ct} {g : TG} (h : EvRz c H0 te Γ) : SdX c H0 (tAsg te g) Γ := fun O H σ D e => h O H σ _ e
theorem x_asgO {c : Ct} {d : PyData} {n : Nat} (h : Ev c te Γ .o d) (p : SdX c H0 u (Γ.set n (some (.o d)))) : SdX c H0 (tSeq (tAsg te (gName n)) u) Γ := fun O H σ D e => h H0 O H σ e _ fun v H2 r ⟨fp, f, nd, new⟩ => p _ H2 _ D (e.setO r f nd new)
end
/-! what is no allocation, no assignment of it -/
end Lm


/-! isinstance of a caught error that keeps a text; a handler for its base class -/
namespace Lm
open PySem PySem.Spec PyProof.Rows L2
/-- what a handler for the base class asks of the error's class C and of the base class L -/
structure ExcH (K : PySem.W.Frag) (mg : Str → Option Value) (C L : Addr) : Prop where
  isC : ExcC K C
  hL : mg "LeastError" = some (.ref L)
  exL : PySem.W.exmOne K (.ref C) (.ref L) = some true
  kV : PySem.W.kitOne K (.ref C) (.type "ValueError") = some true
theorem kit_val {K : PySem.W.Frag} {C : Addr} (h : PySem.W.subIn K (.ref C) (.type "ValueError") = some true) : PySem.W.kitOne K (.ref C) (.type "ValueError") = some true := by
  unfold PySem.W.kitOne
  rw [if_neg (by simp)]
  unfold PySem.W.kitCls
  show (if PySem.W.kitMeta "ValueError" = true then _ else _) = _
  rw [if_pos (by decide +kernel)]
  exact h
/-! a call of what answers or raises, in a body -/
section
variable {K : PySem.W.Frag} {C : Addr} {R : List PyData → Str → Prop} {pre : Pre} {E : XK} {W : WX} {te : TE} {ta : TA} {Γ : List (Option Rs)} {ds es : List PyData} {d : PyData} {P : Out → Prop} {c : Ct}
theorem x_skip {tt : TT} {t u : TS} {H0 : Hp} (h : EvT c tt Γ false) (p : SdX c H0 u Γ) : SdX c H0 (tSeq (tIfS tt t tNext) u) Γ := fun O H σ D e => h H0 O H σ e _ fun H1 r => by
  show if false = true then _ else _
  rw [if_neg (by decide)]
  exact p O H1 σ D (e.on r)
theorem x_take {tt : TT} {t u : TS} {H0 : Hp} (h : EvT c tt Γ true) (p : SdX c H0 t Γ) : SdX c H0 (tSeq (tIfS tt t tNext) u) Γ := fun O H σ D e => h H0 O H σ e _ fun H1 r => by
  show if true = true then _ else _
  rw [if_pos rfl]
  exact p O H1 σ _ (e.on r)
end
/-! who raises what among the rules (k61) -/
end Lm


/-! lists of one's own with drawn items; the rule of k61 and what is none -/
namespace Lm
open PySem PySem.Spec PyProof.Rows L2
section
variable {c : Ct} {Γ : List (Option Rs)} {te : TE} {tr : TA} {u : TS} {n : Nat} {ds : List PyData} {P : Out → Prop} {Pd : List PyData → Prop} {Pe : PyData → Prop}
/-- te makes a new list whose items stay: one of several -/
def EvWN (c : Ct) (te : TE) (Γ : List (Option Rs)) (Pd : List PyData → Prop) : Prop :=
  ∀ H0 O H σ, Env c H0 O H σ Γ → ∀ Q : VK, (∀ p xs ds H2, Pd ds → H p = none → Rr c H H2 → H2 p = some (.lst xs) → Rr c (mns H O) (mns H2 (p :: O)) → BoAll c (mns H2 (p :: O)) xs ds → Q (.ref p) H2) → te σ H Q
end
/-! the rule of two pairs -/
def zr (n : Nat) : List Int := List.replicate n 0
/-! rows of arguments -/
end Lm


/-! itertools.combinations(list, k) -/
namespace CmbK
open PySem PySem.Spec PyProof.Rows L2
end CmbK


/-! cliques of entries, by their heights (k63) -/
namespace Lm
open PySem PySem.Spec PyProof.Rows L2 CmbK
def prsB (F : List (List Int)) (es : List (List Int)) : Bool := (pairL es.length).all fun ks => togB F (es.getD (ks.getD 0 0) []) (es.getD (ks.getD 1 0) [])
/-- sets of entries that go together, each entry in turn -/
def wthB (F : List (List Int)) (e : List Int) (ch : List (List Int)) : Bool := ch.all (togB F e)
def grwS (F : List (List Int)) (found : List (List (List Int))) (e : List Int) : List (List (List Int)) := found ++ (found.filter (wthB F e)).map (· ++ [e])
def grwL (F R : List (List Int)) : List (List (List Int)) := R.foldl (grwS F) [[]]
def bigL (F R : List (List Int)) : Int := mxL ((grwL F R).map fun ch => (ch.length : Int))
/-- one of each, one after another -/
def prodL (cs : List (List Int)) : List (List Int) := cs.foldl (fun rows c => rows.flatMap fun r => c.map fun x => r ++ [x]) [[]]
def boxL (M : List Int) : List (List Int) := prodL (M.map fun m => upI 0 (m + 1).toNat)
/-- good heights: as many entries as asked, all together -/
def okH (F : List (List Int)) (s : Int) (h : List Int) : Bool := decide (((entL h).length : Int) = s) && prsB F (entL h)
end Lm


/-! cliques: the mathematics (k63) -/
namespace Lm
open PySem PySem.Spec PyProof.Rows L2
def enE (x y : Nat) : List Int := [((x + 1 : Nat) : Int), (y : Int)]
theorem us_en {r : List Int} {x y : Nat} : usB r (enE x y) = decide ((y : Int) < r.getD x 0) := by
  unfold usB enE
  simp
theorem en_inj {x y x' y' : Nat} : enE x y = enE x' y' ↔ x = x' ∧ y = y' := by
  unfold enE
  simp
  omega
theorem tog_iff {F : List (List Int)} {x y x' y' : Nat} : togB F (enE x y) (enE x' y') = true ↔ ¬ (x = x' ∧ y = y') ∧ ∃ r ∈ F, (y : Int) < r.getD x 0 ∧ (y' : Int) < r.getD x' 0 := by
  unfold togB
  rw [Bool.and_eq_true, Bool.not_eq_true', decide_eq_false_iff_not, en_inj, List.any_eq_true]
  refine and_congr Iff.rfl ⟨fun ⟨b, hb, w⟩ => ?_, fun ⟨r, hr, h1, h2⟩ => ⟨true, List.mem_map.mpr ⟨r, hr, ?_⟩, rfl⟩⟩
  · obtain ⟨r, hr, e⟩ := List.mem_map.mp hb
    rw [us_en, us_en] at e
    have : b = true := w
    rw [this, Bool.and_eq_true, decide_eq_true_eq, decide_eq_true_eq] at e
    exact ⟨r, hr, e⟩
  · rw [us_en, us_en, decide_eq_true h1, decide_eq_true h2]
    rfl
theorem prs_iff {F es : List (List Int)} : prsB F es = true ↔ es.Pairwise fun a b => togB F a b = true := by
  unfold prsB
  rw [List.all_eq_true, List.pairwise_iff_getElem]
  constructor
  · intro h i j hi hj hij
    have := h [i, j] (mem_pairL.mpr ⟨i, j, rfl, hij, hj⟩)
    simpa [List.getD_eq_getElem?_getD, List.getElem?_eq_getElem hi, List.getElem?_eq_getElem hj] using this
  · intro h ks hk
    obtain ⟨i, j, rfl, hij, hj⟩ := mem_pairL.mp hk
    have hi : i < es.length := by omega
    have := h i j hi hj hij
    simpa [List.getD_eq_getElem?_getD, List.getElem?_eq_getElem hi, List.getElem?_eq_getElem hj] using this
/-- heights that go together: each two of them below one row's shares -/
def CliqP (F : List (List Int)) (h : List Int) : Prop := ∀ x x', x < x' → x' < h.length → 0 < h.getD x 0 → 0 < h.getD x' 0 → ∃ r ∈ F, h.getD x 0 ≤ r.getD x 0 ∧ h.getD x' 0 ≤ r.getD x' 0
theorem mem_entI {i : Nat} {m : Int} {e : List Int} : e ∈ entI i m ↔ ∃ y : Nat, e = enE i y ∧ (y : Int) < m := by
  unfold entI enE
  simp only [List.mem_map, List.mem_range]
  constructor
  · rintro ⟨y, hy, rfl⟩
    exact ⟨y, rfl, by omega⟩
  · rintro ⟨y, rfl, hy⟩
    exact ⟨y, by omega, rfl⟩
theorem ent_prs {F : List (List Int)} {h : List Int} (top : ∀ x, x < h.length → 0 < h.getD x 0 → ∃ r ∈ F, h.getD x 0 ≤ r.getD x 0) : prsB F (entL h) = true ↔ CliqP F h := by
  rw [prs_iff]
  unfold entL
  rw [List.pairwise_flatMap]
  constructor
  · rintro ⟨_, w⟩ x x' hx hx' h1 h2
    have := List.pairwise_iff_getElem.mp w x x' (by simp; omega) (by simpa using hx') hx
    simp only [List.getElem_range] at this
    have t := this (enE x (h.getD x 0 - 1).toNat) (mem_entI.mpr ⟨_, rfl, by omega⟩) (enE x' (h.getD x' 0 - 1).toNat) (mem_entI.mpr ⟨_, rfl, by omega⟩)
    rw [tog_iff] at t
    obtain ⟨_, r, hr, a, b⟩ := t
    exact ⟨r, hr, by omega, by omega⟩
  · intro w
    refine ⟨fun x hx => ?_, ?_⟩
    · rw [List.mem_range] at hx
      unfold entI
      rw [List.pairwise_map]
      refine List.Pairwise.imp_of_mem (fun {a b} ha hb hab => ?_) List.pairwise_lt_range
      rw [List.mem_range] at ha hb
      obtain ⟨r, hr, hle⟩ := top x hx (by omega)
      exact tog_iff.mpr ⟨fun z => by omega, r, hr, by omega, by omega⟩
    · rw [List.pairwise_iff_getElem]
      intro i j hi hj hij a ha b hb
      simp only [List.getElem_range] at ha hb
      obtain ⟨y, rfl, hy⟩ := mem_entI.mp ha
      obtain ⟨y', rfl, hy'⟩ := mem_entI.mp hb
      obtain ⟨r, hr, p, q⟩ := w i j hij (by simpa using hj) (by omega) (by omega)
      exact tog_iff.mpr ⟨fun z => by omega, r, hr, by omega, by omega⟩
theorem ent_sum {h : List Int} (hn : ∀ x ∈ h, 0 ≤ x) : ((entL h).length : Int) = h.sum := by
  unfold entL
  have : ∀ n, n ≤ h.length → (((List.range n).flatMap fun i => entI i (h.getD i 0)).length : Int) = (h.take n).sum := fun n => by
    induction n with
    | zero => intro _; simp
    | succ n ih =>
      intro hl
      have lt : n < h.length := by omega
      rw [List.range_succ, List.flatMap_append, List.length_append, List.flatMap_singleton, Int.natCast_add, ih (by omega), List.take_add_one, List.getElem?_eq_getElem lt, Option.toList_some, List.sum_append]
      have : 0 ≤ h[n] := hn _ (List.getElem_mem lt)
      simp [entI, List.getD_eq_getElem?_getD, List.getElem?_eq_getElem lt]
      omega
  have w := this h.length (Nat.le_refl _)
  rwa [List.take_length] at w
theorem grwS_mem {F : List (List Int)} {S : List (List (List Int))} {e : List Int} {s : List (List Int)} : s ∈ grwS F S e ↔ s ∈ S ∨ ∃ t ∈ S, s = t ++ [e] ∧ ∀ o ∈ t, togB F e o = true := by
  unfold grwS wthB
  rw [List.mem_append, List.mem_map]
  refine or_congr Iff.rfl ⟨fun ⟨t, ht, h⟩ => ?_, fun ⟨t, ht, h, w⟩ => ⟨t, List.mem_filter.mpr ⟨ht, List.all_eq_true.mpr w⟩, h.symm⟩⟩
  obtain ⟨h1, h2⟩ := List.mem_filter.mp ht
  exact ⟨t, h1, h.symm, List.all_eq_true.mp h2⟩
/-- what is grown: the sublists whose entries go together -/
theorem grw_char (F : List (List Int)) : ∀ (R : List (List Int)) (S : List (List (List Int))) (ch : List (List Int)), ch ∈ R.foldl (grwS F) S ↔
    ∃ s ∈ S, ∃ t, t.Sublist R ∧ ch = s ++ t ∧ (t.Pairwise fun a b => togB F b a = true) ∧ ∀ a ∈ s, ∀ b ∈ t, togB F b a = true
  | [], S, ch => by
    constructor
    · intro h
      exact ⟨ch, h, [], List.Sublist.refl _, by simp, .nil, fun _ _ b hb => by cases hb⟩
    · rintro ⟨s, hs, t, ht, rfl, _⟩
      rw [List.sublist_nil.mp ht, List.append_nil]
      exact hs
  | e :: R, S, ch => by
    rw [List.foldl_cons, grw_char F R]
    constructor
    · rintro ⟨s, hs, t, ht, rfl, hp, hq⟩
      rcases grwS_mem.mp hs with w | ⟨u, hu, rfl, hw⟩
      · exact ⟨s, w, t, ht.cons e, rfl, hp, hq⟩
      · refine ⟨u, hu, e :: t, ht.cons_cons e, by simp, List.pairwise_cons.mpr ⟨fun b hb => hq e (by simp) b hb, hp⟩, fun a ha b hb => ?_⟩
        rcases List.mem_cons.mp hb with rfl | hb
        · exact hw a ha
        · exact hq a (by simp [ha]) b hb
    · rintro ⟨s, hs, t, ht, rfl, hp, hq⟩
      cases ht with
      | cons _ h => exact ⟨s, grwS_mem.mpr (.inl hs), t, h, rfl, hp, hq⟩
      | cons_cons _ h =>
        rename_i t
        obtain ⟨p1, p2⟩ := List.pairwise_cons.mp hp
        refine ⟨s ++ [e], grwS_mem.mpr (.inr ⟨s, hs, rfl, fun o ho => hq o ho e (by simp)⟩), t, h, by simp, p2, fun a ha b hb => ?_⟩
        rcases List.mem_append.mp ha with w | w
        · exact hq a w b (by simp [hb])
        · rw [List.mem_singleton.mp w]; exact p1 b hb
theorem tog_comm {F : List (List Int)} {a b : List Int} : togB F a b = togB F b a := by
  unfold togB
  congr 1
  · congr 1
    rw [decide_eq_decide]
    exact eq_comm
  · congr 2
    funext r
    exact Bool.and_comm _ _
theorem grw_iff {F R ch : List (List Int)} : ch ∈ grwL F R ↔ ch.Sublist R ∧ prsB F ch = true := by
  unfold grwL
  rw [grw_char, prs_iff]
  constructor
  · rintro ⟨s, hs, t, ht, rfl, hp, _⟩
    rw [List.mem_singleton.mp hs]
    exact ⟨by simpa using ht, by simpa using hp.imp fun h => by rw [tog_comm]; exact h⟩
  · rintro ⟨h1, h2⟩
    exact ⟨[], by simp, ch, h1, by simp, h2.imp fun h => by rw [tog_comm]; exact h, fun a ha => by cases ha⟩
theorem flat_sub {α β : Type} {f g : α → List β} : ∀ {l : List α}, (∀ a ∈ l, (f a).Sublist (g a)) → (l.flatMap f).Sublist (l.flatMap g)
  | [], _ => .refl _
  | a :: l, h => by
    rw [List.flatMap_cons, List.flatMap_cons]
    exact (h a (by simp)).append (flat_sub fun b hb => h b (by simp [hb]))
theorem ent_sub {h M : List Int} (hl : h.length = M.length) (hm : ∀ x, x < M.length → h.getD x 0 ≤ M.getD x 0) : (entL h).Sublist (entL M) := by
  unfold entL
  rw [hl]
  refine flat_sub fun x hx => ?_
  have := hm x (List.mem_range.mp hx)
  unfold entI
  exact (List.range_sublist.mpr (by omega)).map _
/-- no clique's heights sum up to more -/
theorem big_ge {F : List (List Int)} {h M : List Int} (hn : ∀ x ∈ h, 0 ≤ x) (hl : h.length = M.length) (hm : ∀ x, x < M.length → h.getD x 0 ≤ M.getD x 0) (top : ∀ x, x < h.length → 0 < h.getD x 0 → ∃ r ∈ F, h.getD x 0 ≤ r.getD x 0) (hc : CliqP F h) : h.sum ≤ bigL F (entL M) := by
  rw [← ent_sum hn]
  exact mxL_le _ (List.mem_map.mpr ⟨entL h, grw_iff.mpr ⟨ent_sub hl hm, (ent_prs top).mpr hc⟩, rfl⟩)
end Lm


/-! cliques: a greatest one has shares for heights (k63) -/
namespace Lm
open PySem PySem.Spec PyProof.Rows L2
/-- a clique that no one outdoes has shares for heights -/
theorem raise {F : List (List Int)} {h M : List Int} (hMx : ∀ x, x < M.length → ∃ r ∈ F, r.getD x 0 = M.getD x 0) (hMl : ∀ x, x < M.length → ∀ r ∈ F, r.getD x 0 ≤ M.getD x 0)
    (hn : ∀ x ∈ h, 0 ≤ x) (hl : h.length = M.length) (hm : ∀ x, x < M.length → h.getD x 0 ≤ M.getD x 0) (hc : CliqP F h) (hs : bigL F (entL M) ≤ h.sum) {x : Nat} (hx : x < M.length) : h.getD x 0 = 0 ∨ ∃ r ∈ F, r.getD x 0 = h.getD x 0 := by
  by_cases h0 : h.getD x 0 = 0
  · exact .inl h0
  · refine .inr (Classical.byContradiction fun no => ?_)
    have hx2 : x < h.length := by omega
    have hp : 0 ≤ h.getD x 0 := hn _ (gd_mem hx2)
    obtain ⟨r0, hr0, e0⟩ := hMx x hx
    have hle := hm x hx
    have ne : 0 < ((F.filter fun r => decide (h.getD x 0 ≤ r.getD x 0)).map fun r => - r.getD x 0).length := by
      rw [List.length_map]
      exact List.length_pos_of_mem (List.mem_filter.mpr ⟨hr0, decide_eq_true (by omega)⟩)
    obtain ⟨r, hr, er⟩ := List.mem_map.mp (mxL_mem ne)
    obtain ⟨rF, rx⟩ := List.mem_filter.mp hr
    have rx := of_decide_eq_true rx
    have least : ∀ q ∈ F, h.getD x 0 ≤ q.getD x 0 → r.getD x 0 ≤ q.getD x 0 := fun q hq hqx => by
      have := mxL_le _ (List.mem_map.mpr ⟨q, List.mem_filter.mpr ⟨hq, decide_eq_true hqx⟩, rfl⟩ : - q.getD x 0 ∈ (F.filter fun r => decide (h.getD x 0 ≤ r.getD x 0)).map fun r => - r.getD x 0)
      omega
    have gt : h.getD x 0 < r.getD x 0 := by
      by_cases e : r.getD x 0 = h.getD x 0
      · exact absurd ⟨r, rF, e⟩ no
      · omega
    have at_ : ∀ y, (h.set x (r.getD x 0)).getD y 0 = if y = x then r.getD x 0 else h.getD y 0 := fun y => by
      rw [List.getD_eq_getElem?_getD]
      by_cases e : y = x
      · subst e
        rw [if_pos rfl, List.getElem?_set_self hx2]; rfl
      · rw [if_neg e, List.getElem?_set_ne (fun w => e w.symm), ← List.getD_eq_getElem?_getD]
    have upM : ∀ y, y < M.length → (h.set x (r.getD x 0)).getD y 0 ≤ M.getD y 0 := fun y hy => by
      rw [at_]
      by_cases e : y = x
      · subst e; rw [if_pos rfl]; exact hMl y hy r rF
      · rw [if_neg e]; exact hm y hy
    have := big_ge (F := F) (h := h.set x (r.getD x 0)) (M := M) (fun z hz => by
        rcases List.mem_or_eq_of_mem_set hz with w | w
        · exact hn z w
        · rw [w]; omega) (by rw [List.length_set]; exact hl) upM (fun y hy h1 => by
        rw [List.length_set] at hy
        obtain ⟨q, hq, e⟩ := hMx y (by omega)
        exact ⟨q, hq, by have := upM y (by omega); omega⟩) (fun a b hab hb h1 h2 => by
        rw [List.length_set] at hb
        rw [at_] at h1 h2 ⊢
        rw [at_]
        by_cases ea : a = x
        · have eb : b ≠ x := by omega
          rw [if_neg eb] at h2 ⊢
          rw [if_pos ea]
          subst ea
          obtain ⟨q, hq, p1, p2⟩ := hc a b hab hb (by omega) h2
          exact ⟨q, hq, least q hq p1, p2⟩
        · rw [if_neg ea] at h1 ⊢
          by_cases eb : b = x
          · rw [if_pos eb]
            subst eb
            obtain ⟨q, hq, p1, p2⟩ := hc a b hab hb h1 (by omega)
            exact ⟨q, hq, p1, least q hq p2⟩
          · rw [if_neg eb] at h2 ⊢
            exact hc a b hab hb h1 h2)
    have sm : ∀ (l : List Int) (i : Nat) (z : Int), i < l.length → (l.set i z).sum = l.sum - l.getD i 0 + z := fun l => by
      induction l with
      | nil => intro i z hi; cases hi
      | cons a l ih =>
        intro i z hi
        match i, hi with
        | 0, _ => simp; omega
        | i + 1, hi =>
          have := ih i z (by simpa using hi)
          simp [List.set_cons_succ] at this ⊢
          omega
    have := sm h x (r.getD x 0) hx2
    omega
end Lm


/-! calm histories, all of them, in order (k48) -/
namespace Lm
open PySem PySem.Spec PyProof.Rows L2
variable {v b : Int} {s : List Int} {A : List (List Int)} {k : Nat} {t : List (List Int)} {r : List Int}
/-- tables in order -/
def TLe : List (List Int) → List (List Int) → Prop
  | [], [] => True
  | a :: h, b :: t => (a.length = b.length ∧ lexLe a b ∧ a ≠ b) ∨ (a = b ∧ TLe h t)
  | _, _ => False
theorem TLe.rf : ∀ {h : List (List Int)}, TLe h h
  | [] => trivial
  | _ :: _ => .inr ⟨rfl, TLe.rf⟩
theorem TLe.app {x y : List Int} : ∀ {h t : List (List Int)}, TLe h t → h.length = t.length → (h = t → TLe [x] [y]) → TLe (h ++ [x]) (t ++ [y])
  | [], [], _, _, e => e rfl
  | a :: h, b :: t, w, l, e => by
    rcases w with w | ⟨rfl, w⟩
    · exact .inl w
    · exact .inr ⟨rfl, TLe.app w (by simpa using l) fun q => e (by rw [q])⟩
  | [], _ :: _, w, _, _ => w.elim
  | _ :: _, [], w, _, _ => w.elim
end Lm


/-! the first colouring: x = xs.pop() + 1, the search, its end (k65, k67) -/
namespace Lm
open PySem PySem.Spec PyProof.Rows L2
section
variable {c : Ct} {Γ : List (Option Rs)} {P : Out → Prop} {u : TS}
end
/-! ### colourings, in order -/
/-- all tuples of n numbers below m, in order -/
def colL (m : Nat) : Nat → List (List Nat)
  | 0 => [[]]
  | n + 1 => (colL m n).flatMap fun c => (List.range m).map fun x => c ++ [x]
/-- what coexists has different numbers -/
def okC (tg : Nat → Nat → Bool) (c : List Nat) : Bool := (List.range c.length).all fun k => (List.range k).all fun j => !(decide (c.getD j 0 = c.getD k 0) && tg k j)
def firC (n m : Nat) (tg : Nat → Nat → Bool) : Option (List Nat) := (colL m n).find? (okC tg)
/-- c, as far as it goes, is not behind d -/
def PLe : List Nat → List Nat → Prop
  | [], _ => True
  | _ :: _, [] => False
  | a :: c, x :: d => a < x ∨ (a = x ∧ PLe c d)
/-- c is before d, at some place that both have -/
def PLt : List Nat → List Nat → Prop
  | a :: c, x :: d => a < x ∨ (a = x ∧ PLt c d)
  | _, _ => False
theorem ple_split : ∀ {c d : List Nat} {p : Nat}, PLe (c ++ [p]) d → (∃ x r, d = c ++ x :: r ∧ p ≤ x) ∨ PLt c d
  | [], [], p, h => h.elim
  | [], x :: d, p, h => by
    rcases h with h | ⟨h, _⟩
    · exact .inl ⟨x, d, rfl, by omega⟩
    · exact .inl ⟨x, d, rfl, by omega⟩
  | a :: c, [], p, h => h.elim
  | a :: c, x :: d, p, h => by
    rcases h with h | ⟨rfl, h⟩
    · exact .inr (.inl h)
    · rcases ple_split h with ⟨y, r, rfl, w⟩ | w
      · exact .inl ⟨y, r, rfl, w⟩
      · exact .inr (.inr ⟨rfl, w⟩)
theorem plt_snoc : ∀ {c d : List Nat} {a : Nat}, PLt (c ++ [a]) d → PLe (c ++ [a + 1]) d
  | [], [], _, h => h.elim
  | [], x :: d, a, h => by
    rcases h with h | ⟨_, h⟩
    · by_cases e : a + 1 = x
      · exact .inr ⟨e, trivial⟩
      · exact .inl (by omega)
    · cases d <;> exact h.elim
  | b :: c, [], _, h => h.elim
  | b :: c, x :: d, a, h => by
    rcases h with h | ⟨e, h⟩
    · exact .inl h
    · exact .inr ⟨e, plt_snoc h⟩
theorem ple_pre : ∀ {c d r : List Nat}, d = c ++ r → PLe c d
  | [], _, _, _ => trivial
  | a :: c, _, r, rfl => .inr ⟨rfl, ple_pre rfl⟩
theorem plt_ple : ∀ {c d : List Nat}, PLt c d → PLe c d
  | [], _, h => h.elim
  | a :: c, [], h => h.elim
  | a :: c, x :: d, h => by
    rcases h with h | ⟨e, h⟩
    · exact .inl h
    · exact .inr ⟨e, plt_ple h⟩
variable {n m : Nat} {tg : Nat → Nat → Bool} {c d : List Nat}
theorem okC_iff : okC tg c = true ↔ ∀ k, k < c.length → ∀ j, j < k → c.getD j 0 = c.getD k 0 → tg k j = false := by
  unfold okC
  rw [List.all_eq_true]
  constructor
  · intro h k hk j hj e
    have := List.all_eq_true.mp (h k (List.mem_range.mpr hk)) j (List.mem_range.mpr hj)
    rw [decide_eq_true e, Bool.true_and, Bool.not_eq_true'] at this
    exact this
  · intro h k hk
    refine List.all_eq_true.mpr fun j hj => ?_
    by_cases e : c.getD j 0 = c.getD k 0
    · rw [h k (List.mem_range.mp hk) j (List.mem_range.mp hj) e, Bool.and_false]; rfl
    · rw [decide_eq_false e, Bool.false_and]; rfl
theorem gd_app {c r : List Nat} {j : Nat} (h : j < c.length) : (c ++ r).getD j 0 = c.getD j 0 := by
  rw [List.getD_eq_getElem?_getD, List.getElem?_append_left h, ← List.getD_eq_getElem?_getD]
theorem okC_pre {r : List Nat} (h : okC tg (c ++ r) = true) : okC tg c = true := okC_iff.mpr fun k hk j hj e => okC_iff.mp h k (by simp; omega) j hj (by rw [gd_app (by omega), gd_app hk]; exact e)
/-! ### the search, place by place -/
/-- where the search stands: c so far, numbers from p on are tried next -/
structure SrC (n m : Nat) (tg : Nat → Nat → Bool) (c : List Nat) (p : Nat) : Prop where
  len : c.length ≤ n
  rng : ∀ x ∈ c, x < m
  ok : okC tg c = true
  pm : p ≤ m
  le : ∀ d, d.length = n → (∀ x ∈ d, x < m) → okC tg d = true → PLe c d ∧ (c.length < n → PLe (c ++ [p]) d)
/-- the first number from p on that fits -/
def freC (tg : Nat → Nat → Bool) (c : List Nat) (p m : Nat) : Option Nat := ((List.range (m - p)).map (· + p)).find? fun b => okC tg (c ++ [b])
theorem freC_none {p : Nat} (h : freC tg c p m = none) {b : Nat} (h1 : p ≤ b) (h2 : b < m) : okC tg (c ++ [b]) = false := by
  unfold freC at h
  have := List.find?_eq_none.mp h b (List.mem_map.mpr ⟨b - p, List.mem_range.mpr (by omega), by omega⟩)
  exact Bool.eq_false_iff.mpr this
theorem SrC.back {a : Nat} {p : Nat} (h : SrC n m tg (c ++ [a]) p) (hl : (c ++ [a]).length < n) (f : freC tg (c ++ [a]) p m = none) : SrC n m tg c (a + 1) := by
  have am := h.rng a (by simp)
  have cl : c.length < n := by simp at hl; omega
  refine ⟨by omega, fun x hx => h.rng x (by simp [hx]), okC_pre h.ok, by omega, fun d h1 h2 h3 => ?_⟩
  have key : PLe (c ++ [a + 1]) d := by
    rcases ple_split ((h.le d h1 h2 h3).2 hl) with ⟨x, r, rfl, hx⟩ | w
    · have xm := h2 x (by simp)
      have := freC_none f hx xm
      rw [okC_pre (c := (c ++ [a]) ++ [x]) (r := r) (by simpa using h3)] at this
      cases this
    · exact plt_snoc w
  refine ⟨?_, fun _ => key⟩
  rcases ple_split key with ⟨x, r, e, hx⟩ | w
  · exact ple_pre e
  · exact plt_ple w
end Lm


/-! xs[::-1] of a list, list(range(a, b)), n & 1; families of up to twenty (k67) -/
namespace Lm
open PySem PySem.Spec PyProof.Rows L2
section
variable {c : Ct} {Γ : List (Option Rs)} {te ta tb : TE} {k ka kb : Kd} {ds : List PyData} {i j : Int}
end
/-- which places coexist -/
def tgL (F R : List (List Int)) (k j : Nat) : Bool := togB F (R.getD k []) (R.getD j [])
/-- the lists by variants, where the places R have the numbers c -/
def lstsR (R : List (List Int)) (c : List Nat) (v : Nat) : List (List Int) := (List.range (v - 1)).map fun x => ((List.range R.length).filter fun k => decide ((R.getD k []).getD 0 0 = ((x + 1 : Nat) : Int))).map fun k => ((c.getD k 0 : Nat) : Int)
def lstsD (R : List (List Int)) (v : Nat) : Option (List Nat) → PyData
  | none => .none
  | some c => .tuple ((lstsR R c v).map tupD)
end Lm


/-! raise C("..") of any class that keeps a text; promises of fewest (k65) -/
namespace Lm
open PySem PySem.Spec PyProof.Rows L2
section
variable {c : Ct} {Γ : List (Option Rs)} {te : TE} {P : Out → Prop} {ds : List PyData} {d : PyData} {n m : Nat}
/-- xs.append(a new list); a slot that holds nothing is lent -/
theorem s_appO (hx : Γ[n]? = some (some (.o (.list ds)))) (hm : Γ[m]? = some none) (h : Ev c te Γ .o d) (hl : ds.length < 1000000) (p : P (.nx (Γ.set n (some (.o (.list (ds ++ [d]))))))) : Sd c (tDrop (tBM c.K "list" rAppend (tVar n) (tCons te tNil))) Γ P := fun H0 O H σ D e s => by
  have ne : n ≠ m := fun z => by rw [z, hm] at hx; cases hx
  obtain ⟨q0, xs0, f0, hq0, hp0, _⟩ := e.write (es := ds ++ [d]) hx
  refine ⟨.ref q0, hq0, .inl ⟨rfl, xs0, .inl (.inl hp0)⟩, h H0 O H σ e _ fun v H2 r ⟨fp, f, nd, new⟩ => ?_⟩
  have e2 := e.setO (i := m) r f nd new
  have lm : m < Γ.length := (List.getElem?_eq_some_iff.mp hm).1
  have hx2 : (Γ.set m (some (.o d)))[n]? = some (some (.o (.list ds))) := by rw [List.getElem?_set_ne ne.symm]; exact hx
  obtain ⟨q, xs, v', hq, hv, hp, lx, wr⟩ := e2.gift hx2 (by rw [List.getElem?_set_self lm]) ne
  rw [List.getElem?_set_ne ne.symm, hq0] at hq
  cases hq
  have lσ : m < σ.length := by rw [e.len]; exact lm
  rw [List.getElem?_set_self lσ] at hv
  cases hv
  have w2 := wr.setN (i := m) (x := σ[m])
  have es : (σ.set m (some v)).set m σ[m] = σ := by simp
  have eΓ : ((((Γ.set m (some (.o d))).set m none).set n (some (.o (.list (ds ++ [d]))))).set m none) = Γ.set n (some (.o (.list (ds ++ [d])))) := by
    rw [List.set_set, List.set_comm _ _ ne, List.set_set]
    have e0 : Γ.set m none = Γ := by
      refine List.ext_getElem? fun i => ?_
      by_cases z : i = m
      · subst z; rw [List.getElem?_set_self lm, hm]
      · rw [List.getElem?_set_ne (fun w => z w.symm)]
    rw [e0]
  rw [es, eΓ] at w2
  exact ⟨q0, xs, v, rfl, rfl, hp, by rw [lx, sizeLine_eq]; omega, s _ p _ _ σ w2⟩
end
section
variable {c : Ct} {H0 : Hp} {Γ : List (Option Rs)} {K : PySem.W.Frag}
end
/-- the numbers, cut by the shares -/
def prtL (gs : List Int) (c : List Int) : List (List Int) := (List.range gs.length).map fun x => (c.drop (gs.take x).sum.toNat).take (gs.getD x 0).toNat
theorem EvI.to {c : Ct} {wi : TI} {Γ : List (Option Rs)} {fz : Bool} {a b : List Im} (h : EvI c wi Γ fz a) (e : a = b) : EvI c wi Γ fz b := e ▸ h
end Lm


/-! a, b = xs.pop(); enumerate of a list or a tuple; promises of fewest and of case trees (k65) -/
namespace Lm
open PySem PySem.Spec PyProof.Rows L2
section
variable {c : Ct} {Γ : List (Option Rs)} {P : Out → Prop} {u : TS} {g : TG}
end
/-! ### the answer of fewest -/
abbrev R65 (F : List (List Int)) (v : Nat) : List (List Int) := entL (gsL F (v - 1))
def om65 (F : List (List Int)) (v : Nat) : Nat := (bigL F (R65 F v)).toNat
def hg65 (F : List (List Int)) (v : Nat) : Option (List Int) := (boxL (gsL F (v - 1))).find? (okH F (bigL F (R65 F v)))
def tree65 (F : List (List Int)) (v : Nat) : PyData :=
  match hg65 F v with
  | none => .none
  | some h => if 0 < om65 F v then .tuple [.str "clique", .tuple ((entL h).map tupD)] else .none
def few65 (F : List (List Int)) (v : Nat) : PyData := .tuple [.int (om65 F v : Nat), lstsD (R65 F v) v (firC (R65 F v).length (om65 F v) (tgL F (R65 F v))), tree65 F v]
/-! ### case trees: a clique at the root -/
end Lm


/-! the lists of a colouring serve the family (k65) -/
namespace Lm
open PySem PySem.Spec PyProof.Rows L2
/-- what fewest finds -/
structure Few65 (F : List (List Int)) (v : Nat) (hs : List Int) (c : List Nat) : Prop where
  hg : hg65 F v = some hs
  hl : hs.length = v - 1
  hr : ∀ x ∈ hs, 0 ≤ x ∧ x ≤ 10
  om : (entL hs).length = om65 F v
  big : bigL F (R65 F v) = (om65 F v : Nat)
  pw : (entL hs).Pairwise fun a b => togB F a b = true
  sub : (entL hs).Sublist (R65 F v)
  om9 : om65 F v ≤ 9
  ec : firC (R65 F v).length (om65 F v) (tgL F (R65 F v)) = some c
  cl : c.length = (R65 F v).length
  cm : ∀ x ∈ c, x < om65 F v
  ok : okC (tgL F (R65 F v)) c = true
  few : few65 F v = .tuple [.int (om65 F v : Nat), .tuple ((lstsR (R65 F v) c v).map tupD), tree65 F v]
  lst : Lsts (lstsR (R65 F v) c v) ((v : Int) - 1) (om65 F v : Nat)
  srv : ∀ r ∈ F, OkF (lstsR (R65 F v) c v) r
  prt : prtL (gsL F (v - 1)) (castL c) = lstsR (R65 F v) c v
  sum : ((castL c).length : Int) = (gsL F (v - 1)).sum
  ent : ∀ e ∈ R65 F v, ∃ x y : Nat, e = [((x + 1 : Nat) : Int), (y : Int)] ∧ x < v - 1 ∧ y < 10
theorem Few65.flat {F : List (List Int)} {v : Nat} {hs : List Int} {c : List Nat} (f : Few65 F v hs c) : flatD (tree65 F v) = true ∧ flatD (few65 F v) = true := by
  have t : flatD (tree65 F v) = true := by
    unfold tree65
    rw [f.hg]
    show flatD (if 0 < om65 F v then PyData.tuple [.str "clique", .tuple ((entL hs).map tupD)] else .none) = true
    split
    · show (true && (flatAll ((entL hs).map tupD) && true)) = true
      rw [fl_rows]; rfl
    · rfl
  refine ⟨t, ?_⟩
  rw [f.few]
  show (true && (flatAll ((lstsR (R65 F v) c v).map tupD) && (flatD (tree65 F v) && true))) = true
  rw [fl_rows, t]
  rfl
end Lm


/-! things grouped in a dict of lists (k72, k74) -/
namespace Lm
open PySem PySem.Spec PyProof.Rows L2
/-! ### groups -/
abbrev GE := (Int × Int) × List Int
abbrev GA := GE × Addr
/-- the lists of the groups, each one's own -/
structure Grp (F : Hp) (O : List Addr) (H : Hp) (G : List GA) : Prop where
  nd : (G.map (·.2)).Nodup
  fr : ∀ g ∈ G, F g.2 = none ∧ g.2 ∉ O
  lst : ∀ g ∈ G, H g.2 = some (.lst (g.1.2.map V.int))
theorem Grp.on {F H H' : Hp} {O : List Addr} {G : List GA} (h : Grp F O H G) (sm : ∀ g ∈ G, H' g.2 = H g.2) : Grp F O H' G := ⟨h.nd, h.fr, fun g hg => by rw [sm g hg]; exact h.lst g hg⟩
/-! ### one turn: moving.setdefault((old, new), []).append(bucket) -/
end Lm


/-! a tuple of what other defs return, where no list of one's own is about; wrong arguments of thresholds (k74) -/
namespace Lm
open PySem PySem.Spec PyProof.Rows L2
section
variable {c : Ct} {H H' H0 H1 H2 : Hp} {O : List Addr} {σ : L2.St} {Γ : List (Option Rs)} {te : TE} {tr : TA} {k : Kd} {u : TS} {n : Nat} {P : PyData → Prop} {P' : Out → Prop} {Pd : List PyData → Prop}
end
section
variable {K : PySem.W.Frag} {C : Addr}
end
/-! good and wrong arguments -/
theorem small_of {es : List PyData} (h : es.length ≤ 1000000) : SmallT (.tuple es) := fun es' e => by cases e; exact h
theorem small_no {x : PyData} (h : isTupTy x = false) : SmallT x := fun es e => by rw [e] at h; cases h
theorem wr3 {v : Nat} {d : PyData} (v3 : 3 ≤ v) (v5 : v ≤ 5) (hd : d = .none ∨ d = tupD (upI 0 (v - 1)) ∨ d = tupD (upI 0 v ++ [(v : Int)]) ∨ d = tupD (0 :: upI 0 (v - 1)) ∨ d = tupD (upI 0 (v - 1) ++ [(v : Int)]) ∨ d = .list ((upI 0 v).map .int) ∨ d = .tuple ((upI 0 (v - 1)).map .int ++ [.bool true]) ∨ d = tupD (-1 :: (upI 0 v).drop 1)) : SmallT d ∧ isOrdB d (v : Int) = false := by
  have hl : ∀ n, (upI 0 n).length = n := fun n => by simp [upI]
  constructor
  · rcases hd with rfl | rfl | rfl | rfl | rfl | rfl | rfl | rfl
    · exact small_no rfl
    · exact small_of (by simp [upI]; omega)
    · exact small_of (by simp [upI]; omega)
    · exact small_of (by simp [upI]; omega)
    · exact small_of (by simp [upI]; omega)
    · exact small_no rfl
    · exact small_of (by simp [upI]; omega)
    · exact small_of (by simp [upI]; omega)
  · match v, v3, v5 with
    | 3, _, _ => rcases hd with rfl | rfl | rfl | rfl | rfl | rfl | rfl | rfl <;> first | rfl | decide
    | 4, _, _ => rcases hd with rfl | rfl | rfl | rfl | rfl | rfl | rfl | rfl <;> first | rfl | decide
    | 5, _, _ => rcases hd with rfl | rfl | rfl | rfl | rfl | rfl | rfl | rfl <;> first | rfl | decide
    | n + 6, _, h => omega
end Lm
namespace Lm
open PySem PySem.Spec PyProof.Rows L2
end Lm


namespace Lm
/-! nearest allocations (k04): what is rounded up and down -/
def sR (n : Nat) (f : Nat → Int) : Int := ((List.range n).map f).sum
theorem sR_succ {n : Nat} {f : Nat → Int} : sR (n + 1) f = sR n f + f n := by
  unfold sR; rw [List.range_succ, List.map_append, List.sum_append]; simp
theorem sR_congr {n : Nat} {f g : Nat → Int} (h : ∀ k < n, f k = g k) : sR n f = sR n g := by
  induction n with
  | zero => rfl
  | succ n ih => rw [sR_succ, sR_succ, ih fun k hk => h k (by omega), h n (by omega)]
section
variable {n : Nat} {W p : Int} {c x r : Nat → Int}
end
end Lm
namespace Lm
open PySem PySem.Spec PyProof.Rows L2
theorem sR_list : ∀ L : List Int, L.sum = sR L.length (fun k => L.getD k 0)
  | [] => rfl
  | x :: L => by
    have ih := sR_list L
    unfold sR at ih ⊢
    rw [List.length_cons, List.range_succ_eq_map, List.map_cons, List.map_map, List.sum_cons, List.sum_cons, ih]
    rfl
/-! by the rests: greatest first -/
/-! weights -/
section
variable {ws as : List Int} {b : Int}
end
end Lm


/-! lowest terms; what is rounded as it should be; promises about weights (k04, k09) -/
namespace Lm
open PySem PySem.Spec PyProof.Rows L2
def gcI (n d : Int) : Int := ((Nat.gcd n.natAbs d.natAbs : Nat) : Int)
def lowD (n d : Int) : PyData := .tuple [.int (n / gcI n d), .int (d / gcI n d)]
theorem gc_pos {n d : Int} (hd : 0 < d) : 0 < gcI n d := by
  have : 0 < Nat.gcd n.natAbs d.natAbs := Nat.gcd_pos_of_pos_right _ (by omega)
  unfold gcI; omega
theorem gc_le {n d : Int} (hd : 0 < d) : gcI n d ≤ d := by
  have : Nat.gcd n.natAbs d.natAbs ≤ d.natAbs := Nat.gcd_le_right _ (by omega)
  unfold gcI; omega
section
variable {ws as : List Int} {b : Int}
end
/-! promises -/
def sp_in_lowest_terms (K : PySem.W.Frag) : Sp := spD K fun ds k d => ∃ n m : Int, ds = [.int n, .int m] ∧ 0 < m ∧ m < 1073741824 ∧ k = .v ∧ d = lowD n m
end Lm


/-! gcd, abs, zip of two lists that stay, max of a list of any data; k04's readings -/
namespace Lm
open PySem PySem.Spec PyProof.Rows L2
section
variable {c : Ct} {Γ : List (Option Rs)} {te ta tb : TE} {k ka kb k1 k2 : Kd} {i j : Int}
theorem e_gcd (ha : Ev c ta Γ ka (.int i)) (hb : Ev c tb Γ kb (.int j)) : Ev c (tCB rGcd (tCons ta (tCons tb tNil))) Γ .v (.int (gcI i j)) :=
  d_cb (a_cons ha (a_cons hb a_nil)) fun H O vs Q s q => by
    obtain ⟨x, y, rfl, b1, b2⟩ := s.two
    exact ⟨i, j, by rw [b1.int', b2.int'], q _ H Rr.rf (.int _)⟩
end
end Lm
namespace L2
open PySem PySem.Spec PyProof.Rows Lm
section
variable {X : Cx}
end
end L2
namespace Lm
open PySem PySem.Spec PyProof.Rows L2
/-! rows of two ints -/
end Lm


/-! rules for all allowed shares (k84): those of fewest's lists are steady, and fewer buckets give none -/
namespace Lm
open PySem PySem.Spec PyProof.Rows L2
/-! allowed shares, each once -/
/-! lists that are long enough give each allocation its buckets -/
/-- the pair that lists give for shares -/
def alc84 (b : Int) (s : List Int) : List Int := (b - s.sum) :: s
end Lm


/-! steady rules for all allowed shares: how many, and that fewer buckets than a clique give none (k84) -/
namespace Lm
open PySem PySem.Spec PyProof.Rows L2
def stdB (r : List Pr) (p : Pr) (b : Nat) : Bool := r.all fun o => (List.range b).all fun y => !(leftB o p y || leftB p o y)
/-- the assignments with these counts -/
def asg84 (v : Int) (b : Nat) (as : List Int) : List (List Int) := (allL v b).filter fun f => decide (countsI f v = as)
def stepS (v : Int) (b : Nat) (R : List (List Pr)) (s : List Int) : List (List Pr) := (asg84 v b (alc84 (b : Int) s)).flatMap fun f => (R.filter fun r => stdB r (alc84 (b : Int) s, f) b).map fun r => r ++ [(alc84 (b : Int) s, f)]
def fndS (v : Int) (b : Nat) (A : List (List Int)) : List (List Pr) := A.foldl (stepS v b) [[]]
theorem fndS_snoc {v : Int} {b : Nat} {A : List (List Int)} {s : List Int} : fndS v b (A ++ [s]) = stepS v b (fndS v b A) s := by unfold fndS; rw [List.foldl_append]; rfl
theorem std_iff {r : List Pr} {p : Pr} {b : Nat} : stdB r p b = true ↔ ∀ o ∈ r, ∀ y < b, leftB o p y = false ∧ leftB p o y = false := by
  unfold stdB
  simp only [List.all_eq_true, List.mem_range, Bool.not_eq_true', Bool.or_eq_false_iff]
theorem left_iff {p q : Pr} {y : Nat} : leftB p q y = false ↔ (p.2.getD y 0 ≠ 0 → p.1.getD (p.2.getD y 0).toNat 0 ≤ q.1.getD (p.2.getD y 0).toNat 0 → q.2.getD y 0 = p.2.getD y 0) := by
  unfold leftB
  rw [← Bool.not_eq_true]
  simp only [Bool.and_eq_true, Bool.not_eq_true', decide_eq_false_iff_not, decide_eq_true_eq]
  constructor
  · intro h h1 h2
    apply Classical.byContradiction
    intro h3
    exact h ⟨h1, h3, h2⟩
  · rintro h ⟨h1, h3, h2⟩
    exact h3 (h h1 h2)
/-- what is found: one pair for each of the shares, all of them steady -/
theorem fnd_mem {v : Int} {b : Nat} (hv : 0 ≤ v) : ∀ (A : List (List Int)) {r : List Pr}, r ∈ fndS v b A →
    r.length = A.length ∧ (∀ i (p : Pr), r[i]? = some p → p.1 = alc84 (b : Int) (A.getD i []) ∧ p.2 ∈ asg84 v b p.1) ∧ (∀ p ∈ r, ∀ q ∈ r, ∀ y < b, leftB p q y = false) := by
  have main : ∀ (n : Nat) (A : List (List Int)), A.length = n → ∀ {r : List Pr}, r ∈ fndS v b A → r.length = A.length ∧ (∀ i (p : Pr), r[i]? = some p → p.1 = alc84 (b : Int) (A.getD i []) ∧ p.2 ∈ asg84 v b p.1) ∧ (∀ p ∈ r, ∀ q ∈ r, ∀ y < b, leftB p q y = false) := fun n => ?_
  · exact fun A r hr => main A.length A rfl hr
  induction n with
  | zero =>
    intro A hA r hr
    have := List.length_eq_zero_iff.mp hA
    subst this
    have : r = [] := by simpa [fndS] using hr
    subst this
    exact ⟨rfl, fun i p h => by simp at h, fun p h => by simp at h⟩
  | succ n ih' =>
    intro A0 hA r hr
    obtain ⟨A, s, rfl⟩ : ∃ A s, A0 = A ++ [s] := by
      rcases List.eq_nil_or_concat A0 with e | ⟨A, s, e⟩
      · rw [e] at hA; simp at hA
      · exact ⟨A, s, by rw [e, List.concat_eq_append]⟩
    have ih := @ih' A (by simpa using hA)
    rw [fndS_snoc] at hr
    obtain ⟨f, hf, hr⟩ := List.mem_flatMap.mp hr
    obtain ⟨r0, h0, rfl⟩ := List.mem_map.mp hr
    obtain ⟨h0, hs⟩ := List.mem_filter.mp h0
    obtain ⟨l0, p0, q0⟩ := ih h0
    have st := std_iff.mp hs
    have self : ∀ y < b, leftB (alc84 (b : Int) s, f) (alc84 (b : Int) s, f) y = false := fun y _ => left_iff.mpr fun _ _ => rfl
    refine ⟨by simp [l0], fun i p h => ?_, fun p hp q hq y hy => ?_⟩
    · by_cases e : i < r0.length
      · rw [List.getElem?_append_left e] at h
        have := p0 i p h
        have g : (A ++ [s]).getD i [] = A.getD i [] := by
          rw [List.getD_eq_getElem?_getD, List.getElem?_append_left (by omega), List.getD_eq_getElem?_getD]
        rw [g]; exact this
      · rw [List.getElem?_append_right (by omega)] at h
        have ei : i - r0.length = 0 := by have := (List.getElem?_eq_some_iff.mp h).1; simp at this; omega
        rw [ei] at h
        have : p = (alc84 (b : Int) s, f) := (Option.some.inj h).symm
        subst this
        have g : (A ++ [s]).getD i [] = s := by
          rw [List.getD_eq_getElem?_getD, List.getElem?_append_right (by omega), show i - A.length = 0 by omega]; rfl
        rw [g]
        exact ⟨rfl, hf⟩
    · rcases List.mem_append.mp hp with w | w
      · rcases List.mem_append.mp hq with z | z
        · exact q0 p w q z y hy
        · rw [List.mem_singleton.mp z]; exact (st p w y hy).1
      · rw [List.mem_singleton.mp w]
        rcases List.mem_append.mp hq with z | z
        · exact (st q z y hy).2
        · rw [List.mem_singleton.mp z]; exact self y hy
/-! how many -/
theorem swap_len {α β γ : Type} {R : List α} {P : β → α → Bool} {g : β → α → γ} : ∀ L : List β, (L.flatMap fun f => (R.filter (P f)).map (g f)).length = (R.map fun r => (L.filter fun f => P f r).length).sum
  | [] => by
    have : ∀ R : List α, (R.map fun _ => (0 : Nat)).sum = 0 := fun R => by
      induction R with
      | nil => rfl
      | cons a R ih => simpa using ih
    simp [this]
  | f :: L => by
    have ih := swap_len (P := P) (g := g) (R := R) L
    rw [List.flatMap_cons, List.length_append, ih, List.length_map]
    clear ih
    induction R with
    | nil => rfl
    | cons r R ih =>
      rw [List.map_cons, List.sum_cons, List.map_cons, List.sum_cons, List.filter_cons, List.filter_cons]
      by_cases h : P f r = true
      · rw [if_pos h, if_pos h, List.length_cons, List.length_cons]; omega
      · rw [if_neg h, if_neg h]; omega
theorem sum_le_mul {α : Type} {R : List α} {f : α → Nat} {k : Nat} (h : ∀ r ∈ R, f r ≤ k) : (R.map f).sum ≤ R.length * k := by
  induction R with
  | nil => simp
  | cons a R ih =>
    rw [List.map_cons, List.sum_cons, List.length_cons, Nat.add_mul, Nat.one_mul]
    have := h a (by simp)
    have := ih fun r hr => h r (by simp [hr])
    omega
theorem step_le {v : Int} {b k : Nat} {R : List (List Pr)} {s : List Int} (h : ∀ r ∈ R, ((asg84 v b (alc84 (b : Int) s)).filter fun f => stdB r (alc84 (b : Int) s, f) b).length ≤ k) : (stepS v b R s).length ≤ R.length * k := by
  unfold stepS
  rw [swap_len (P := fun f r => stdB r (alc84 (b : Int) s, f) b) (g := fun f r => r ++ [(alc84 (b : Int) s, f)])]
  exact sum_le_mul h
/-- shares of one variant at most -/
def sngB (s : List Int) : Bool := decide ((s.filter fun x => decide (x ≠ 0)).length ≤ 1)
def sngL (n : Nat) : List (List Int) := zr n :: (List.range n).flatMap fun x => [(zr n).set x 1, (zr n).set x 2]
theorem mem_asg {v : Int} (hv : 0 ≤ v) {b : Nat} {as f : List Int} : f ∈ asg84 v b as ↔ (f.length = b ∧ ∀ x ∈ f, 0 ≤ x ∧ x < v) ∧ countsI f v = as := by
  unfold asg84
  rw [List.mem_filter, mem_allL hv, decide_eq_true_eq]
theorem few_asg : ∀ v ∈ [2, 3, 4], ∀ b ∈ [0, 1, 2, 3], ∀ s ∈ sngL (v - 1), (asg84 (v : Int) b (alc84 (b : Int) s)).length ≤ 3 := by decide +kernel
theorem sng_mem : ∀ (s : List Int), (∀ x ∈ s, 0 ≤ x ∧ x ≤ 2) → sngB s = true → s ∈ sngL s.length := fun s h hs => by
  have z : ∀ t : List Int, (t.filter fun x => decide (x ≠ 0)).length = 0 → t = zr t.length := fun t ht => by
    have := List.length_eq_zero_iff.mp ht
    rw [List.filter_eq_nil_iff] at this
    apply List.ext_getElem
    · simp [zr]
    · intro i h1 h2
      have := this _ (List.getElem_mem h1)
      simp [zr] at this ⊢
      exact this
  by_cases e : s = zr s.length
  · unfold sngL; rw [← e]; simp
  · obtain ⟨i, hi, ne⟩ : ∃ i, ∃ h : i < s.length, s[i] ≠ 0 := by
      apply Classical.byContradiction
      intro w
      apply e
      apply List.ext_getElem
      · simp [zr]
      · intro i h1 h2
        simp [zr]
        apply Classical.byContradiction
        intro q
        exact w ⟨i, h1, q⟩
    have hs := of_decide_eq_true hs
    have sp : s = s.take i ++ s[i] :: s.drop (i + 1) := by
      rw [← List.drop_eq_getElem_cons hi, List.take_append_drop]
    have cnt : (s.filter fun x => decide (x ≠ 0)).length = ((s.take i).filter fun x => decide (x ≠ 0)).length + (1 + ((s.drop (i + 1)).filter fun x => decide (x ≠ 0)).length) := by
      conv => lhs; rw [sp]
      rw [List.filter_append, List.length_append, List.filter_cons, if_pos (by simpa using ne), List.length_cons]
      omega
    have z1 := z (s.take i) (by omega)
    have z2 := z (s.drop (i + 1)) (by omega)
    have es : s = (zr s.length).set i s[i] := by
      apply List.ext_getElem
      · simp [zr]
      · intro j h1 h2
        rw [List.getElem_set]
        by_cases q : i = j
        · subst q; simp
        · rw [if_neg q]
          simp only [zr, List.getElem_replicate]
          by_cases lt : j < i
          · have : (s.take i)[j]? = some 0 := by rw [z1]; unfold zr; rw [List.getElem?_replicate, if_pos (by rw [List.length_take]; omega)]
            rw [List.getElem?_take_of_lt lt, List.getElem?_eq_getElem h1] at this
            exact Option.some.inj this
          · have : (s.drop (i + 1))[j - (i + 1)]? = some 0 := by rw [z2]; unfold zr; rw [List.getElem?_replicate, if_pos (by rw [List.length_drop]; omega)]
            rw [List.getElem?_drop, show i + 1 + (j - (i + 1)) = j by omega, List.getElem?_eq_getElem h1] at this
            exact Option.some.inj this
    have r := h _ (List.getElem_mem hi)
    unfold sngL
    refine List.mem_cons_of_mem _ (List.mem_flatMap.mpr ⟨i, List.mem_range.mpr hi, ?_⟩)
    rcases (show s[i] = 1 ∨ s[i] = 2 by omega) with q | q
    · rw [q] at es; rw [List.mem_cons]; exact .inl es
    · rw [q] at es; rw [List.mem_cons, List.mem_cons]; exact .inr (.inl es)
/-- the allowed shares in order -/
structure Aw84 (F A : List (List Int)) (v : Nat) : Prop where
  fam : Fam F (v : Int)
  v2 : 2 ≤ v
  v4 : v ≤ 4
  two : ∀ r ∈ F, ∀ x ∈ r, x ≤ 2
  mem : ∀ s, s ∈ A ↔ AllF F s
  asc : A.Pairwise fun a b => TS.code 1000 a < TS.code 1000 b
theorem code_set {B : Int} (hB : 0 < B) : ∀ {s : List Int} {i : Nat}, i < s.length → TS.code B (s.set i (s.getD i 0 - 1)) < TS.code B s
  | x :: s, 0, _ => by
    show (x - 1) * B ^ s.length + TS.code B s < x * B ^ s.length + TS.code B s
    have : 0 < B ^ s.length := Int.pow_pos hB
    rw [Int.sub_mul]
    omega
  | x :: s, i + 1, h => by
    show x * B ^ (s.set i (s.getD i 0 - 1)).length + TS.code B (s.set i (s.getD i 0 - 1)) < x * B ^ s.length + TS.code B s
    rw [List.length_set]
    have := code_set hB (s := s) (i := i) (by simpa using h)
    omega
section
variable {F A : List (List Int)} {v b : Nat}
theorem Aw84.shr (h : Aw84 F A v) {s : List Int} (hs : s ∈ A) : s.length = v - 1 ∧ ∀ x ∈ s, 0 ≤ x ∧ x ≤ 2 := by
  obtain ⟨r, hr, hl, hb⟩ := (h.mem s).mp hs
  have rl := (h.fam.shr r hr).len
  refine ⟨by omega, fun x hx => ?_⟩
  obtain ⟨i, hi, rfl⟩ := List.getElem_of_mem hx
  have := hb i hi
  have e : s.getD i 0 = s[i] := by simp [List.getD_eq_getElem?_getD, hi]
  have r2 := h.two r hr _ (gd_mem (l := r) (j := i) (by omega))
  omega
/-- one bucket less of a variant is allowed, and stands before -/
theorem Aw84.pred (h : Aw84 F A v) {s : List Int} {i n : Nat} (hn : A[n]? = some s) (hi : i < s.length) (pos : 0 < s.getD i 0) : s.set i (s.getD i 0 - 1) ∈ A.take n := by
  have hs := List.mem_of_getElem? hn
  obtain ⟨r, hr, hl, hb⟩ := (h.mem s).mp hs
  have mem : s.set i (s.getD i 0 - 1) ∈ A := (h.mem _).mpr ⟨r, hr, by rw [List.length_set]; exact hl, fun j hj => by
    rw [List.length_set] at hj
    have := hb j hj
    by_cases e : i = j
    · subst e
      rw [getD_setI hi, if_pos rfl]; omega
    · rw [getD_setI hi, if_neg e]; exact this⟩
  have lt := code_set (B := 1000) (by decide) hi
  have nl := (List.getElem?_eq_some_iff.mp hn).1
  have pw := h.asc
  rw [← List.take_append_drop n A] at pw mem
  rcases List.mem_append.mp mem with w | w
  · exact w
  · exfalso
    have dr : A.drop n = s :: A.drop (n + 1) := by
      rw [List.drop_eq_getElem_cons nl]
      congr 1
      rw [List.getElem?_eq_getElem nl] at hn
      exact Option.some.inj hn
    rw [dr] at w pw
    rcases List.mem_cons.mp w with w | w
    · rw [w] at lt; omega
    · have := (List.pairwise_cons.mp (List.pairwise_append.mp pw).2.1).1 _ w
      omega
theorem alc_at {s : List Int} {i : Nat} : (alc84 (b : Int) s).getD (i + 1) 0 = s.getD i 0 := rfl
/-- with shares of two variants there is at most one -/
theorem Aw84.one (h : Aw84 F A v) {s : List Int} {n : Nat} (hn : A[n]? = some s) (hs : sngB s = false) {r : List Pr} (hr : r ∈ fndS (v : Int) b (A.take n)) : ((asg84 (v : Int) b (alc84 (b : Int) s)).filter fun f => stdB r (alc84 (b : Int) s, f) b).length ≤ 1 := by
  obtain ⟨rl, rp, rq⟩ := fnd_mem (by omega) _ hr
  have sl := (h.shr (List.mem_of_getElem? hn)).1
  have nl := (List.getElem?_eq_some_iff.mp hn).1
  -- where one of them has a variant, the other has it too
  have same : ∀ f ∈ (asg84 (v : Int) b (alc84 (b : Int) s)).filter (fun f => stdB r (alc84 (b : Int) s, f) b), ∀ g ∈ (asg84 (v : Int) b (alc84 (b : Int) s)).filter (fun f => stdB r (alc84 (b : Int) s, f) b), ∀ y < b, f.getD y 0 ≠ 0 → g.getD y 0 = f.getD y 0 := fun f hf g hg y hy ne => by
    obtain ⟨fa, fs⟩ := List.mem_filter.mp hf
    obtain ⟨ga, gs⟩ := List.mem_filter.mp hg
    obtain ⟨⟨fl, fr⟩, fc⟩ := (mem_asg (by omega)).mp fa
    have fy := fr _ (gd_mem (l := f) (j := y) (by omega))
    obtain ⟨u, hu⟩ : ∃ u : Nat, f.getD y 0 = (u : Int) + 1 := ⟨(f.getD y 0 - 1).toNat, by omega⟩
    -- another variant with shares
    obtain ⟨w, hw, wu, wp⟩ : ∃ w, w < s.length ∧ w ≠ u ∧ 0 < s.getD w 0 := by
      apply Classical.byContradiction
      intro no
      have zero : ∀ w (hw : w < s.length), w ≠ u → s[w] = 0 := fun w hw ne => by
        apply Classical.byContradiction
        intro q
        have e : s.getD w 0 = s[w] := by simp [List.getD_eq_getElem?_getD, hw]
        have := ((h.shr (List.mem_of_getElem? hn)).2 _ (List.getElem_mem hw)).1
        exact no ⟨w, hw, ne, by omega⟩
      have : sngB s = true := by
        unfold sngB
        rw [decide_eq_true_eq]
        by_cases ul : u < s.length
        · have sp : s = s.take u ++ s[u] :: s.drop (u + 1) := by
            rw [← List.drop_eq_getElem_cons ul, List.take_append_drop]
          rw [sp, List.filter_append, List.length_append, List.filter_cons]
          have z1 : (s.take u).filter (fun x => decide (x ≠ 0)) = [] := by
            rw [List.filter_eq_nil_iff]
            intro x hx
            obtain ⟨i, hi, rfl⟩ := List.getElem_of_mem hx
            rw [List.length_take] at hi
            rw [List.getElem_take, zero i (by omega) (by omega)]
            decide
          have z2 : (s.drop (u + 1)).filter (fun x => decide (x ≠ 0)) = [] := by
            rw [List.filter_eq_nil_iff]
            intro x hx
            obtain ⟨i, hi, rfl⟩ := List.getElem_of_mem hx
            rw [List.length_drop] at hi
            rw [List.getElem_drop, zero (u + 1 + i) (by omega) (by omega)]
            decide
          rw [z1, z2]
          split <;> simp
        · have z1 : s.filter (fun x => decide (x ≠ 0)) = [] := by
            rw [List.filter_eq_nil_iff]
            intro x hx
            obtain ⟨i, hi, rfl⟩ := List.getElem_of_mem hx
            rw [zero i hi (by omega)]
            decide
          rw [z1]; simp
      rw [this] at hs; cases hs
    have pm := h.pred hn hw wp
    obtain ⟨i, hi, ei⟩ := List.getElem_of_mem pm
    have ir : i < r.length := by omega
    obtain ⟨p1, p2⟩ := rp i r[i] (List.getElem?_eq_getElem ir)
    have gi : (A.take n).getD i [] = s.set w (s.getD w 0 - 1) := by rw [List.getD_eq_getElem?_getD, List.getElem?_eq_getElem hi, ei]; rfl
    rw [gi] at p1
    have pr : r[i] ∈ r := List.getElem_mem ir
    have f1 := std_iff.mp fs _ pr y hy
    have g1 := std_iff.mp gs _ pr y hy
    have at1 : (r[i].1).getD (u + 1) 0 = (alc84 (b : Int) s).getD (u + 1) 0 := by
      rw [p1, alc_at, alc_at, getD_setI hw, if_neg wu]
    have un : ((u : Int) + 1).toNat = u + 1 := by omega
    have o1 := left_iff.mp f1.2 (by show f.getD y 0 ≠ 0; exact ne) (by show (alc84 (b : Int) s).getD (f.getD y 0).toNat 0 ≤ _; rw [hu, un, at1]; exact Int.le_refl _)
    have o1 : r[i].2.getD y 0 = f.getD y 0 := o1
    have o2 := left_iff.mp g1.1 (by rw [o1]; exact ne) (by rw [o1]; show _ ≤ (alc84 (b : Int) s).getD (f.getD y 0).toNat 0; rw [hu, un, at1]; exact Int.le_refl _)
    have o2 : g.getD y 0 = r[i].2.getD y 0 := o2
    rw [o2, o1]
  have alleq : ∀ f ∈ (asg84 (v : Int) b (alc84 (b : Int) s)).filter (fun f => stdB r (alc84 (b : Int) s, f) b), ∀ g ∈ (asg84 (v : Int) b (alc84 (b : Int) s)).filter (fun f => stdB r (alc84 (b : Int) s, f) b), f = g := fun f hf g hg => by
    have fl := ((mem_asg (v := (v : Int)) (by omega)).mp (List.mem_filter.mp hf).1).1.1
    have gl := ((mem_asg (v := (v : Int)) (by omega)).mp (List.mem_filter.mp hg).1).1.1
    apply List.ext_getElem
    · omega
    · intro y h1 h2
      have e1 : f.getD y 0 = f[y] := by simp [List.getD_eq_getElem?_getD, h1]
      have e2 : g.getD y 0 = g[y] := by simp [List.getD_eq_getElem?_getD, h2]
      rw [← e1, ← e2]
      by_cases z : f.getD y 0 = 0
      · by_cases z2 : g.getD y 0 = 0
        · omega
        · have := same g hg f hf y (by omega) z2; omega
      · have := same f hf g hg y (by omega) z; omega
  have nd : ((asg84 (v : Int) b (alc84 (b : Int) s)).filter fun f => stdB r (alc84 (b : Int) s, f) b).Nodup := ((pw_nodup (allL_pw _ _)).filter _).filter _
  revert alleq nd
  generalize (asg84 (v : Int) b (alc84 (b : Int) s)).filter (fun f => stdB r (alc84 (b : Int) s, f) b) = L
  intro alleq nd
  match L, alleq, nd with
  | [], _, _ => simp
  | [_], _, _ => simp
  | x :: y :: L, al, nd =>
    have := al x (by simp) y (by simp)
    subst this
    exact absurd (List.mem_cons_self ..) (List.nodup_cons.mp nd).1
theorem Aw84.size (h : Aw84 F A v) (hb : b ≤ 3) : ∀ n, n ≤ A.length → (fndS (v : Int) b (A.take n)).length ≤ 3 ^ ((A.take n).filter sngB).length
  | 0, _ => by simp [fndS]
  | n + 1, hn => by
    have ih := Aw84.size h hb n (by omega)
    have hs : A[n]? = some A[n] := List.getElem?_eq_getElem (by omega)
    obtain ⟨s, es⟩ : ∃ s, s = A[n] := ⟨_, rfl⟩
    rw [← es] at hs
    have tk : A.take (n + 1) = A.take n ++ [s] := by rw [List.take_add_one, hs]; rfl
    rw [tk, fndS_snoc, List.filter_append, List.length_append]
    have hm := h.shr (List.mem_of_getElem? hs)
    by_cases q : sngB s = true
    · have e : ([s].filter sngB).length = 1 := by simp [q]
      rw [e, Nat.pow_succ]
      refine Nat.le_trans (step_le (k := 3) fun r hr => Nat.le_trans (List.length_filter_le _ _) ?_) (Nat.mul_le_mul_right _ ih)
      have v2 := h.v2
      have v4 := h.v4
      have := sng_mem s hm.2 q
      rw [hm.1] at this
      refine few_asg v ?_ b ?_ s this
      · simp; omega
      · simp; omega
    · have e : ([s].filter sngB).length = 0 := by simp [q]
      rw [e]
      refine Nat.le_trans (step_le (k := 1) fun r hr => h.one hs (by simpa using q) hr) ?_
      rw [Nat.mul_one]; exact ih
theorem Aw84.nd (h : Aw84 F A v) : A.Nodup := h.asc.imp fun {a b} lt e => by rw [e] at lt; omega
/-- with fewer buckets than a clique has entries there is no steady rule -/
theorem Aw84.none (h : Aw84 F A v) {hs : List Int} (hl : hs.length = v - 1) (nn : ∀ x ∈ hs, 0 ≤ x) (hle : ∀ u, u < v - 1 → ∃ r0 ∈ F, hs.getD u 0 ≤ r0.getD u 0) (pw : (entL hs).Pairwise fun a b => togB F a b = true) (hsum : (b : Int) < hs.sum) : fndS (v : Int) b A = [] := by
  apply List.eq_nil_iff_forall_not_mem.mpr
  intro r hr
  obtain ⟨rl, rp, rq⟩ := fnd_mem (by omega) A hr
  have v2 := h.v2
  -- the pair of allowed shares
  have pair : ∀ s, s ∈ A → ∃ p ∈ r, p.1 = alc84 (b : Int) s ∧ p.2.length = b ∧ countsI p.2 (v : Int) = p.1 := fun s hs => by
    obtain ⟨i, hi, rfl⟩ := List.getElem_of_mem hs
    have ir : i < r.length := by omega
    obtain ⟨p1, p2⟩ := rp i r[i] (List.getElem?_eq_getElem ir)
    have := (mem_asg (v := (v : Int)) (by omega)).mp p2
    refine ⟨r[i], List.getElem_mem ir, ?_, this.1.1, this.2⟩
    rw [p1, List.getD_eq_getElem?_getD, List.getElem?_eq_getElem hi]; rfl
  have setl : ∀ (l : List Int) (i : Nat) (x : Int), (l.set i x).length = l.length := fun l i x => List.length_set
  have zl : (zr (v - 1)).length = v - 1 := by simp [zr]
  have z0 : ∀ j, (zr (v - 1)).getD j 0 = 0 := fun j => by
    simp only [zr, List.getD_eq_getElem?_getD, List.getElem?_replicate]; split <;> rfl
  have h0 : ∀ x, 0 ≤ hs.getD x 0 := fun x => by
    by_cases q : x < hs.length
    · exact nn _ (gd_mem q)
    · rw [List.getD_eq_getElem?_getD, List.getElem?_eq_none (by omega)]; exact Int.le_refl _
  -- two tops of the clique are used by one of the family's shares
  have top : ∀ u w, u < w → w < v - 1 → 0 < hs.getD u 0 → 0 < hs.getD w 0 → ∃ r0 ∈ F, hs.getD u 0 ≤ r0.getD u 0 ∧ hs.getD w 0 ≤ r0.getD w 0 := fun u w lt hw pu pw' => by
    have mu : enE u (hs.getD u 0 - 1).toNat ∈ entL hs := mem_ent.mpr ⟨u, (hs.getD u 0 - 1).toNat, rfl, by omega, by omega⟩
    have mw : enE w (hs.getD w 0 - 1).toNat ∈ entL hs := mem_ent.mpr ⟨w, (hs.getD w 0 - 1).toNat, rfl, by omega, by omega⟩
    have t : togB F (enE u (hs.getD u 0 - 1).toNat) (enE w (hs.getD w 0 - 1).toNat) = true := by
      obtain ⟨i, hi, ei⟩ := List.getElem_of_mem mu
      obtain ⟨j, hj, ej⟩ := List.getElem_of_mem mw
      have pw2 := List.pairwise_iff_getElem.mp pw
      rcases Nat.lt_trichotomy i j with q | q | q
      · have := pw2 i j hi hj q; rwa [ei, ej] at this
      · subst q; rw [ei] at ej; have := (en_inj.mp ej).1; omega
      · have := pw2 j i hj hi q; rw [ei, ej, tog_comm] at this; exact this
    obtain ⟨_, r0, hr0, a, b⟩ := tog_iff.mp t
    exact ⟨r0, hr0, by omega, by omega⟩
  have two84 : ∀ u w, u < v - 1 → w < v - 1 → ∀ r0 ∈ F, hs.getD u 0 ≤ r0.getD u 0 → hs.getD w 0 ≤ r0.getD w 0 → ((zr (v - 1)).set u (hs.getD u 0)).set w (hs.getD w 0) ∈ A := fun u w hu hw r0 hr0 e1 e2 => by
    have rl0 := h.fam.shr r0 hr0
    have rlen := rl0.len
    refine (h.mem _).mpr ⟨r0, hr0, by rw [setl, setl, zl]; omega, fun i hi => ?_⟩
    rw [setl, setl, zl] at hi
    have ri := rl0.nn _ (gd_mem (l := r0) (j := i) (by omega))
    rw [getD_setI (by rw [setl, zl]; exact hw)]
    by_cases q : w = i
    · rw [if_pos q, ← q]; exact ⟨h0 _, e2⟩
    · rw [if_neg q, getD_setI (by rw [zl]; exact hu)]
      by_cases q2 : u = i
      · rw [if_pos q2, ← q2]; exact ⟨h0 _, e1⟩
      · rw [if_neg q2, z0]; exact ⟨Int.le_refl _, ri⟩
  -- any two variants of the clique have a pair of the rule in which both have their shares
  have both : ∀ u w, u < w → w < v - 1 → 0 < hs.getD u 0 → 0 < hs.getD w 0 → ∃ p ∈ r, p.1.getD (u + 1) 0 = hs.getD u 0 ∧ p.1.getD (w + 1) 0 = hs.getD w 0 := fun u w lt hw pu pw' => by
    obtain ⟨r0, hr0, e1, e2⟩ := top u w lt hw pu pw'
    obtain ⟨p, hp, p1, _⟩ := pair _ (two84 u w (by omega) hw r0 hr0 e1 e2)
    refine ⟨p, hp, ?_, ?_⟩
    · rw [p1, alc_at, getD_setI (by rw [setl, zl]; exact hw), if_neg (by omega), getD_setI (by rw [zl]; omega), if_pos rfl]
    · rw [p1, alc_at, getD_setI (by rw [setl, zl]; exact hw), if_pos rfl]
  have ex : ∀ u, ∃ p : Pr, u < v - 1 → p ∈ r ∧ p.1.getD (u + 1) 0 = hs.getD u 0 ∧ p.2.length = b ∧ countsI p.2 (v : Int) = p.1 := fun u => by
    by_cases q : u < v - 1
    · obtain ⟨r0, hr0, e⟩ := hle u q
      obtain ⟨p, hp, p1, p2, p3⟩ := pair _ (two84 u u q q r0 hr0 e e)
      exact ⟨p, fun _ => ⟨hp, by rw [p1, alc_at, getD_setI (by rw [setl, zl]; exact q), if_pos rfl], p2, p3⟩⟩
    · exact ⟨([], []), fun w => absurd w q⟩
  obtain ⟨pu, hpu⟩ := Classical.axiomOfChoice ex
  let g : Nat → List Nat := fun u => (List.range b).filter fun y => decide ((pu u).2.getD y 0 = (u : Int) + 1)
  have gl : ∀ u, u < v - 1 → ((g u).length : Int) = hs.getD u 0 := fun u hu => by
    obtain ⟨_, e1, e2, e3⟩ := hpu u hu
    have cp := count_places (pu u).2 ((u : Int) + 1)
    rw [e2] at cp
    show (((List.range b).filter fun y => decide ((pu u).2.getD y 0 = (u : Int) + 1)).length : Int) = _
    rw [← cp, ← e1, ← e3]
    simp [countsI, upI, List.getD_eq_getElem?_getD, show u + 1 < v by omega]
  have fl : ∀ n, (((List.range n).flatMap g).length : Int) = sR n fun u => ((g u).length : Int) := fun n => by
    induction n with
    | zero => rfl
    | succ n ih => rw [List.range_succ, List.flatMap_append, List.length_append, Int.natCast_add, ih, sR_succ]; simp
  have nd : ((List.range (v - 1)).flatMap g).Nodup := by
    unfold List.Nodup
    rw [List.pairwise_flatMap]
    refine ⟨fun u _ => List.nodup_range.filter _, ?_⟩
    refine List.Pairwise.imp_of_mem (R := fun a b => a < b) (fun {u w} hu hw lt y hy z hz e => ?_) List.pairwise_lt_range
    subst e
    have hu := List.mem_range.mp hu
    have hw := List.mem_range.mp hw
    obtain ⟨y1, y2⟩ := List.mem_filter.mp hy
    obtain ⟨_, y3⟩ := List.mem_filter.mp hz
    have yb := List.mem_range.mp y1
    have y2 := of_decide_eq_true y2
    have y3 := of_decide_eq_true y3
    obtain ⟨u1, u2, u3, u4⟩ := hpu u hu
    obtain ⟨w1, w2, w3, w4⟩ := hpu w hw
    have pos : ∀ x, x < v - 1 → (pu x).2.getD y 0 = (x : Int) + 1 → 0 < hs.getD x 0 := fun x hx ey => by
      rw [← gl x hx]
      have : y ∈ g x := List.mem_filter.mpr ⟨y1, decide_eq_true ey⟩
      have := List.length_pos_of_mem this
      omega
    obtain ⟨p, hp, e1, e2⟩ := both u w lt hw (pos u hu y2) (pos w hw y3)
    have un : ∀ x : Nat, ((x : Int) + 1).toNat = x + 1 := fun x => by omega
    have s1 := left_iff.mp (rq _ u1 _ hp y yb) (by rw [y2]; omega) (by rw [y2, un, u2, e1]; exact Int.le_refl _)
    have s2 := left_iff.mp (rq _ w1 _ hp y yb) (by rw [y3]; omega) (by rw [y3, un, w2, e2]; exact Int.le_refl _)
    rw [y2] at s1
    rw [y3] at s2
    omega
  have le := nodup_sub nd (m := List.range b) fun y hy => by
    obtain ⟨u, _, hu⟩ := List.mem_flatMap.mp hy
    exact (List.mem_filter.mp hu).1
  rw [List.length_range] at le
  have f1 := fl (v - 1)
  have f2 := sR_congr (n := v - 1) (f := fun u => ((g u).length : Int)) (g := fun k => hs.getD k 0) gl
  have f3 := sR_list hs
  rw [hl] at f3
  omega
end
end Lm


/-! bool of a list; promises of k84 -/
namespace L2
open PySem PySem.Spec PyProof.Rows Lm
end L2
namespace Lm
open PySem PySem.Spec PyProof.Rows L2
end Lm
namespace Lm
open PySem PySem.Spec PyProof.Rows L2
end Lm


/-! for loops over what another def returns; new lists of drawn things that stay (k09) -/
namespace Lm
open PySem PySem.Spec PyProof.Rows L2
section
variable {c : Ct} {H H' H0 H1 H2 : Hp} {O : List Addr} {σ : L2.St} {Γ : List (Option Rs)} {te ta tb tl : TE} {tr : TA} {k : Kd} {u : TS} {n : Nat} {P : Out → Prop} {Pd : List PyData → Prop} {ds es : List PyData} {d : PyData}
/-- a new list of things that stay, frozen -/
theorem EvWN.v (h : EvWN c te Γ Pd) : EvN c te Γ .v (fun d => ∃ ds, d = .list ds ∧ Pd ds) := fun H0 O H σ e Q q =>
  h H0 O H σ e _ fun p xs ds H2 pd hp r h2 rm b => q _ _ H2 ⟨ds, rfl, pd⟩ r (by
    show Bo c (mns H2 O) (.ref p) (.list ds)
    have np : p ∉ O := new_notO e hp
    refine .lst (fun st l qq z => ?_) (.inl (.inl ?_)) (b.same (mns_sub fun z hz => by simp [hz]))
    · obtain ⟨ns, x, k, g1, _⟩ := e.jH st l qq
      rw [← z, hp] at g1
      cases g1
    · rw [mns_out np]; exact h2)
theorem EvW.wn (h : EvW c te Γ ds) : EvWN c te Γ (fun x => x = ds) := fun H0 O H σ e Q q => h H0 O H σ e _ fun p xs H2 hp r h2 rm b => q p xs ds H2 rfl hp r h2 rm b
theorem EvW.v (h : EvW c te Γ ds) : Ev c te Γ .v (.list ds) := EvN.det (h.wn.v.imp fun d ⟨x, e, w⟩ => by rw [e, w])
end
section
variable {K : PySem.W.Frag} {C : Addr}
theorem kit_ref {L : Addr} {cd : PySem.ClassData} (h1 : PySem.W.clsIn K L = some cd) (h2 : PySem.W.typeIn K (.ref L) = some (.type "type")) (h3 : PySem.W.subIn K (.ref C) (.ref L) = some true) : PySem.W.kitOne K (.ref C) (.ref L) = some true := by
  unfold PySem.W.kitOne
  split
  · rfl
  · unfold PySem.W.kitCls
    show (if ((PySem.W.clsIn K L).isSome && PySem.W.typeIn K (.ref L) == some (.type "type")) = true then _ else _) = _
    rw [h1, h2, if_pos (by simp)]
    exact h3
end
end Lm


/-! texts: length, sign, part, sum, product, a sign in a text (k91 to k95) -/
namespace Lm
open PySem PySem.Spec PyProof.Rows L2
def rLenU (K : PySem.W.Frag) : List V → Hp → VK → Prop := fun xs H Q => rLen K xs H Q ∨ ∃ z, xs = [.str z] ∧ z.length ≤ sizeLine ∧ Q (.int z.length) H
def rAddU (K : PySem.W.Frag) : R2 := fun x y H Q => rAddA K x y H Q ∨ ∃ i j, x = .str i ∧ y = .str j ∧ i.length + j.length ≤ sizeLine ∧ Q (.str (i ++ j)) H
def rSlT (K : PySem.W.Frag) : V → Option Int → Option Int → Hp → VK → Prop := fun x lo hi H Q => rSlU K x lo hi H Q ∨ rSlS x lo hi H Q
def rMulT : R2 := fun x y H Q => rMulA x y H Q ∨ ∃ a n, x = .str a ∧ y = .int n ∧ -1000000 ≤ n ∧ n ≤ 1000 ∧ a.length ≤ 1000 ∧ Q (.str (Txt.mul a n)) H
section
variable {X : Cx} {K : PySem.W.Frag} (hK : X.K = K)
include hK
theorem k_lenU : CallR X (.builtin "len") (rLenU K) := hK ▸ (fun pins s σ H xs us Q I r h => h.elim (fun h => cr_len pins s σ H xs us Q I r h) fun h => call_len_str pins s σ H xs us Q I r h)
theorem k_addU : OpR X (binaryOp .Add) (rAddU K) := hK ▸ (fun pins s σ H x y v u Q I rx ry h => h.elim (fun h => op_addA pins s σ H x y v u Q I rx ry h) fun h => op_add_str pins s σ H x y v u Q I rx ry h)
theorem k_slS : SlR X (rSlT K) := by
  subst hK
  intro pins s σ H x v vl vu lo hi sl Q I rx hs pl pu w
  rcases w with h | h
  · exact k_slU (K := X.K) rfl pins s σ H x v vl vu lo hi sl Q I rx hs pl pu h
  · exact sl_str pins s σ H x v vl vu lo hi sl Q I rx hs pl pu h
end
theorem op_mulT {X : Cx} : OpR X (binaryOp .Mult) rMulT := fun pins s σ H x y v u Q I rx ry h => by
  rcases h with h | ⟨a, n, rfl, rfl, h1, h2, h3, q⟩
  · exact op_mulA pins s σ H x y v u Q I rx ry h
  · obtain ⟨t, rfl⟩ := rx
    obtain ⟨t', rfl⟩ := ry
    refine SB.mul ⟨?_, fun h4 _ => ?_, fun h4 _ => ?_⟩ fun t' k => ⟨.str (Txt.mul a n), H, I.tok _, ⟨_, rfl⟩, q⟩
    · rw [Bool.or_eq_false_iff]; exact ⟨decide_eq_false (by omega), decide_eq_false (by omega)⟩
    · have : (a.length : Int) ≤ (2 ^ 63 - 1) / n := Int.le_ediv_of_mul_le (by omega) (by
        have : (a.length : Int) * n ≤ 1000 * 1000 := Int.mul_le_mul (by omega) h2 (by omega) (by omega)
        omega)
      omega
    · have : a.length * n.toNat ≤ 1000 * 1000 := Nat.mul_le_mul h3 (by omega)
      have := sizeLine_eq
      show decide (_ > sizeLine) = false
      refine decide_eq_false ?_
      omega
section
variable {c : Ct} {H : Hp} {O : List Addr} {σ : L2.St} {Γ : List (Option Rs)} {te ta tb : TE} {k ka kb : Kd} {z a b : Str} {i : Int} {ch : Nat}
theorem e_lenS (h : Ev c te Γ k (.str z)) (hl : z.length ≤ 100000) : Ev c (tCB (rLenU c.K) (tCons te tNil)) Γ .v (.int z.length) :=
  d_cb (a_cons h a_nil) fun H O vs Q s q => by
    obtain ⟨x, rfl, b⟩ := s.one
    exact .inr ⟨z, by rw [b.str'], by rw [sizeLine_eq]; omega, q _ H Rr.rf (.int _)⟩
theorem e_addS (ha : Ev c ta Γ ka (.str a)) (hb : Ev c tb Γ kb (.str b)) (hl : a.length + b.length ≤ 100000) : Ev c (tOp (rAddU c.K) ta tb) Γ .v (.str (a ++ b)) :=
  d_bin ha hb fun H O v u Q bv bu q => .inr ⟨a, b, bv.str', bu.str', by rw [sizeLine_eq]; omega, q _ H Rr.rf (.str _)⟩
theorem e_mulS (ha : Ev c ta Γ ka (.str a)) (hb : Ev c tb Γ kb (.int i)) (h1 : -1000000 ≤ i) (h2 : i ≤ 1000) (h3 : a.length ≤ 1000) : Ev c (tOp rMulT ta tb) Γ .v (.str (Txt.mul a i)) :=
  d_bin ha hb fun H O v u Q bv bu q => .inr ⟨a, i, bv.str', bu.int', h1, h2, h3, q _ H Rr.rf (.str _)⟩
/-- a sign of a text -/
theorem e_ixS (ha : Ev c ta Γ ka (.str z)) (hb : Ev c tb Γ kb (.int i)) (hl : z.length ≤ 100000) (he : atI z.cps.toList i = some ch) : Ev c (tOp (rIx c.K) ta tb) Γ .v (.str ⟨#[ch]⟩) :=
  d_bin ha hb fun H O v u Q bv bu q => .inr (.inr ⟨z, i, ch, bv.str', bu.int', by rw [sizeLine_eq]; omega, he, q _ H Rr.rf (.str _)⟩)
theorem e_inS (ha : Ev c ta Γ ka (.str ⟨#[ch]⟩)) (hb : Ev c tb Γ kb (.str z)) : Ev c (tOp rInS ta tb) Γ .v (.bool (decide (ch ∈ z.cps.toList))) :=
  d_bin ha hb fun H O v u Q bv bu q => ⟨ch, z, bv.str', bu.str', q _ H Rr.rf (.bl _)⟩
theorem e_notInS (ha : Ev c ta Γ ka (.str ⟨#[ch]⟩)) (hb : Ev c tb Γ kb (.str z)) : Ev c (tOp rNotInS ta tb) Γ .v (.bool (!decide (ch ∈ z.cps.toList))) :=
  d_bin ha hb fun H O v u Q bv bu q => ⟨ch, z, bv.str', bu.str', q _ H Rr.rf (.bl _)⟩
/-- a part of a text -/
theorem e_slS {tl th : TO} {lo hi : Option Int} (h : Ev c te Γ k (.str z)) (h1 : Eo c tl Γ lo) (h2 : Eo c th Γ hi) (hl : z.length ≤ 100000) : Ev c (tSl (rSlT c.K) te tl th) Γ .v (.str (cutS z lo hi)) := fun H0 O H σ e Q q =>
  h H0 O H σ e _ fun v H1 r1 s1 => h1 H0 O H1 σ (e.on r1) _ fun H2 r2 => h2 H0 O H2 σ ((e.on r1).on r2) _ fun H3 r3 => by
    have r : Rr c H H3 := (r1.tr r2).tr r3
    have b := (Res.bo e (Res.on e r1 (r2.tr r3) s1)).str'
    exact .inr ⟨z, b, by rw [sizeLine_eq]; omega, q _ H3 r (.str _)⟩
end
/-! the signs of a text -/
theorem cut_sign {z : Str} {lo hi : Nat} (h : hi ≤ z.length) (h2 : lo ≤ hi) : (cutS z (some (lo : Int)) (some (hi : Int))).cps.toList = (z.cps.toList.drop lo).take (hi - lo) := by
  unfold cutS
  rw [HT.sIx_nat, HT.sIx_nat, Nat.min_eq_left h, Nat.min_eq_left (by omega)]
theorem pe_constS {X : Cx} {x : Str} {z : Str} {pos : Pos} (hg : Gl X x) (hm : ∃ t, X.mg x = some (.str z t)) (hd : (x == ("__debug__" : Str)) = false := by decide) : PE X (.Name x pos) (tC (.str z)) := by
  obtain ⟨t, h⟩ := hm
  exact pe_glob hg h ⟨t, rfl⟩ hd
end Lm


/-! the tokens of texts (k91 to k95) -/
namespace Lm
open PySem PySem.Spec PyProof.Rows L2
/-- the signs of a text -/
abbrev sgL (z : Str) : List Nat := z.cps.toList
/-- the text of these signs -/
def strN (L : List Nat) : Str := ⟨L.toArray⟩
theorem sg_strN (L : List Nat) : sgL (strN L) = L := by simp [strN]
theorem strN_len (L : List Nat) : (strN L).length = L.length := by simp [strN, Str.length]
theorem sg_len (z : Str) : (sgL z).length = z.length := by simp [Str.length]
/-- the longest part at the front that has these signs only -/
def runS (L C : List Nat) : List Nat := L.takeWhile fun c => decide (c ∈ C)
theorem run_len (L C : List Nat) : (runS L C).length ≤ L.length := (List.takeWhile_sublist _).length_le
theorem run_at_in {L C : List Nat} {j : Nat} (h : j < (runS L C).length) : ∃ c, L[j]? = some c ∧ c ∈ C := by
  have e := List.takeWhile_append_dropWhile (p := fun c => decide (c ∈ C)) (l := L)
  have g : L[j]? = (runS L C)[j]? := by
    conv => lhs; rw [← e]
    exact List.getElem?_append_left h
  rw [g, List.getElem?_eq_getElem h]
  refine ⟨_, rfl, ?_⟩
  have m := List.getElem_mem h
  have := List.all_takeWhile (p := fun c => decide (c ∈ C)) (l := L)
  rw [List.all_eq_true] at this
  simpa using this _ m
theorem run_at_out {L C : List Nat} : (∀ c, L[(runS L C).length]? = some c → c ∉ C) := by
  intro c h0
  have e : runS L C ++ (L.dropWhile fun c => decide (c ∈ C)) = L := List.takeWhile_append_dropWhile
  have h : ((runS L C) ++ L.dropWhile fun c => decide (c ∈ C))[(runS L C).length]? = some c := by rw [e]; exact h0
  rw [List.getElem?_append_right (Nat.le_refl _), Nat.sub_self] at h
  have := List.head?_dropWhile_not (fun c => decide (c ∈ C)) L
  rw [List.head?_eq_getElem?, h] at this
  simpa using this
theorem run_take (L C : List Nat) : L.take (runS L C).length = runS L C := by
  have e : runS L C ++ (L.dropWhile fun c => decide (c ∈ C)) = L := List.takeWhile_append_dropWhile
  have h : (runS L C ++ (L.dropWhile fun c => decide (c ∈ C))).take (runS L C).length = runS L C := List.take_left
  rwa [e] at h
def sp_run_at (K : PySem.W.Frag) : Sp := spD K fun ds k d => ∃ (z C : Str) (a : Nat), ds = [.str z, .int (a : Int), .str C] ∧ a ≤ z.length ∧ z.length ≤ 1000 ∧ k = .v ∧ d = .str (strN (runS ((sgL z).drop a) (sgL C)))
/-- what check_text lets -/
def txtB : PyData → Bool
  | .str z => decide (z.length ≤ 400) && !decide (10 ∈ sgL z)
  | _ => false
def sp_check_text (K : PySem.W.Frag) : Sp := spD K fun ds k d => ∃ z : Str, ds = [.str z] ∧ txtB (.str z) = true ∧ k = .v ∧ d = .none
/-! the scanner -/
abbrev sLET : Str := Str.ofString "abcdefghijklmnopqrstuvwxyz"
abbrev sDIG : Str := Str.ofString "0123456789"
abbrev sNAM : Str := Str.ofString "abcdefghijklmnopqrstuvwxyz0123456789_"
abbrev sSIG : Str := Str.ofString ",.*/"
theorem let_nam {c : Nat} (h : c ∈ sgL sLET) : c ∈ sgL sNAM := by
  have : ∀ c ∈ sgL sLET, c ∈ sgL sNAM := by decide +kernel
  exact this c h
/-- what begins at a place -/
def tokA (L : List Nat) (a : Nat) : Except String (String × List Nat) :=
  if L.getD a 0 ∈ sgL sLET then (if 12 < (runS (L.drop a) (sgL sNAM)).length then .error "a name has at most 12 characters" else .ok ("name", runS (L.drop a) (sgL sNAM)))
  else if L.getD a 0 ∈ sgL sDIG then (if 6 < (runS (L.drop a) (sgL sDIG)).length then .error "a number has at most 6 digits" else .ok ("number", runS (L.drop a) (sgL sDIG)))
  else if L.getD a 0 ∈ sgL sSIG then .ok ("sign", [L.getD a 0])
  else .error "no token begins here"
theorem run_pos {L C : List Nat} {a : Nat} (h : a < L.length) (m : L.getD a 0 ∈ C) : 0 < (runS (L.drop a) C).length := by
  have e : L.drop a = L.getD a 0 :: L.drop (a + 1) := by
    rw [List.drop_eq_getElem_cons h, List.getD_eq_getElem?_getD, List.getElem?_eq_getElem h]; rfl
  rw [e]
  unfold runS
  rw [List.takeWhile_cons_of_pos (by simpa using m)]
  simp
theorem tok_len {L : List Nat} {a : Nat} {k : String} {r : List Nat} (h : tokA L a = .ok (k, r)) (ha : a < L.length) : 0 < r.length ∧ a + r.length ≤ L.length := by
  unfold tokA at h
  split at h
  · next m =>
    split at h
    · cases h
    · cases h
      have := run_len (L.drop a) (sgL sNAM)
      rw [List.length_drop] at this
      exact ⟨run_pos ha (let_nam m), by omega⟩
  · split at h
    · next m =>
      split at h
      · cases h
      · cases h
        have := run_len (L.drop a) (sgL sDIG)
        rw [List.length_drop] at this
        exact ⟨run_pos ha m, by omega⟩
    · split at h
      · cases h; exact ⟨by simp, by simp; omega⟩
      · cases h
abbrev Tok9 := String × List Nat × Nat
def tokD (t : Tok9) : PyData := .tuple [.str (Str.ofString t.1), .str (strN t.2.1), .int (t.2.2 : Int)]
/-- the tokens from a place on, with at most so many steps -/
def scn (L : List Nat) : Nat → Nat → Except (Nat × String) (List Tok9)
  | 0, _ => .ok []
  | n + 1, a => if a < L.length then
      (if L.getD a 0 = 32 then scn L n (a + 1)
       else match tokA L a with
        | .error w => .error (a + 1, w)
        | .ok (k, r) => match scn L n (a + r.length) with
          | .ok ts => .ok ((k, r, a + 1) :: ts)
          | .error e => .error e)
    else .ok []
def sp_name_at (K : PySem.W.Frag) : Sp := spD K fun ds k d => ∃ (z : Str) (a : Nat), ds = [.str z, .int (a : Int)] ∧ a ≤ z.length ∧ z.length ≤ 1000 ∧ (runS ((sgL z).drop a) (sgL sNAM)).length ≤ 12 ∧ k = .v ∧ d = tokD ("name", runS ((sgL z).drop a) (sgL sNAM), a + 1)
def sp_number_at (K : PySem.W.Frag) : Sp := spD K fun ds k d => ∃ (z : Str) (a : Nat), ds = [.str z, .int (a : Int)] ∧ a ≤ z.length ∧ z.length ≤ 1000 ∧ (runS ((sgL z).drop a) (sgL sDIG)).length ≤ 6 ∧ k = .v ∧ d = tokD ("number", runS ((sgL z).drop a) (sgL sDIG), a + 1)
def sp_token_at (K : PySem.W.Frag) : Sp := spD K fun ds k d => ∃ (z : Str) (a : Nat) (kd : String) (r : List Nat), ds = [.str z, .int (a : Int)] ∧ a < z.length ∧ z.length ≤ 1000 ∧ tokA (sgL z) a = .ok (kd, r) ∧ k = .v ∧ d = tokD (kd, r, a + 1)
def sp_scan (K : PySem.W.Frag) : Sp := spD K fun ds k d => ∃ (z : Str) (ts : List Tok9), ds = [.str z] ∧ txtB (.str z) = true ∧ scn (sgL z) z.length 0 = .ok ts ∧ k = .o ∧ d = .list (ts.map tokD ++ [tokD ("end", [], z.length + 1)])
theorem flatTok (t : Tok9) : flatD (tokD t) = true := rfl
theorem fl_toks : ∀ ts : List Tok9, flatAll (ts.map tokD) = true
  | [] => rfl
  | t :: ts => by show (flatD (tokD t) && flatAll (ts.map tokD)) = true; rw [flatTok, fl_toks ts]; rfl
end Lm


/-! an exception class that keeps a column and words (TextError) -/
namespace Lm
open PySem PySem.Spec PyProof.Rows L2
/-- its fields, the newest first -/
def txF (col : Int) (wd : Str) : List (Str × V) := [("words", .str wd), ("column", .int col)]
/-- its __init__ -/
def spIniT (C : Addr) : Sp := fun vs H Q _ => ∃ (a : Addr) (col : Int) (wd : Str), vs = [.ref a, .int col, .str wd] ∧ 0 ≤ col ∧ col ≤ 100000 ∧ wd.length ≤ 1000 ∧ H a = some (exo a C none) ∧
  ∀ dx, H dx = none → dx ≠ a → Q .non (upd (upd (upd H dx (exd dx [("column", .int col)])) a (exo a C (some dx))) dx (exd dx (txF col wd)))
structure ExcT (P : Program) (w : World) (K : PySem.W.Frag) (mg : Str → Option Value) (base : Heap) (C : Addr) : Prop where
  O : OexC K C
  X : XfC K C
  hC : mg "TextError" = some (.ref C)
  n1 : PySem.W.findIn K (.ref C) "column" = some none
  n2 : PySem.W.findIn K (.ref C) "words" = some none
  exm : PySem.W.exmOne K (.ref C) (.ref C) = some true
  ini : ∃ fI fdI, PySem.W.findIn K (.ref C) "__init__" = some (some (.ref fI)) ∧ PySem.W.typeIn K (.ref fI) = some (.type "function") ∧ FnOk P w K mg base (L2.CX P w) 1 fI fdI ["self", "column", "words"] (spIniT C) ∧ Binds K fdI ["self", "column", "words"] []
theorem len_int {i : Int} (h0 : 0 ≤ i) (h1 : i ≤ 100000) : i.natAbs.log2 < 1920 := by
  have : i.natAbs < 2 ^ 17 := by omega
  by_cases z : i.natAbs = 0
  · rw [z]; decide
  · have := (Nat.log2_lt z).mpr this
    omega
/-- the readings of such an __init__ -/
theorem run_iniT {K : PySem.W.Frag} {C a : Addr} {col : Int} {p1 p2 wd : Str} {σ : L2.St} {H : Hp} {D : Ends} (l1 : p1.length ≤ 1000) (l2 : p2.length ≤ 1000) (h0 : 0 ≤ col) (h1 : col ≤ 100000) (hz : wd.length ≤ 1000) (O : OexC K C) (n1 : PySem.W.findIn K (.ref C) "column" = some none) (n2 : PySem.W.findIn K (.ref C) "words" = some none)
    (s0 : σ[0]? = some (some (.ref a))) (s1 : σ[1]? = some (some (.int col))) (s2 : σ[2]? = some (some (.str wd))) (ha : H a = some (exo a C none))
    (hq : ∀ dx, H dx = none → dx ≠ a → D.nx σ (upd (upd (upd H dx (exd dx [("column", .int col)])) a (exo a C (some dx))) dx (exd dx (txF col wd)))) :
    tJs [tC (.str p1), tFmt (tVar 1), tC (.str p2), tFmt (tVar 2)] Str.empty σ H fun out H1 => H1 a = some (exo a C none) ∧ (tSeq (tOst K "column" (tVar 0) (tVar 1)) (tOst K "words" (tVar 0) (tVar 2))) D σ H1 := by
  have e0 : Str.empty.length = 0 := by decide
  have ld := int_text_len_1921 (len_int h0 h1)
  refine ⟨p1, rfl, ?_, .int col, s1, .inr ⟨col, rfl, len_int h0 h1, _, rfl, ?_, p2, rfl, ?_, .str wd, s2, .inl ⟨wd, rfl, ?_, wd, rfl, ?_, ha, .int col, s1, .ref a, s0, a, C, rfl, O, n1, .inl ⟨ha, fun dx hdx hne => ?_⟩⟩⟩⟩
  · rw [PySem.Str.length_append, sizeLine_eq]; omega
  · rw [PySem.Str.length_append, PySem.Str.length_append, sizeLine_eq]; omega
  · rw [PySem.Str.length_append, PySem.Str.length_append, PySem.Str.length_append, sizeLine_eq]; omega
  · rw [sizeLine_eq]; omega
  · rw [PySem.Str.length_append, PySem.Str.length_append, PySem.Str.length_append, PySem.Str.length_append, sizeLine_eq]; omega
  · refine ⟨.str wd, s2, .ref a, s0, a, C, rfl, O, n2, .inr ⟨dx, [("column", .int col)], upd_same, ?_, by simp, hq dx hdx hne⟩⟩
    rw [upd_ne hne, upd_same]
/-- TextError(col, wd) -/
theorem mkO_T {C : Addr} {ta tb : TE} {σ : L2.St} {H : Hp} {Q : XK} {col : Int} {wd : Str} (h0 : 0 ≤ col) (h1 : col ≤ 100000) (hz : wd.length ≤ 1000) (h : ∀ Q' : List V → Hp → Prop, Q' [.int col, .str wd] H → tCons ta (tCons tb tNil) σ H Q') (q : ∀ dx, H dx = none → Q (.ref C) (some dx) (upd H dx (.xd (txF col wd)))) :
    tMkO C (spIniT C) [] (tCons ta (tCons tb tNil)) σ H Q := by
  refine h _ ⟨by simp, fun a ha => ⟨a, col, wd, rfl, h0, h1, hz, upd_same, fun dx hdx hne => ⟨rfl, dx, txF col wd, ?_, upd_same, ?_, ?_⟩⟩⟩
  · rw [upd_ne hne.symm, upd_same]
  · rw [upd_ne hne] at hdx; exact hdx
  · rw [upd_ne hne] at hdx
    have e : upd (del (upd (upd (upd (upd H a (exo a C none)) dx (exd dx [("column", .int col)])) a (exo a C (some dx))) dx (exd dx (txF col wd))) a) dx (.xd (txF col wd)) = upd H dx (.xd (txF col wd)) := by
      funext b
      by_cases k1 : b = dx
      · rw [k1, upd_same, upd_same]
      · rw [upd_ne k1, upd_ne k1]
        by_cases k2 : b = a
        · rw [k2, del_same, ha]
        · rw [del_ne k2, upd_ne k1, upd_ne k2, upd_ne k1, upd_ne k2]
    rw [e]
    exact q dx hdx
/-! defs that raise it -/
def spRefT (K : PySem.W.Frag) (C : Addr) (R : List PyData → Nat × String → Prop) : Sp := fun vs H Q E => ∃ ds cw, BoAll (pc K) H vs ds ∧ R ds cw ∧ ∀ dx H1, Same H H1 → H1 dx = some (.xd (txF (cw.1 : Int) (Str.ofString cw.2))) → E (.ref C) (some dx) H1
abbrev spDT (K : PySem.W.Frag) (C : Addr) (sp : Sp) (R : List PyData → Nat × String → Prop) : Sp := fun vs H Q E => sp vs H Q E ∨ spRefT K C R vs H Q E
section
variable {K : PySem.W.Frag} {C : Addr} {H0 : Hp} {Γ : List (Option Rs)} {σ : L2.St} {te tf : TE} {ta : TA} {tt : TT} {t u : TS} {k kb : Kd} {d x : PyData} {n : Nat} {cw : Nat × String} {ds : List PyData} {R : List PyData → Nat × String → Prop} {sp : Sp} {E : XK} {W : L2.St → XK} {a : Bool}
theorem x_refT (ha : EvA (pc K) ta Γ false ds) (hr : R ds cw) (hE : ∀ dx H1, Same H0 H1 → H1 dx = some (.xd (txF (cw.1 : Int) (Str.ofString cw.2))) → E (.ref C) (some dx) H1) : EvRz (pc K) H0 (tCall (spDT K C sp R) [] E ta) Γ := fun O H σ Q e =>
  ha H0 O H σ e _ fun vs H1 r s => .inr ⟨ds, cw, by rw [List.append_nil]; exact s, hr, fun dx H2 sm z => hE dx H2 (same_of e r sm) z⟩
/-- where it answers, whatever stands beside -/
theorem x_goodO {pre : Pre} {sp' : Sp} (h : EvA (pc K) ta Γ false ds) (hp : pre ds k d) : Ev (pc K) (tCall (fun vs H Q E => spD K pre vs H Q E ∨ sp' vs H Q E) [] E ta) Γ k d := fun H0 O H σ e Q q =>
  h H0 O H σ e _ fun vs H1 r s => by
    refine .inl ⟨ds, k, d, by rw [List.append_nil]; exact s.pure, hp, fun v H2 sm rt => q v H2 (r.tr (Rr.same sm)) ?_⟩
    have r2 : Rr (pc K) H H2 := r.tr (Rr.same sm)
    cases k with
    | v => exact (Bo.flat (c := pc K) (c' := pc K) rfl rt.1 rt.2).flatM e r2 rt.1
    | o => exact rt.elim fun fp z => ⟨fp, z.1, z.2.1, fun a ha => r.back e.jH (z.2.2 a ha)⟩
    | b => exact rt.1.elim fun _ e => nomatch e
theorem x_raiseT {col : Int} {wd : Str} {ta tb : TE} (h0 : 0 ≤ col) (h1 : col ≤ 100000) (hz : wd.length ≤ 1000) (ha : EvA (pc K) (tCons ta (tCons tb tNil)) Γ true [.int col, .str wd]) (hE : ∀ dx H1, Same H0 H1 → H1 dx = some (.xd (txF col wd)) → E (.ref C) (some dx) H1) :
    SdX (pc K) H0 (fun _ σ H => tMkO C (spIniT C) [] (tCons ta (tCons tb tNil)) σ H fun cls d H' => E cls d H') Γ := fun O H σ D e => by
  refine ha H0 O H σ e _ fun vs H2 r s => ?_
  have sb := BoAll.same mns_same s
  obtain ⟨v1, v2, rfl, b1, b2⟩ : ∃ v1 v2, vs = [v1, v2] ∧ v1 = .int col ∧ v2 = .str wd := by
    cases sb with
    | cons b1 r =>
      cases r with
      | cons b2 r => cases r; exact ⟨_, _, rfl, b1.int', b2.str'⟩
  subst b1 b2
  have m := mkO_T (C := C) (σ := σ) (H := H2) (ta := tC (.int col)) (tb := tC (.str wd)) (Q := fun cls d H' => E cls d H') h0 h1 hz (fun Q' q => q) fun dx hdx => hE dx _ (fun a o z => by
    have z1 : H2 a = some o := (e.rH.tr r).1 a o (fun _ _ w => nomatch w) z
    rw [upd_ne (ne_of_none z1 hdx)]
    exact z1) upd_same
  exact m
theorem run_refT {N : List Str} {t : TS} {vs : List V} {H : Hp} {Q : VK}
    (hs : ∀ ds cw, R ds cw → (∀ dx H1, Same H H1 → H1 dx = some (.xd (txF (cw.1 : Int) (Str.ofString cw.2))) → E (.ref C) (some dx) H1) → SdX (pc K) H t (argsG ds N.length)) (h : spRefT K C R vs H Q E) : t { nx := fun _ H' => Q .non H', rt := Q } (start N vs) H := by
  obtain ⟨ds, cw, hb, hd, hE⟩ := h
  exact hs ds cw hd hE [] H (start N vs) _ (env_args Ji.pc hb)
/-- a loop that something breaks off -/
theorem x_while {tc : TT} {tb : TS} (I : Nat → List (Option Rs) → Prop) {n0 : Nat} (h0 : I n0 Γ)
    (hs : ∀ n Γ1, I n Γ1 → EvT (pc K) tc Γ1 true ∧ (SdX (pc K) H0 tb Γ1 ∨ Sd (pc K) tb Γ1 (fun o => ∃ Γ3 m, (o = .nx Γ3 ∨ o = .ct Γ3) ∧ m < n ∧ I m Γ3))) : SdX (pc K) H0 (tWhile tc tb) Γ := fun O H σ D e => by
  refine ⟨fun n σ' H' => ∃ O' Γ', I n Γ' ∧ Env (pc K) H0 O' H' σ' Γ', ⟨n0, O, Γ, h0, e⟩, ?_⟩
  rintro n σ' H' ⟨O', Γ', hI, e'⟩
  obtain ⟨ht, hb⟩ := hs n Γ' hI
  refine ht _ _ _ _ e' _ fun H2 r2 => ?_
  rw [if_pos rfl]
  refine ⟨fun τ J => ∃ m, m < n ∧ ∃ O4 Γ4, I m Γ4 ∧ Env (pc K) H0 O4 J τ Γ4, fun τ J h => h, ?_⟩
  rcases hb with hb | hb
  · exact hb _ _ _ _ (e'.on r2)
  · refine hb _ _ _ _ _ (e'.on r2) fun o po => ?_
    obtain ⟨Γ3, m, ho, hm, h3⟩ := po
    rcases ho with rfl | rfl
    · exact fun O4 H4 σ4 e4 => ⟨m, hm, O4, Γ3, h3, e4⟩
    · exact fun O4 H4 σ4 e4 => ⟨m, hm, O4, Γ3, h3, e4⟩
end
end Lm


/-! what the scanner raises; what it leaves in a try (k91 to k95) -/
namespace Lm
open PySem PySem.Spec PyProof.Rows L2
def RcTx (ds : List PyData) (nm : Str) : Prop := ∃ x, ds = [x] ∧ (∀ z : Str, x = .str z → z.length ≤ 100000) ∧ txtB x = false ∧ nm = "text"
theorem RcTx_len {ds nm} (h : RcTx ds nm) : ds.length = 1 := by obtain ⟨x, rfl, _⟩ := h; rfl
def RtNm (ds : List PyData) (cw : Nat × String) : Prop := ∃ (z : Str) (a : Nat), ds = [.str z, .int (a : Int)] ∧ a ≤ z.length ∧ z.length ≤ 1000 ∧ 12 < (runS ((sgL z).drop a) (sgL sNAM)).length ∧ cw = (a + 1, "a name has at most 12 characters")
theorem RtNm_len {ds cw} (h : RtNm ds cw) : ds.length = 2 := by obtain ⟨z, a, rfl, _⟩ := h; rfl
def RtNu (ds : List PyData) (cw : Nat × String) : Prop := ∃ (z : Str) (a : Nat), ds = [.str z, .int (a : Int)] ∧ a ≤ z.length ∧ z.length ≤ 1000 ∧ 6 < (runS ((sgL z).drop a) (sgL sDIG)).length ∧ cw = (a + 1, "a number has at most 6 digits")
theorem RtNu_len {ds cw} (h : RtNu ds cw) : ds.length = 2 := by obtain ⟨z, a, rfl, _⟩ := h; rfl
def RtTk (ds : List PyData) (cw : Nat × String) : Prop := ∃ (z : Str) (a : Nat) (w : String), ds = [.str z, .int (a : Int)] ∧ a < z.length ∧ z.length ≤ 1000 ∧ tokA (sgL z) a = .error w ∧ cw = (a + 1, w)
theorem RtTk_len {ds cw} (h : RtTk ds cw) : ds.length = 2 := by obtain ⟨z, a, w, rfl, _⟩ := h; rfl
def RtSc (ds : List PyData) (cw : Nat × String) : Prop := ∃ z : Str, ds = [.str z] ∧ txtB (.str z) = true ∧ scn (sgL z) z.length 0 = .error cw
theorem RtSc_len {ds cw} (h : RtSc ds cw) : ds.length = 1 := by obtain ⟨z, rfl, _⟩ := h; rfl
theorem msg_len {L : List Nat} {a : Nat} {w : String} (h : tokA L a = .error w) : (Str.ofString w).length ≤ 1000 := by
  unfold tokA at h
  split at h
  · split at h
    · cases h; decide +kernel
    · cases h
  · split at h
    · split at h
      · cases h; decide +kernel
      · cases h
    · split at h
      · cases h
      · cases h; decide +kernel
end Lm


/-! what is told of a text: its tokens, a place and words, a name (k91) -/
namespace Lm
open PySem PySem.Spec PyProof.Rows L2
theorem exm_no {K : PySem.W.Frag} {C D : Addr} {cd : ClassData} (xb : PySem.W.subIn K (.ref D) (.type "BaseException") = some true) (hc : PySem.W.clsIn K D = some cd) (xt : PySem.W.typeIn K (.ref D) = some (.type "type")) (hs : PySem.W.subIn K (.ref C) (.ref D) = some false) :
    PySem.W.exmOne K (.ref C) (.ref D) = some false := by
  unfold PySem.W.exmOne PySem.W.kitCls
  rw [if_pos (by rw [xb]; rfl)]
  show (if ((PySem.W.clsIn K D).isSome && PySem.W.typeIn K (.ref D) == some (.type "type")) = true then PySem.W.subIn K (.ref C) (.ref D) else none) = some false
  rw [hc, xt, hs]
  rfl
section
variable {P : Program} {w : World} {K : PySem.W.Frag} {mg : Str → Option Value} {base : Heap} {C CT L : Addr} {i : Nat} {Wo : WX} {D : Ends} {dx : Addr} {H1 : Hp} {σ : L2.St} {nm wd : Str} {col : Int} {r : List (Value × (Addr → Value → Option Addr → TS))}
end
end Lm


/-! drawn texts; promises of k91's law -/
namespace Lm
open PySem PySem.Spec PyProof.Rows L2
section
variable {c : Ct} {Γ : List (Option Rs)} {ta tb : TE} {ka kb : Kd} {i : Int}
theorem n_max2 {Q : Int → Prop} (ha : Ev c ta Γ ka (.int i)) (hb : EvN c tb Γ kb (SomeI Q)) : EvN c (tCB (fun xs H Q => ∃ i j, xs = [V.int i, V.int j] ∧ Q (.int (if j > i then j else i)) H) (tCons ta (tCons tb tNil))) Γ .v (SomeI fun m => ∃ j, Q j ∧ m = if j > i then j else i) := fun H0 O H σ e K q =>
  ha H0 O H σ e _ fun v H1 r1 s1 => hb H0 O H1 σ (e.on r1) _ fun u y H2 ⟨j, hj, qj⟩ r2 s2 => by
    subst hj
    exact ⟨i, j, by rw [(Res.bo e s1).int', (Res.bo (e.on r1) s2).int'], q _ (.int (if j > i then j else i)) H2 ⟨_, rfl, j, qj, rfl⟩ (r1.tr r2) (.int _)⟩
/-- a text and a drawn one -/
theorem n_addS {Qa Qb Q : Str → Prop} (ha : EvN c ta Γ ka (fun d => ∃ s, d = .str s ∧ Qa s)) (hb : EvN c tb Γ kb (fun d => ∃ s, d = .str s ∧ Qb s)) (h : ∀ s t, Qa s → Qb t → s.length + t.length ≤ 100000 ∧ Q (s ++ t)) : EvN c (tOp (rAddU c.K) ta tb) Γ .v (fun d => ∃ s, d = .str s ∧ Q s) :=
  n_bin ha hb fun x y ⟨s, hs, qs⟩ ⟨t, ht, qt⟩ => ⟨.str (s ++ t), ⟨_, rfl, (h s t qs qt).2⟩, fun H O v u Q bv bu q => by
    subst hs; subst ht
    have := (h s t qs qt).1
    exact .inr ⟨s, t, bv.str', bu.str', by rw [sizeLine_eq]; omega, q _ H Rr.rf (.str _)⟩⟩
theorem n_mulS {s : Str} {Qb : Int → Prop} {Q : Str → Prop} (ha : Ev c ta Γ ka (.str s)) (hb : EvN c tb Γ kb (SomeI Qb)) (h : ∀ n, Qb n → -1000000 ≤ n ∧ n ≤ 1000 ∧ s.length ≤ 1000 ∧ Q (Txt.mul s n)) : EvN c (tOp rMulT ta tb) Γ .v (fun d => ∃ s, d = .str s ∧ Q s) :=
  n_bin ha.n hb fun x y hx ⟨n, hn, qn⟩ => ⟨.str (Txt.mul s n), ⟨_, rfl, (h n qn).2.2.2⟩, fun H O v u Q bv bu q => by
    subst hn
    have hx : x = .str s := hx
    subst hx
    obtain ⟨h1, h2, h3, _⟩ := h n qn
    exact .inr ⟨s, n, bv.str', bu.int', h1, h2, h3, q _ H Rr.rf (.str _)⟩⟩
end
end Lm


/-! any item of a drawn list; the words of k91's law -/
namespace Lm
open PySem PySem.Spec PyProof.Rows L2
section
variable {c : Ct} {Γ : List (Option Rs)} {te ta : TE} {ka : Kd}
theorem n_pickN {Pd : List PyData → Prop} {m : Nat} {st l : Addr} {E : XK} (hc : c.so = some (st, l)) (h0 : Γ[m]? = some (some (.r (.ref st)))) (h : EvN c te Γ .v (fun d => ∃ ds, d = .list ds ∧ Pd ds)) (hl : ∀ ds, Pd ds → 0 < ds.length ∧ ds.length ≤ 1000) : EvN c (tCall (sp__law_pick c.K) [] E (tCons (tVar m) (tCons te tNil))) Γ .v (fun d => ∃ ds, Pd ds ∧ d ∈ ds) := fun H0 O H σ e Q q => by
  have hcc : c = sc c.K st l := by cases c; cases hc; rfl
  refine ⟨_, e.slotR h0, ?_⟩
  refine h H0 O H σ e _ fun v d H1 ⟨ds, ed, pd⟩ r1 s1 => ?_
  subst ed
  have bv : Bo c (mns H1 O) v (.list ds) := s1
  obtain ⟨p, xs, rfl, ok, sl, al⟩ := bv.lst'
  obtain ⟨l1, l2⟩ := hl ds pd
  refine ⟨st, l, p, xs, rfl, (e.on r1).jH st l hc, mns_same.seq sl, fun w => ok st l hc w, by rw [al.len]; exact l1, by rw [al.len]; exact l2, fun i v H' hi r => ?_⟩
  rw [← hcc] at r
  obtain ⟨d, hd, bd⟩ := al.get hi
  exact q v d H' ⟨ds, pd, List.mem_of_getElem? hd⟩ (r1.tr r) (bd.mono (e.on r1).j (r.mns (e.on r1).j e.okO))
end
theorem fold_rep (c : Nat) : ∀ (n : Nat) (acc : Array Nat), ((List.replicate n #[c]).foldl (· ++ ·) acc).toList = acc.toList ++ List.replicate n c
  | 0, acc => by simp
  | n + 1, acc => by
    rw [List.replicate_succ, List.foldl_cons, fold_rep c n, List.replicate_succ]
    simp
theorem mul_one (c n : Nat) : Txt.mul ⟨#[c]⟩ (n : Int) = strN (List.replicate n c) := by
  unfold Txt.mul
  by_cases h : n < 1
  · rw [if_pos (by omega)]
    obtain rfl : n = 0 := by omega
    rfl
  · rw [if_neg (by omega)]
    by_cases h1 : n = 1
    · subst h1; rfl
    · have e : ((n : Int) == 1 || (⟨#[c]⟩ : Str).length == 0) = false := by
        rw [Bool.or_eq_false_iff]
        exact ⟨by simpa using fun z => h1 (by omega), rfl⟩
      rw [if_neg (by rw [e]; simp), Int.toNat_natCast]
      have := fold_rep c n #[]
      show (⟨_⟩ : Str) = ⟨_⟩
      congr 1
      apply Array.ext'
      rw [this]
      simp
end Lm


/-! tuple(zip(a, b)) of two lists -/
namespace Lm
open PySem PySem.Spec PyProof.Rows L2
section
variable {prog : Program} {w : World} {A : Around} {E : Value → Shared → Prop} {s : Shared}
theorem collect_zip {Q : List Value → Shared → Prop} {z TI TO i1 i2 a b : Addr} {f0 : Value} {its its2 : Array Value} {St1 St2 : Nat → Heap → Prop} (Sep : ZipSep2 z TI TO i1 i2 [i1, a] [i2, b]) (D1 : ∀ A' : Around, A'.handled = none → Draws prog w A' i1 [i1, a] its.size (fun i v => its[i]? = some v) St1) (D2 : ∀ A' : Around, A'.handled = none → Draws prog w A' i2 [i2, b] its2.size (fun i v => its2[i]? = some v) St2)
    (hlow : ∀ c ∈ [z, TI, TO, i1, i2, a, b], c < s.heap.objs.size) (hl : its2.size = its.size ∨ its2.size + 1 = its.size) (hn : its.size ≤ sizeLine) (hh : A.handled = none) (hz : IsZip s.heap z TI TO f0) (hst : ZAt St1 St2 s.heap z TI TO i1 i2 0)
    (hQ : ∀ h' tk acc' c' ts', (∀ c o, c ∉ [z, TO, i1, i2, s.heap.objs.size] → (s.heap.push { cls := .type "list", data := .seq ([] : List Value).toArray }).get? c = some o → h'.get? c = some o) → h'.get? s.heap.objs.size = some { cls := .type "list", dict := none, data := .seq acc' c', slots := #[] } → acc'.toList = ts'.map Value.ref → ts'.length = its2.size → ZOut h' (s.heap.objs.size + 1) its its2 ts' → Q acc'.toList { s with heap := h', toks := tk }) :
    wpAny (model prog w) A (collect (.ref z)) Q E s := by
  unfold collect
  refine wpAny_bind (wpAny_runValue (codeAny_builtin F.entry_proto_collect ?_))
  rw [Around.under_plainId F.plain_proto_collect _]
  show wpAny _ A.in1 (newList [] >>= fun l => again (.builtin "list.__iadd__" ⟨[l, .ref z], []⟩)) _ _ s
  refine wpAny_bind (wpAny_newObj_type ?_)
  refine wpAny_pure ⟨plainId_quiet F.plain_list_iadd _, codeAny_builtin F.entry_list_iadd ?_⟩
  rw [Around.under_plainId F.plain_list_iadd _]
  show wpAny _ A.in1 (Builtin.List.listExtendWith (.ref s.heap.objs.size) (.ref z) (.ref s.heap.objs.size)) _ _ _
  have hS : (s.heap.push { cls := .type "list", data := .seq ([] : List Value).toArray }).get? s.heap.objs.size = some { cls := .type "list", data := .seq #[] 0 } := Heap.get?_push_size _ rfl
  refine wpAny_mono (zip_extend (A := A) (R := fun rr s' => rr = .ok (.ret (.ref s.heap.objs.size)) ∧ ∃ (h' : Heap) (tk : Nat), s' = { s with heap := h', toks := tk } ∧
      ZDone (s.heap.push { cls := .type "list", data := .seq ([] : List Value).toArray }) h' z TO i1 i2 s.heap.objs.size (s.heap.objs.size + 1) its its2)
    (s := { s with heap := s.heap.push { cls := .type "list", data := .seq ([] : List Value).toArray } }) (n0 := s.heap.objs.size + 1) Sep D1 D2 (fun hm => Nat.lt_irrefl _ (hlow _ hm)) (fun c hc => ?_) hl hn hh (.ref s.heap.objs.size) 0 (Heap.get?_push_of_some _ hz) (hst.at (a := a) (b := b) (fun k s => (D1 A hh).frame _ _ _ s k) (fun k s => (D2 A hh).frame _ _ _ s k) fun c _ o e => Heap.get?_push_of_some _ e) hS
    (by show _ ≤ (s.heap.push _).objs.size; rw [Heap.size_push]; exact Nat.le_refl _) (fun h' tk f => ⟨rfl, h', tk, rfl, f⟩)) (fun fin s' h => ?_) (fun e s' h => ?_)
  · have hc' : c ∈ [z, TI, TO, i1, i2, a, b] ∨ c = s.heap.objs.size := by simpa [or_assoc] using hc
    rcases hc' with q | q
    · exact Nat.lt_succ_of_lt (hlow c q)
    · rw [q]; exact Nat.lt_succ_self _
  · cases fin with
    | done f =>
      obtain ⟨e, h', tk, rfl, f1, acc', c', ts', f2, f3, f4, f5⟩ := h
      cases e
      show wpAny _ A (load s.heap.objs.size >>= _) _ _ _
      exact wpAny_bind (wpAny_load f2 (wpAny_pure (hQ h' tk acc' c' ts' f1 f2 f3 f4 f5)))
    | again c' =>
      refine ⟨h.1, codeAny_mono h.2 fun rr s'' hr' => ?_⟩
      obtain ⟨rfl, h', tk, rfl, f1, acc', c', ts', f2, f3, f4, f5⟩ := hr'
      show wpAny _ A (load s.heap.objs.size >>= _) _ _ _
      exact wpAny_bind (wpAny_load f2 (wpAny_pure (hQ h' tk acc' c' ts' f1 f2 f3 f4 f5)))
  · exact absurd h.1 (by simp)
theorem code_tuple_new_zip {Q₁ : Value → Shared → Prop} {z TI TO i1 i2 a b : Addr} {f0 : Value} {its its2 : Array Value} {St1 St2 : Nat → Heap → Prop} (Sep : ZipSep2 z TI TO i1 i2 [i1, a] [i2, b]) (D1 : ∀ A' : Around, A'.handled = none → Draws prog w A' i1 [i1, a] its.size (fun i v => its[i]? = some v) St1) (D2 : ∀ A' : Around, A'.handled = none → Draws prog w A' i2 [i2, b] its2.size (fun i v => its2[i]? = some v) St2)
    (hlow : ∀ c ∈ [z, TI, TO, i1, i2, a, b], c < s.heap.objs.size) (hl : its2.size = its.size ∨ its2.size + 1 = its.size) (hn : its.size ≤ sizeLine) (hh : A.handled = none) (hz : IsZip s.heap z TI TO f0) (hst : ZAt St1 St2 s.heap z TI TO i1 i2 0)
    (hQ : ∀ h' tk acc' c' ts', (∀ c o, c ∉ [z, TO, i1, i2, s.heap.objs.size] → (s.heap.push { cls := .type "list", data := .seq ([] : List Value).toArray }).get? c = some o → h'.get? c = some o) → h'.get? s.heap.objs.size = some { cls := .type "list", dict := none, data := .seq acc' c', slots := #[] } → acc'.toList = ts'.map Value.ref → ts'.length = its2.size → ZOut h' (s.heap.objs.size + 1) its its2 ts' → Q₁ (.ref h'.objs.size) { s with heap := h'.push { cls := .type "tuple", data := .seq acc' }, toks := tk }) :
    codeAny (model prog w) A (.call (.builtin "tuple.__new__") ⟨[.type "tuple", .ref z], []⟩) (wants Q₁ E) s := by
  refine codeAny_of_tree ?_
  show wpAny _ A.in1 (do checkBuiltinCall "tuple.__new__" ⟨[.type "tuple", .ref z], []⟩; again (.builtin "tuple.__new__" ⟨[.type "tuple", .ref z], []⟩)) _ _ s
  refine wpAny_bind (wpAny_of_eq (F.newCall_tuple_1 _) (wpAny_pure ⟨plainId_quiet F.plain_tuple_new _, codeAny_builtin F.entry_tuple_new ?_⟩))
  rw [Around.under_plainId F.plain_tuple_new _]
  have hsub := sub_tuple_self
  have hinit := init_tuple_lookup
  have hmh := madeHere_tuple
  have hTI : s.TypeIs (.ref z) "zip" := ⟨_, hz, rfl⟩
  have hh1 : A.in1.handled = none := hh
  wp_walk using wpAny_typeOf hTI, collect_zip (A := A.in1) Sep D1 D2 hlow hl hn hh1 hz hst
  intro h' tk acc cc ts f1 f2 f3 f4 f5
  show wpAny _ _ (Builtin.Tuple.tupleExact acc.toList.toArray >>= fun v => ret v) _ _ _
  unfold Builtin.Tuple.tupleExact
  have lz : acc.size ≤ sizeLine := by
    have := congrArg List.length f3
    simp at this
    omega
  refine wpAny_bind (wpAny_newObj_type ?_ (by show acc.toList.toArray.size ≤ sizeLine; simpa using lz))
  refine wpAny_pure ?_
  have e : acc.toList.toArray = acc := by simp
  rw [e]
  exact hQ h' tk acc cc ts f1 f2 f3 f4 f5
theorem call_tuple_zip {Q : Value → Shared → Prop} {z TI TO i1 i2 a b : Addr} {f0 : Value} {its its2 : Array Value} {St1 St2 : Nat → Heap → Prop} (Sep : ZipSep2 z TI TO i1 i2 [i1, a] [i2, b]) (D1 : ∀ A' : Around, A'.handled = none → Draws prog w A' i1 [i1, a] its.size (fun i v => its[i]? = some v) St1) (D2 : ∀ A' : Around, A'.handled = none → Draws prog w A' i2 [i2, b] its2.size (fun i v => its2[i]? = some v) St2)
    (hlow : ∀ c ∈ [z, TI, TO, i1, i2, a, b], c < s.heap.objs.size) (hl : its2.size = its.size ∨ its2.size + 1 = its.size) (hn : its.size ≤ sizeLine) (hh : A.handled = none) (hz : IsZip s.heap z TI TO f0) (hst : ZAt St1 St2 s.heap z TI TO i1 i2 0)
    (hQ : ∀ h' tk acc' c' ts', (∀ c o, c ∉ [z, TO, i1, i2, s.heap.objs.size] → (s.heap.push { cls := .type "list", data := .seq ([] : List Value).toArray }).get? c = some o → h'.get? c = some o) → h'.get? s.heap.objs.size = some { cls := .type "list", dict := none, data := .seq acc' c', slots := #[] } → acc'.toList = ts'.map Value.ref → ts'.length = its2.size → ZOut h' (s.heap.objs.size + 1) its its2 ts' → Q (.ref h'.objs.size) { s with heap := h'.push { cls := .type "tuple", data := .seq acc' }, toks := tk }) :
    wpAny (model prog w) A (call (.type "tuple") [.ref z]) Q E s := by
  refine callType_codes (Q₁ := fun obj s₁ => s₁.TypeIs obj "tuple" ∧ Q obj s₁) F.called_tuple (F.typeCall_tuple_1 _) F.entry_object_init
    (code_tuple_new_zip (A := A.in1) Sep D1 D2 hlow hl hn hh hz hst fun h' tk acc c' ts f1 f2 f3 f4 f5 => ⟨⟨_, Heap.get?_push_size _ rfl, rfl⟩, hQ h' tk acc c' ts f1 f2 f3 f4 f5⟩) fun obj s₁ h₁ => ?_
  exact ⟨h₁.1, F.args_object_init_2 obj _, object_init_meets F.called_tuple.init.lookup F.called_tuple.made (by decide) prog w A.in1 _ s₁ ⟨h₁.1, rfl, h₁.2⟩⟩
end
def tTupZip (K : PySem.W.Frag) (ta : TA) : TE := fun σ H Q => ta σ H fun vs H1 => ∃ a b xs ys, vs = [.ref a, .ref b] ∧ (SqL K H1 a xs ∧ SqL K H1 b ys) ∧ (ys.length = xs.length ∨ ys.length + 1 = xs.length) ∧ xs.length ≤ sizeLine ∧
  ∀ (ts : List Addr) (H' : Hp) (p : Addr), ts.length = ys.length → (∀ (j : Nat) (t : Addr) (x y : V), ts[j]? = some t → xs[j]? = some x → ys[j]? = some y → ∃ o : Obj, o.dict = none ∧ H' t = some (.frz o (.tup [x, y]))) → (∀ b u, H1 b = some u → H' b = some u) → H' p = none → H1 p = none → NewT (upd H' p (.lst (ts.map V.ref))) (ts.map V.ref) Q
theorem tupZip_tail {X : Cx} {pins : List (Addr × Obj)} {σ : L2.St} {H1 : Hp} {s1 : Shared} {Q : VK} {a b : Addr} {xs ys : List V} {its its2 : List Value} {h' : Heap} {St1 St2 : Nat → Heap → Prop} (I1 : Inv X pins σ H1 s1) (rv : Vals xs its) (rv2 : Vals ys its2) (hlen : ys.length = xs.length ∨ ys.length + 1 = xs.length) (hsz : xs.length ≤ sizeLine) (la : a < s1.heap.objs.size) (lb : b < s1.heap.objs.size) (hhd : X.A.handled = none)
    (D1 : ∀ A' : Around, A'.handled = none → Draws X.prog X.w A' s1.heap.objs.size [s1.heap.objs.size, a] its.toArray.size (fun i v => its.toArray[i]? = some v) St1) (D2 : ∀ A' : Around, A'.handled = none → Draws X.prog X.w A' (s1.heap.objs.size + 1) [s1.heap.objs.size + 1, b] its2.toArray.size (fun i v => its2.toArray[i]? = some v) St2)
    (hz : IsZip h' (s1.heap.objs.size + 4) (s1.heap.objs.size + 2) (s1.heap.objs.size + 3) .none) (hTI : IsPair h' (s1.heap.objs.size + 2) (.ref s1.heap.objs.size) (.ref (s1.heap.objs.size + 1))) (hTO : IsPair h' (s1.heap.objs.size + 3) .none .none) (st1 : St1 0 h') (st2 : St2 0 h') (hsz5 : h'.objs.size = s1.heap.objs.size + 5) (hk : ∀ c o, s1.heap.get? c = some o → h'.get? c = some o)
    (q : ∀ (ts : List Addr) (H' : Hp) (p : Addr), ts.length = ys.length → (∀ (j : Nat) (t : Addr) (x y : V), ts[j]? = some t → xs[j]? = some x → ys[j]? = some y → ∃ o : Obj, o.dict = none ∧ H' t = some (.frz o (.tup [x, y]))) → (∀ b u, H1 b = some u → H' b = some u) → H' p = none → H1 p = none → NewT (upd H' p (.lst (ts.map V.ref))) (ts.map V.ref) Q) :
    wpAny (model X.prog X.w) X.A (call (.type "tuple") [.ref (s1.heap.objs.size + 4)]) (EP X pins σ Q) X.xe { s1 with heap := h' } := by
  have l1 := rv.length
  have l2 := rv2.length
  refine call_tuple_zip (s := { s1 with heap := h' }) (zip_sep2 (N := s1.heap.objs.size) (fp1 := [a]) (fp2 := [b]) (fun c hc => by cases List.mem_singleton.mp hc; exact la) (fun c hc => by cases List.mem_singleton.mp hc; exact lb)) D1 D2 (fun c hc => ?_) (its := its.toArray) (its2 := its2.toArray) (by simp; omega) (by simp; omega) hhd hz ⟨⟨_, _, hz, .inl rfl⟩, hTI, ⟨_, _, hTO⟩, st1, st2⟩ fun h'' tk acc cc ts f1 f2 f3 f4 ⟨f5, f6⟩ => ?_
  · show c < h'.objs.size
    rw [hsz5]
    simp only [List.mem_cons, List.not_mem_nil, or_false] at hc
    rcases hc with z | z | z | z | z | z | z <;> rw [z]
    · exact Nat.lt_succ_self _
    · exact Nat.add_lt_add_left (by decide) _
    · exact Nat.add_lt_add_left (by decide) _
    · exact Nat.lt_add_of_pos_right (by decide)
    · exact Nat.add_lt_add_left (by decide) _
    · exact Nat.lt_of_lt_of_le la (Nat.le_add_right _ _)
    · exact Nat.lt_of_lt_of_le lb (Nat.le_add_right _ _)
  · have e5 : h'.objs.size = s1.heap.objs.size + 5 := hsz5
    have old : ∀ c o, s1.heap.get? c = some o → h''.get? c = some o := fun c o g => by
      have lc := Heap.lt_size g
      refine f1 c o (fun hc => ?_) (Heap.get?_push_of_some _ (hk c o g))
      simp only [List.mem_cons, List.not_mem_nil, or_false] at hc
      have e5' : ({ s1 with heap := h' } : Shared).heap.objs.size = s1.heap.objs.size + 5 := e5
      rw [e5'] at hc
      rcases hc with z | z | z | z | z <;> rw [z] at lc <;> exact absurd lc (Nat.not_lt.mpr (by first | exact Nat.le_add_right _ _ | exact Nat.le_refl _))
    have tsz : ∀ t ∈ ts, s1.heap.objs.size + 6 ≤ t := fun t ht => by
      obtain ⟨j, hj⟩ := List.getElem?_of_mem ht
      have := (f6 j t hj).1
      have e5' : ({ s1 with heap := h' } : Shared).heap.objs.size = s1.heap.objs.size + 5 := e5
      rw [e5'] at this
      exact this
    have tn : ∀ c o, s1.heap.get? c = some o → c ∉ ts := fun c o g hc => by
      have h1 := Heap.lt_size g
      have h2 := tsz c hc
      exact absurd (Nat.lt_of_lt_of_le h1 (Nat.le_trans (Nat.le_add_right _ 6) h2)) (Nat.lt_irrefl _)
    have Hn : ∀ c u, H1 c = some u → c ∉ ts := fun c u g hc => by
      have h1 := (I1.hok c u g).lt
      have h2 := tsz c hc
      exact absurd (Nat.lt_of_lt_of_le h1 (Nat.le_trans (Nat.le_add_right _ 6) h2)) (Nat.lt_irrefl _)
    have keepH : ∀ c u, H1 c = some u → addT H1 ts its.toArray its2.toArray xs ys c = some u := fun c u g => by
      unfold addT
      rw [if_neg (Hn c u g)]
      exact g
    have atT : ∀ (j : Nat) (t : Addr) (x y : V), ts[j]? = some t → xs[j]? = some x → ys[j]? = some y → ∃ vx vy, its[j]? = some vx ∧ its2[j]? = some vy ∧ RelV x vx ∧ RelV y vy ∧ IsTupOf2 h'' t vx vy ∧ addT H1 ts its.toArray its2.toArray xs ys t = some (.frz { cls := .type "tuple", data := .seq #[vx, vy] } (.tup [x, y])) := fun j t x y ht hx hy => by
      obtain ⟨u, hu, ru⟩ := rv.get hx
      obtain ⟨u2, hu2, ru2⟩ := rv2.get hy
      obtain ⟨_, vx, vy, gx, gy, gt⟩ := f6 j t ht
      have q1 : vx = u := by
        have : its[j]? = some vx := by simpa using gx
        rw [hu] at this
        exact (Option.some.inj this).symm
      have q2 : vy = u2 := by
        have : its2[j]? = some vy := by simpa using gy
        rw [hu2] at this
        exact (Option.some.inj this).symm
      subst q1 q2
      refine ⟨vx, vy, hu, hu2, ru, ru2, gt, ?_⟩
      unfold addT
      rw [if_pos (List.mem_of_getElem? ht), idx_at f5 ht]
      have a1 : its.toArray.getD j .none = vx := by
        rw [Array.getD_eq_getD_getElem?, gx]; rfl
      have a2 : its2.toArray.getD j .none = vy := by
        rw [Array.getD_eq_getD_getElem?, gy]; rfl
      have a3 : xs.getD j .non = x := by rw [List.getD_eq_getElem?_getD, hx]; rfl
      have a4 : ys.getD j .non = y := by rw [List.getD_eq_getElem?_getD, hy]; rfl
      rw [a1, a2, a3, a4]
    have Sn : addT H1 ts its.toArray its2.toArray xs ys h'.objs.size = none := by
      unfold addT
      rw [if_neg (fun hc => by
        have := tsz _ hc
        rw [e5] at this
        exact absurd this (by exact Nat.not_succ_le_self _))]
      exact I1.hok.fresh (by rw [e5]; exact Nat.le_add_right _ _)
    have S1 : H1 h'.objs.size = none := I1.hok.fresh (by rw [e5]; exact Nat.le_add_right _ _)
    have hts : ts.length = ys.length := by rw [f4]; simp; omega
    have rvs : ∀ us : List Addr, Vals (us.map V.ref) (us.map Value.ref) := fun us => by
      induction us with
      | nil => exact .nil
      | cons t us ih => exact .cons rfl ih
    have I2 : Inv X pins σ (upd (addT H1 ts its.toArray its2.toArray xs ys) h'.objs.size (.lst (ts.map V.ref))) { s1 with heap := h'', toks := tk } := by
      refine Inv.drained (ex := []) (out := ts.map V.ref) (acc := acc) (c := cc) I1 (H' := addT H1 ts its.toArray its2.toArray xs ys) (s' := { s1 with heap := h'', toks := tk }) (by rw [e5]; exact Nat.le_add_right _ _) (by simp; omega) f2 ?_ ExOk.nil rfl I1.bare ⟨fun c o g _ _ _ => old c o g, fun c o g _ _ _ => ⟨o.slots, old c o g⟩, fun c o g hn _ => ?_, fun c o g _ => ⟨o, old c o g⟩, fun c zs g => keepH c _ g, fun c o u g => keepH c _ g, fun c ps g => ⟨#[], by rw [keepH c _ g]; simp⟩⟩ (fun c u g => ?_) Sn
      · rw [f3]
        exact rvs ts
      · unfold addT
        rw [if_neg (tn c o g)]
        exact hn
      · by_cases w : c ∈ ts
        · obtain ⟨j, hj⟩ := List.getElem?_of_mem w
          have hjl := (List.getElem?_eq_some_iff.mp hj).1
          obtain ⟨vx, vy, g1, g2, g3, g4, g5, g6⟩ := atT j c xs[j] (ys[j]'(by omega)) hj (List.getElem?_eq_getElem (by omega)) (List.getElem?_eq_getElem (by omega))
          rw [g6] at g
          cases g
          exact ⟨g5, by show 2 ≤ sizeLine; decide, [vx, vy], .cons g3 (.cons g4 .nil), ⟨_, g5, rfl, _, rfl⟩⟩
        · have g' : H1 c = some u := by
            unfold addT at g
            rw [if_neg w] at g
            exact g
          exact (I1.hok c u g').stay (fun d v _ z => old d v z) (fun d z => keepH d _ z) fun d zs z => keepH d _ z
    have w := newT I2 (rvs ts) (by rw [List.length_map]; omega) (q ts _ _ hts (fun j t x y ht hx hy => ?_) keepH Sn S1)
    · have ea : (ts.map Value.ref).toArray = acc := by rw [← f3]
      rw [ea] at w
      exact w
    · obtain ⟨vx, vy, _, _, _, _, _, g6⟩ := atT j t x y ht hx hy
      exact ⟨_, rfl, g6⟩
theorem pe_tupZip {X : Cx} {e e2 : Expr} {ta : TA} {p pos p2 pos2 : Pos} (hc : X.calm = true) (hg : Gl X "tuple") (hm : X.mg "tuple" = none) (hg2 : Gl X "zip") (hm2 : X.mg "zip" = none) (ha : PA X [e, e2] ta)
    (hs : starEach [e, e2] X.env = (false, eval e X.env) :: starEach [e2] X.env := by rfl) (hpl : (backTo pos2 (starEach [e2] X.env)).any (·.1) = false := by rfl)
    (na : starEach [.Call (.Name "zip" p2) [e, e2] [] pos2] X.env = (false, eval (.Call (.Name "zip" p2) [e, e2] [] pos2) X.env) :: starEach [] X.env := by rfl) :
    PE X (.Call (.Name "tuple" p) [.Call (.Name "zip" p2) [e, e2] [] pos2] [] pos) (tTupZip X.K ta) := by
  refine ⟨fun pins s σ H Q I h => ?_⟩
  refine Call_ (ld_blt I hg hm boot_tuple (PyProof.Rows.callWith_type1 (PyProof.Rows.args_cons ?_ na) na))
  refine Call_ (ld_blt I hg2 hm2 PyProof.Rows.boot_zip (PyProof.Rows.callWith_type1 (thn (ha.run pos2 pins s σ H _ I h) fun us s1 ⟨vs, H1, I1, r1, q1⟩ => ?_) hs hpl))
  obtain ⟨a, b, xs, ys, ex, hq, hlen, hsz, q⟩ := q1
  subst ex
  cases r1 with
  | cons r rr =>
    cases rr with
    | cons r' rr =>
      cases rr
      cases r
      cases r'
      obtain ⟨hqx, hqy⟩ := hq
      obtain ⟨its, rv, p1, _⟩ := I1.list hqx
      obtain ⟨its2, rv2, p3, _⟩ := I1.list hqy
      have la : a < s1.heap.objs.size := let ⟨_, w, _⟩ := p1.isList; Heap.lt_size w
      have lb : b < s1.heap.objs.size := let ⟨_, w, _⟩ := p3.isList; Heap.lt_size w
      refine call_zip_2 p1.isList p3.isList fun h' hz hTI hTO h1 h2 hsz5 hk => PyProof.Rows.args_nil ?_
      exact tupZip_tail I1 rv rv2 hlen hsz la lb (I1.ok.hd hc) (fun A' hh' => Draws.list hh' _ a (Nat.ne_of_lt la) its.toArray) (fun A' hh' => Draws.list hh' _ b (Nat.ne_of_lt (Nat.lt_succ_of_lt lb)) its2.toArray) hz hTI hTO ⟨h1, p1.isList.at fun o e => hk a o e⟩ ⟨h2, p3.isList.at fun o e => hk b o e⟩ hsz5 hk q

section
variable {X : Cx} {K : PySem.W.Frag} (hK : X.K = K)
include hK
theorem k_tupZip {e e2 : Expr} {ta : TA} {p pos p2 pos2 : Pos} (hc : X.calm = true) (hg : Gl X "tuple") (hm : X.mg "tuple" = none) (hg2 : Gl X "zip") (hm2 : X.mg "zip" = none) (ha : PA X [e, e2] ta)
    (hs : starEach [e, e2] X.env = (false, eval e X.env) :: starEach [e2] X.env := by rfl) (hpl : (backTo pos2 (starEach [e2] X.env)).any (·.1) = false := by rfl)
    (na : starEach [.Call (.Name "zip" p2) [e, e2] [] pos2] X.env = (false, eval (.Call (.Name "zip" p2) [e, e2] [] pos2) X.env) :: starEach [] X.env := by rfl) :
    PE X (.Call (.Name "tuple" p) [.Call (.Name "zip" p2) [e, e2] [] pos2] [] pos) (tTupZip K ta) := hK ▸ pe_tupZip hc hg hm hg2 hm2 ha hs hpl na
end
section
variable {c : Ct} {H H' : Hp} {Γ : List (Option Rs)} {tr : TA} {ds es : List PyData} {kv : Bool}
theorem e_tupZipL (h : EvA c tr Γ kv [.list ds, .list es]) (hd : flatAll ds = true) (he : flatAll es = true) (hl : es.length = ds.length ∨ es.length + 1 = ds.length) (hs : ds.length ≤ 1000000) : Ev c (tTupZip c.K tr) Γ .v (.tuple (zipTs ds es)) := fun H0 O H σ e Q q =>
  h H0 O H σ e _ fun vs H1 r s => by
    have s' : BoAll c H1 vs [.list ds, .list es] := by
      cases kv with
      | true => exact BoAll.same mns_same (BoAll.vm s)
      | false => exact s
    obtain ⟨va, vb, rfl, ba', bb'⟩ := s'.two
    obtain ⟨a, xs, rfl, _, sa, al⟩ := ba'.lst'
    obtain ⟨b, ys, rfl, _, sb, bl⟩ := bb'.lst'
    have l1 := al.len
    have l2 := bl.len
    refine ⟨a, b, xs, ys, rfl, ⟨sa, sb⟩, by omega, by rw [l1]; exact sizeOk hs, fun ts H' p h1 h2 h3 h4 h5 => newTk (c := c) fun p2 H4 hp2 sm3 tp => ?_⟩
    have sm1 : Same H1 H' := fun b u z => h3 b u z
    have sm2 : Same H' (upd H' p (.lst (ts.map V.ref))) := fun b u z => by rw [upd_ne (ne_of_none z h4)]; exact z
    have r4 : Rr c H H4 := r.tr ((Rr.same sm1).tr ((Rr.same sm2).tr (Rr.same sm3)))
    refine q _ H4 r4 (Bo.flatM e r4 (by show flatAll (zipTs ds es) = true; exact zipTs_flat hd he) (.tup tp (bo_of (by simp [zipTs]; omega) fun j v d hv hd' => ?_)))
    rw [List.getElem?_map] at hv
    obtain ⟨t, ht, rfl⟩ := Option.map_eq_some_iff.mp hv
    have hj := (List.getElem?_eq_some_iff.mp ht).1
    have hx : xs[j]? = some xs[j] := List.getElem?_eq_getElem (by omega)
    have hy : ys[j]? = some (ys[j]'(by omega)) := List.getElem?_eq_getElem (by omega)
    obtain ⟨o, ho, ht'⟩ := h2 j t _ _ ht hx hy
    obtain ⟨dx, gx, bx⟩ := al.get hx
    obtain ⟨dy, gy, bY⟩ := bl.get hy
    have ed : d = .tuple [dx, dy] := by
      unfold zipTs at hd'
      rw [List.getElem?_map] at hd'
      obtain ⟨pq, hpq, e1⟩ := Option.map_eq_some_iff.mp hd'
      have := List.getElem?_zip_eq_some.mp hpq
      rw [gx, gy] at this
      rw [← e1]
      have h1 := Option.some.inj this.1
      have h2 := Option.some.inj this.2
      rw [h1, h2]
    subst ed
    exact .tup (.inl ⟨o, ho, sm3 _ _ (sm2 _ _ ht')⟩) (.cons (((bx.same sm1).same sm2).same sm3) (.cons (((bY.same sm1).same sm2).same sm3) .nil))
end
end Lm


/-! rules for texts that are read: rows[-1].append(x), methods of texts, int(text), lcm, tuples that stand at the top, loops that a raise breaks off -/
namespace Lm
open PySem PySem.Spec PyProof.Rows L2
section
variable {c : Ct} {H H' H0 H1 H2 H3 : Hp} {O : List Addr} {σ : L2.St} {Γ Γ' Γ1 : List (Option Rs)} {te to ti ta tb : TE} {k ki ka kb : Kd} {t u : TS}
/-- rows[i].append(e) -/
theorem s_appI2 {P : Out → Prop} {n i : Nat} {a : Int} {ds es : List PyData} {d : PyData} (hx : Γ[n]? = some (some (.o (.list ds)))) (hi : Ev c ti Γ ki (.int a)) (ha : ixN ds.length a = some i) (hes : ds[i]? = some (.list es)) (hfl : flatAll es = true) (h : Ev c te Γ k d) (hf : flatD d = true) (hl : es.length < 1000000)
    (p : P (.nx (Γ.set n (some (.o (.list (ds.set i (.list (es ++ [d]))))))))) : Sd c (tDrop (tBM c.K "list" rAppend (tOp (rIx c.K) (tVar n) ti) (tCons te tNil))) Γ P := fun H0 O H σ D e s => by
  obtain ⟨q0, x0, _, _, hq0, _⟩ := e.write2 hx hes hfl
  refine ⟨.ref q0, hq0, hi H0 O H σ e _ fun w H2 r2 ws => ?_⟩
  have e2 := e.on r2
  obtain ⟨p2, xs, q, ys, hp2, hH2, okp, hxl, hxi, hq, bo, wr⟩ := e2.write2 hx hes hfl
  have : p2 = q0 := by rw [hq0] at hp2; cases hp2; rfl
  subst this
  refine .inl ⟨p2, xs, a, .ref q, rfl, (Res.bo e ws).int', .inl (.inl hH2), ?_, ?_⟩
  · unfold atI
    rw [hxl, ha]
    exact hxi
  refine ⟨.inl ⟨rfl, ys, .inl (.inl hq)⟩, h H0 O H2 σ e2 _ fun v H3 r3 rs => ?_⟩
  have e3 := e2.on r3
  obtain ⟨p3, xs3, q3, ys3, hp3, hH3, _, _, hxi3, hq3, bo3, wr3⟩ := e3.write2 hx hes hfl
  have ep : p3 = p2 := by rw [hp2] at hp3; cases hp3; rfl
  subst ep
  have exs : xs3 = xs := by
    have := r3.1 _ _ okp hH2
    rw [hH3] at this
    cases this; rfl
  subst exs
  have eq3 : q3 = q := by
    rw [hxi] at hxi3
    cases hxi3; rfl
  subst eq3
  have bv : Bo c H3 v d := Res.bo e2 rs
  have hz : ys3.length + 1 ≤ sizeLine := by rw [bo3.len, sizeLine_eq]; omega
  refine ⟨q3, ys3, v, rfl, rfl, hq3, hz, s _ p O _ σ (wr3 (ys3 ++ [v]) (es ++ [d]) ?_ ?_)⟩
  · rw [show flatAll (es ++ [d]) = true from flatAll_mem fun x hx' => by
      rcases List.mem_append.mp hx' with m | m
      · exact flatAll_one hfl m
      · rw [List.mem_singleton.mp m]; exact hf]
  · have fl : flatAll (es ++ [d]) = true := flatAll_mem fun x hx' => by
      rcases List.mem_append.mp hx' with m | m
      · exact flatAll_one hfl m
      · rw [List.mem_singleton.mp m]; exact hf
    exact BoAll.flatTo (fun _ _ z => sqT_upd hq3 z) fl (bo3.app (.cons bv .nil))
end
/-! methods of a text with arguments -/
def tSM (r : V → List V → Hp → VK → Prop) (to : TE) (t : TA) : TE := fun σ H Q => to σ H fun x H1 => (∃ a, x = .str a) ∧ t σ H1 fun vs H2 => r x vs H2 Q
section
variable {X : Cx}
theorem pe_sm {name : Str} {id : String} {r : V → List V → Hp → VK → Prop} {o e : Expr} {es : List Expr} {to : TE} {t : TA} {apos cpos : Pos} (slot : Slot "str" name id) (hty : typeOf (.builtin id) = pure (.type "method_descriptor")) (hm : MtR X id r) (ho : PE X o to) (ha : PA X (e :: es) t)
    (hbase : attributeBase o name X.env (eval o X.env) = eval o X.env := by rfl)
    (hfew : ((backTo cpos (starEach (e :: es) X.env)).all (fun x => !x.1) && (backToKw cpos (keywordEach [] X.env)).all (fun x => x.1.isSome) && decide ((e :: es).length + ([] : List Keyword).length + (if ([] : List Keyword).isEmpty then 0 else 1) < 30)) = true := by rfl)
    (hline : (apos.endLine == cpos.line) = true := by rfl) (hs : starEach (e :: es) X.env = (false, eval e X.env) :: starEach es X.env := by rfl) (hplain : (backTo cpos (starEach es X.env)).any (·.1) = false := by rfl) :
    PE X (.Call (.Attribute o name apos) (e :: es) [] cpos) (tSM r to t) := by
  refine ⟨fun pins s σ H Q I h => wpAny_Call_method_late hbase hfew hline rfl (thn (ho.run pins s σ H _ I h) fun v s1 ⟨x, H1, I1, r1, ty, q1⟩ => ?_)⟩
  obtain ⟨a, rfl⟩ := ty
  obtain ⟨tk, rfl⟩ := _root_.id r1
  refine ⟨"str", id, PySem.F.plainAttrs_str, slot, hty, typeIs_str _ _ _, (fun _ e => nomatch e), ?_⟩
  have hA := ha.run cpos pins s1 σ H1 _ I1 q1
  rw [hs] at hA ⊢
  refine Calls.callWith_builtin (by show (false || (backTo cpos (starEach es X.env)).any (·.1)) = false; rw [hplain] <;> rfl) (Calls.evalArgs_plain ?_)
  exact thn hA fun us s2 ⟨vs, H2, I2, r2, q2⟩ => hm pins s2 σ H2 (.str a) vs _ us Q I2 ⟨tk, rfl⟩ r2 q2
/-- x.ljust(n, fill) -/
def ljT (x : Str) (i : Int) (f : Nat) : Str := if i ≤ (x.length : Int) then x else Builtin.Str.padded x 0 (i.toNat - x.length) f
def rLj : V → List V → Hp → VK → Prop := fun x xs H Q => ∃ a i f, x = .str a ∧ xs = [.int i, .str ⟨#[f]⟩] ∧ 0 ≤ i ∧ i ≤ 1000 ∧ Q (.str (ljT a i f)) H
open PySem.Builtin PySem.Builtin.Str in
theorem gives_lj (x : Str) (i : Int) (f : Nat) (t u v : Tok) (h0 : 0 ≤ i) (h1 : i ≤ 1000) : Gives (Builtin.«str.ljust» ⟨[.str x t, .int i u, .str ⟨#[f]⟩ v], []⟩) (if i ≤ (x.length : Int) then .val (.str x t) else .str (Builtin.Str.padded x 0 (i.toNat - x.length) f)) := by
  show Gives (do
             let width ← asSsize s!"str.{"ljust"}" (.int i u)
             if width ≤ x.length then (do rule s!"str.{"ljust"}.long-enough"; ret (.str x t)) else
             if tooLong width.toNat = true then unsupported s!"str.{"ljust"}:memory" else retStr (Builtin.Str.padded x 0 (width.toNat - x.length) f)) _
  rw [asSsize_int _ _ _ (by rw [Bool.or_eq_false_iff]; exact ⟨decide_eq_false (by omega), decide_eq_false (by omega)⟩)]
  have hl : tooLong i.toNat = false := decide_eq_false (by rw [sizeLine_eq]; omega)
  show Gives (if i ≤ x.length then (do rule s!"str.{"ljust"}.long-enough"; ret (.str x t)) else if tooLong i.toNat = true then unsupported s!"str.{"ljust"}:memory" else retStr (Builtin.Str.padded x 0 (i.toNat - x.length) f)) _
  rw [hl]
  by_cases h : i ≤ (x.length : Int)
  · rw [if_pos h, if_pos h]; exact .rule (.of_eq rfl)
  · rw [if_neg h, if_neg h]; exact .of_eq rfl
theorem mt_lj : MtR X "str.ljust" rLj := by
  intro pins s σ H x xs v us Q I rx rs h
  obtain ⟨a, i, f, rfl, rfl, h0, h1, h⟩ := h
  obtain ⟨t, rfl⟩ := rx
  cases rs with
  | cons r1 rs =>
    cases rs with
    | cons r2 rs =>
      cases rs
      obtain ⟨u, rfl⟩ := r1
      obtain ⟨w, rfl⟩ := r2
      refine call_gives F.slot_str_ljust (typeIs_str _ _ _) F.entry_str_ljust (F.args_str_ljust_3 _ _ _) (gives_lj a i f t u w h0 h1) (post_val_or_made (fits_padR f (decide_eq_false (by rw [sizeLine_eq]; omega))) fun t' k => ⟨.str _, H, I.tok k, ⟨t', rfl⟩, h⟩)
/-- x.index(y) -/
def rIxS : V → List V → Hp → VK → Prop := fun x xs H Q => ∃ a b i l, x = .str a ∧ xs = [.str b] ∧ Builtin.Str.occurrences a b 0 a.length 1 = i :: l ∧ Q (.int ((i : Nat) : Int)) H
theorem mt_ixS : MtR X "str.index" rIxS := by
  intro pins s σ H x xs v us Q I rx rs h
  obtain ⟨a, b, i, l, rfl, rfl, ho, h⟩ := h
  obtain ⟨t, rfl⟩ := rx
  cases rs with
  | cons r1 rs =>
    cases rs
    obtain ⟨u, rfl⟩ := r1
    exact SC.index ho ⟨.int _, H, I.tok _, ⟨_, rfl⟩, h⟩
/-- math.lcm -/
def rLcm : List V → Hp → VK → Prop := fun vs H Q => ∃ a b : Nat, vs = [.int (a : Int), .int (b : Int)] ∧ a < 2 ^ 64 ∧ b < 2 ^ 64 ∧ Q (.int ((Nat.lcm a b : Nat) : Int)) H
theorem cr_lcm : CallR X (.builtin "math.lcm") rLcm := by
  intro pins s σ H xs us Q I r h
  obtain ⟨a, b, rfl, ha, hb, q⟩ := h
  cases r with
  | cons r1 r =>
    cases r with
    | cons r2 r =>
      cases r
      obtain ⟨t, rfl⟩ := r1
      obtain ⟨u, rfl⟩ := r2
      exact PySem.W.mc_lcm (by simpa using ha) (by simpa using hb) fun _ => ⟨.int _, H, I.tok _, ⟨_, rfl⟩, by simpa using q⟩
end
/-! tuples that stand at the top -/
/-- the value is this data in what is written -/
def GTup (K : PySem.W.Frag) (a : Addr) (d : PyData) : Prop := ∀ (c : Ct) (H : Hp), c.K = K → Bo c H (.ref a) d
theorem e_gT {c : Ct} {Γ : List (Option Rs)} {K : PySem.W.Frag} {a : Addr} {d : PyData} (h : GTup K a d) (hK : c.K = K) : Ev c (tC (.ref a)) Γ .v d := fun H0 O H σ e Q q => q _ H Rr.rf (h c (mns H O) hK)
theorem gtup_row {K : PySem.W.Frag} {c : Ct} {H : Hp} (hK : c.K = K) {a : Addr} {n : Nat} {s : Array (Option Value)} {vs : Array Value} {ds : List PyData} {xs : List V} (hl : K.lookup a = some ⟨.type "tuple", none, .seq vs n, s⟩) (hz : vs.size ≤ 1000) (rv : Vals xs vs.toList) (hb : BoAll c H xs ds) : Bo c H (.ref a) (.tuple ds) :=
  .tup (.inr ⟨_, vs, n, by rw [hK]; exact hl, rfl, rfl, rfl, by rw [sizeLine_eq]; omega, rv⟩) hb
section
variable {c : Ct} {Γ : List (Option Rs)} {te to ta tb : TE} {k ka kb kd : Kd} {t u : TS} {H0 : Hp}
theorem e_ljS {z : Str} {i : Int} {f : Nat} (ho : Ev c to Γ k (.str z)) (ha : Ev c ta Γ ka (.int i)) (hb : Ev c tb Γ kb (.str ⟨#[f]⟩)) (h0 : 0 ≤ i) (h1 : i ≤ 1000) : Ev c (tSM rLj to (tCons ta (tCons tb tNil))) Γ .v (.str (ljT z i f)) := fun H0 O H σ e Q q =>
  ho H0 O H σ e _ fun v H1 r1 s1 => ⟨⟨z, (Res.bo e s1).str'⟩, ha H0 O H1 σ (e.on r1) _ fun u H2 r2 s2 => hb H0 O H2 σ ((e.on r1).on r2) _ fun w H3 r3 s3 =>
    ⟨z, i, f, (Res.bo e s1).str', by rw [(Res.bo (e.on r1) s2).int', (Res.bo ((e.on r1).on r2) s3).str'], h0, h1, q _ H3 (r1.tr (r2.tr r3)) (.str _)⟩⟩
theorem e_ixOfS {z y : Str} {i : Nat} {l : List Nat} (ho : Ev c to Γ k (.str z)) (ha : Ev c ta Γ ka (.str y)) (h : Builtin.Str.occurrences z y 0 z.length 1 = i :: l) : Ev c (tSM rIxS to (tCons ta tNil)) Γ .v (.int (i : Int)) := fun H0 O H σ e Q q =>
  ho H0 O H σ e _ fun v H1 r1 s1 => ⟨⟨z, (Res.bo e s1).str'⟩, ha H0 O H1 σ (e.on r1) _ fun u H2 r2 s2 =>
    ⟨z, y, i, l, (Res.bo e s1).str', by rw [(Res.bo (e.on r1) s2).str'], h, q _ H2 (r1.tr r2) (.int _)⟩⟩
theorem e_lcm {a b : Nat} (ha : Ev c ta Γ ka (.int (a : Int))) (hb : Ev c tb Γ kb (.int (b : Int))) (h1 : a < 2 ^ 64) (h2 : b < 2 ^ 64) : Ev c (tCB rLcm (tCons ta (tCons tb tNil))) Γ .v (.int ((Nat.lcm a b : Nat) : Int)) :=
  d_cb (a_cons ha (a_cons hb a_nil)) fun H O vs Q s q => by
    obtain ⟨x, y, rfl, bx, bY⟩ := s.two
    exact ⟨a, b, by rw [bx.int', bY.int'], h1, h2, q _ H Rr.rf (.int _)⟩
/-- int(text) of digits -/
def rIntS : List V → Hp → VK → Prop := fun xs H Q => ∃ a n, xs = [.str a] ∧ PySem.intText? a = some n ∧ a.length ≤ 640 ∧ Q (.int n) H
theorem e_intS {z : Str} (h : Ev c te Γ k (.str z)) (hd : NumText.AllDigits z.cps.toList) (hn : z.cps.toList ≠ []) (hl : z.length ≤ 640) : Ev c (tCB rIntS (tCons te tNil)) Γ .v (.int ((NumText.digitsVal z.cps.toList : Nat) : Int)) :=
  d_cb (a_cons h a_nil) fun H O vs Q s q => by
    obtain ⟨x, rfl, b⟩ := s.one
    exact ⟨z, _, by rw [b.str'], intText_digits hd hn (by omega), hl, q _ H Rr.rf (.int _)⟩
theorem cr_intS {X : Cx} : CallR X (.type "int") rIntS := call_int_str
/-- a for that a raise breaks off -/
theorem x_for {wi : TI} {g : TG} {tb : TS} {items : List Im} (hi : EvI c wi Γ true items) (I : Nat → List (Option Rs) → Prop) (h0 : I 0 Γ)
    (hs : ∀ n a Γ1, items[n]? = some a → I n Γ1 → ∃ Γ2 js, EvG c g a Γ1 Γ2 js ∧ (SdX c H0 tb Γ2 ∨ Sd c tb Γ2 (fun o => ∃ Γ3, o = .nx Γ3 ∧ I (n + 1) Γ3)))
    (hd : ∀ Γ1, I items.length Γ1 → SdX c H0 u Γ1) : SdX c H0 (tSeq (tFor wi g tb) u) Γ := fun O H σ D e =>
  hi H0 O H σ e _ fun J H1 r1 w => by
    obtain ⟨jF, w⟩ := w
    have e1 := e.on r1
    refine for_it w (fun n σ' H' => ∃ O' Γ', I n Γ' ∧ Env c H0 O' H' σ' Γ' ∧ Env c (mns H1 O) O' H' σ' Γ') ⟨O, Γ, h0, e1, e1.base⟩ ?_ ?_ ?_
    · rintro n σ' H' _ ⟨O', Γ', _, _, e'⟩
      exact e'.rH
    · rintro n x σ' H' H'' hn ⟨O', Γ', hI, e0, e'⟩ ⟨sm, im, him, lo⟩
      have e2 := e'.on (Rr.same sm)
      obtain ⟨Γ2, js, hg, hb⟩ := hs n im Γ' him hI
      refine hg _ _ _ _ _ true x e2 jF e2.rH (fun _ => e2.r0) lo _ fun σ2 e3 _ => ?_
      rcases hb with hb | hb
      · exact hb _ _ _ _ (e1.fromB e3)
      · refine hb _ _ _ _ _ e3 fun o po => ?_
        obtain ⟨Γ3, rfl, h3⟩ := po
        exact fun O4 H4 σ4 e4 => ⟨O4, Γ3, h3, e1.fromB e4, e4⟩
    · rintro σ' H' ⟨O', Γ', hI, e0, e'⟩
      exact hd Γ' hI _ _ _ _ e0
theorem x_seqN {P1 : List (Option Rs) → Prop} (h : Sd c t Γ (fun o => ∃ Γ3, o = .nx Γ3 ∧ P1 Γ3)) (hd : ∀ Γ3, P1 Γ3 → SdX c H0 u Γ3) : SdX c H0 (tSeq t u) Γ := fun O H σ D e =>
  h H0 O H σ _ e fun o po => by
    obtain ⟨Γ3, rfl, h3⟩ := po
    exact fun O4 H4 σ4 e4 => hd Γ3 h3 _ _ _ _ e4
end
end Lm


/-! texts read by a grammar: words of tokens, what may come, f-strings, joined texts (k92 to k95) -/
namespace Lm
open PySem PySem.Spec PyProof.Rows L2
/-! texts of strings -/
theorem sg_ofS (s : String) : sgL (Str.ofString s) = s.toList.map Char.toNat := TL.tl_ofString s
theorem str_ext {x y : Str} (h : sgL x = sgL y) : x = y := TL.ext_tl h
theorem sg_app (x y : Str) : sgL (x ++ y) = sgL x ++ sgL y := TL.tl_append x y
theorem ofS_app (a b : String) : Str.ofString (a ++ b) = Str.ofString a ++ Str.ofString b := str_ext (by rw [sg_app, sg_ofS, sg_ofS, sg_ofS, String.toList_append, List.map_append])
theorem emp_app (x : Str) : Str.empty ++ x = x := str_ext (by rw [sg_app]; rfl)
/-- joined by ", " -/
def joinC : List String → String
  | [] => ""
  | [w] => w
  | w :: ws => w ++ ", " ++ joinC ws
theorem joinL_C : ∀ ws : List String, TL.joinL (sgL (Str.ofString ", ")) (ws.map fun w => sgL (Str.ofString w)) = sgL (Str.ofString (joinC ws))
  | [] => by show ([] : List Nat) = _; rw [show joinC [] = "" from rfl, sg_ofS]; rfl
  | [w] => rfl
  | w :: v :: ws => by
    show sgL (Str.ofString w) ++ (sgL (Str.ofString ", ") ++ TL.joinL (sgL (Str.ofString ", ")) ((v :: ws).map fun w => sgL (Str.ofString w))) = _
    rw [joinL_C (v :: ws), ← List.append_assoc, show joinC (w :: v :: ws) = w ++ ", " ++ joinC (v :: ws) from rfl, ofS_app, ofS_app, sg_app, sg_app]
theorem join_C (ws : List String) : Txt.join (Str.ofString ", ") (ws.map Str.ofString) = Str.ofString (joinC ws) := by
  rw [TL.join_eq]
  refine str_ext ?_
  show TL.tl (Str.join _ _) = _
  rw [TL.tl_join, List.map_map]
  exact joinL_C ws
/-! words of tokens -/
def wordS (t : Tok9) : Str := if t.1 = "sign" then Str.ofString "\"" ++ strN t.2.1 ++ Str.ofString "\"" else if t.1 = "end" then Str.ofString "the end" else Str.ofString "a " ++ Str.ofString t.1
abbrev Gr := List (String × String × String)
def grD (g : Gr) : PyData := .tuple (g.map fun e => .tuple [.str (Str.ofString e.1), .str (Str.ofString e.2.1), .str (Str.ofString e.2.2)])
def gSH : Gr := [("start", "a name", "named"), ("named", "a number", "counted"), ("counted", "\",\"", "start"), ("counted", "\".\"", "pointed"), ("counted", "\"/\"", "pointed"), ("counted", "the end", "ended"), ("pointed", "a number", "shared"), ("shared", "\",\"", "start"), ("shared", "the end", "ended")]
def gAS : Gr := [("start", "a number", "counted"), ("start", "the end", "ended"), ("counted", "a number", "counted"), ("counted", "\"*\"", "repeated"), ("counted", "the end", "ended"), ("repeated", "a number", "start")]
def wAt (g : Gr) (p : String) : List String := (g.filter fun e => decide (Str.ofString e.1 = Str.ofString p)).map (·.2.1)
def eiS (ws : List String) : String := match ws with
  | [w] => w
  | _ => joinC ws.dropLast ++ " or " ++ ws.getLastD ""
def plB (g : Gr) (p : String) (t : Tok9) : List String := (g.filter fun e => decide (Str.ofString e.1 = Str.ofString p) && decide (Str.ofString e.2.1 = wordS t)).map (·.2.2)
def plA (g : Gr) : String → List Tok9 → Except (Nat × String) String
  | p, [] => .ok p
  | p, t :: ts => match plB g p t with
    | q :: _ => plA g q ts
    | [] => .error (t.2.2, "expected " ++ eiS (wAt g p))
def strL (ws : List String) : List PyData := ws.map fun w => .str (Str.ofString w)
theorem fl_strL : ∀ ws : List String, flatAll (strL ws) = true
  | [] => rfl
  | w :: ws => by show (true && flatAll (strL ws)) = true; rw [fl_strL ws]; rfl
/-- a grammar that reads fit in -/
def GrOk (g : Gr) : Prop := g = gSH ∨ g = gAS
/-- a token of a bounded size -/
def TkOk (t : Tok9) : Prop := (t.1 = "name" ∨ t.1 = "number" ∨ t.1 = "sign" ∨ t.1 = "end") ∧ t.2.1.length ≤ 400 ∧ t.2.2 ≤ 1000
def sp_word_of (K : PySem.W.Frag) : Sp := spD K fun ds k d => ∃ t : Tok9, ds = [tokD t] ∧ TkOk t ∧ k = .v ∧ d = .str (wordS t)
def sp_words_at (K : PySem.W.Frag) : Sp := spD K fun ds k d => ∃ (g : Gr) (p : String), ds = [grD g, .str (Str.ofString p)] ∧ GrOk g ∧ k = .o ∧ d = .list (strL (wAt g p))
def sp_either (K : PySem.W.Frag) : Sp := spD K fun ds k d => ∃ ws : List String, ds = [.list (strL ws)] ∧ ws ≠ [] ∧ ws.length ≤ 20 ∧ (∀ w ∈ ws, (Str.ofString w).length ≤ 20) ∧ k = .v ∧ d = .str (Str.ofString (eiS ws))
def sp_place_behind (K : PySem.W.Frag) : Sp := spD K fun ds k d => ∃ (g : Gr) (p q : String) (t : Tok9) (r : List String), ds = [grD g, .str (Str.ofString p), tokD t] ∧ GrOk g ∧ TkOk t ∧ plB g p t = q :: r ∧ k = .v ∧ d = .str (Str.ofString q)
def sp_place_after (K : PySem.W.Frag) : Sp := spD K fun ds k d => ∃ (g : Gr) (q : String) (ts : List Tok9), ds = [grD g, .list (ts.map tokD)] ∧ GrOk g ∧ (∀ t ∈ ts, TkOk t) ∧ ts.length ≤ 1000 ∧ plA g "start" ts = .ok q ∧ k = .v ∧ d = .str (Str.ofString q)
def RtPb (ds : List PyData) (cw : Nat × String) : Prop := ∃ (g : Gr) (p : String) (t : Tok9), ds = [grD g, .str (Str.ofString p), tokD t] ∧ GrOk g ∧ wAt g p ≠ [] ∧ TkOk t ∧ plB g p t = [] ∧ cw = (t.2.2, "expected " ++ eiS (wAt g p))
theorem RtPb_len {ds cw} (h : RtPb ds cw) : ds.length = 3 := by obtain ⟨g, p, t, rfl, _⟩ := h; rfl
def RtPa (ds : List PyData) (cw : Nat × String) : Prop := ∃ (g : Gr) (ts : List Tok9), ds = [grD g, .list (ts.map tokD)] ∧ GrOk g ∧ (∀ t ∈ ts, TkOk t) ∧ (∀ t ∈ ts.dropLast, t.1 ≠ "end") ∧ ts.length ≤ 1000 ∧ plA g "start" ts = .error cw
theorem RtPa_len {ds cw} (h : RtPa ds cw) : ds.length = 2 := by obtain ⟨g, ts, rfl, _⟩ := h; rfl
section
variable {c : Ct} {Γ : List (Option Rs)} {te to : TE} {k kb : Kd}
/-- f'..' -/
inductive EvJ (c : Ct) (Γ : List (Option Rs)) : List TE → List Str → Prop
  | nil : EvJ c Γ [] []
  | cons {t : TE} {ts : List TE} {z : Str} {zs : List Str} {k : Kd} : Ev c t Γ k (.str z) → EvJ c Γ ts zs → EvJ c Γ (t :: ts) (z :: zs)
theorem e_fmt {z : Str} (h : Ev c te Γ k (.str z)) (hl : z.length ≤ 100000) : Ev c (tFmt te) Γ .v (.str z) := fun H0 O H σ e Q q =>
  h H0 O H σ e _ fun v H2 r s => .inl ⟨z, (Res.bo e s).str', by rw [sizeLine_eq]; omega, q _ H2 r (.str z)⟩
theorem log_sm {i : Int} (h0 : 0 ≤ i) (h1 : i ≤ 10 ^ 70) : i.natAbs.log2 < 1920 := by
  by_cases z : i.natAbs = 0
  · rw [z]; decide
  · have h2 : (10 : Int) ^ 70 < 2 ^ 256 := by decide
    have h3 : i.natAbs < 2 ^ 256 := by omega
    have := (Nat.log2_lt z).mpr h3
    omega
theorem ev_js {ts : List TE} {zs : List Str} (h : EvJ c Γ ts zs) : ∀ (acc : Str) (H0 : Hp) (O : List Addr) (H : Hp) (σ : L2.St) (e : Env c H0 O H σ Γ) (Q : Str → Hp → Prop), (acc :: zs).foldl (fun n z => n + z.length) 0 ≤ 100000 → (∀ H2, Rr c H H2 → Q (zs.foldl (· ++ ·) acc) H2) → tJs ts acc σ H Q := by
  induction h with
  | nil => intro acc H0 O H σ e Q _ q; exact q H Rr.rf
  | @cons t ts z zs k h hr ih =>
    intro acc H0 O H σ e Q hl q
    have hl2 : ((acc ++ z) :: zs).foldl (fun n z => n + z.length) 0 ≤ 100000 := by
      simpa [PySem.Str.length_append] using hl
    have mono : ∀ (l : List Str) (a : Nat), a ≤ l.foldl (fun n z => n + z.length) a := by
      intro l
      induction l with
      | nil => intro a; exact Nat.le_refl _
      | cons y l ih => intro a; exact Nat.le_trans (Nat.le_add_right a y.length) (ih _)
    have hm := mono zs (0 + (acc ++ z).length)
    exact h H0 O H σ e _ fun v H2 r s => ⟨z, (Res.bo e s).str', by
      have h3 : 0 + (acc ++ z).length ≤ 100000 := Nat.le_trans hm hl2
      rw [sizeLine_eq]; omega, ih (acc ++ z) H0 O H2 σ (e.on r) Q hl2 fun H3 r3 => q H3 (r.tr r3)⟩
theorem e_js {ts : List TE} {zs : List Str} {out : Str} (h : EvJ c Γ ts zs) (hl : zs.foldl (fun n z => n + z.length) 0 ≤ 100000) (ho : zs.foldl (· ++ ·) Str.empty = out) : Ev c (fun σ H Q => tJs ts Str.empty σ H fun out H1 => Q (.str out) H1) Γ .v (.str out) := fun H0 O H σ e Q q =>
  ev_js h Str.empty H0 O H σ e _ (by show zs.foldl (fun n z => n + z.length) (0 + Str.empty.length) ≤ 100000; exact hl) fun H2 r => by rw [ho]; exact q _ H2 r (.str out)
/-- a method of a text without arguments, with one -/
theorem vstr : ∀ {H : Hp} {xs : List V} {ws : List Str}, BoAll c H xs (ws.map PyData.str) → xs = ws.map V.str
  | _, _, [], h => by cases h; rfl
  | _, _, w :: ws, h => by
    cases h with
    | cons a b => rw [a.str', vstr b]; rfl
abbrev rJoin (K : PySem.W.Frag) : V → List V → Hp → VK → Prop := fun x xs H Q => ∃ a p, ∃ ys : List Str, x = .str a ∧ xs = [.ref p] ∧ (SqL K H p (ys.map V.str) ∨ SqT K H p (ys.map V.str)) ∧ (ys.map (·.length)).sum + ys.length * a.length ≤ 16777216 ∧ Q (.str (Txt.join a ys)) H
theorem e_join {z : Str} {ws : List Str} (ho : Ev c to Γ kb (.str z)) (h : Ev c te Γ k (.list (ws.map PyData.str))) (hl : (ws.map (·.length)).sum + ws.length * z.length ≤ 16777216) : Ev c (tM1 (rJoin c.K) to te) Γ .v (.str (Txt.join z ws)) := fun H0 O H σ e Q q =>
  ho H0 O H σ e _ fun v H1 r1 s1 => ⟨⟨z, (Res.bo e s1).str'⟩, h H0 O H1 σ (e.on r1) _ fun u H2 r2 s2 => by
    obtain ⟨p, xs, rfl, _, sq, al⟩ := (Res.bo (e.on r1) s2).lst'
    have ev := vstr al
    subst ev
    exact ⟨z, p, ws, (Res.bo e s1).str', rfl, .inl sq, hl, q _ H2 (r1.tr r2) (.str _)⟩⟩
end
end Lm


/-! what is read of tokens: shares, assignments (k92 to k95) -/
namespace Lm
open PySem PySem.Spec PyProof.Rows L2
/-! what the scanner makes -/
def Asc (r : List Nat) : Prop := ∀ c ∈ r, c ≠ 44 ∧ c < 128
def NmT (t : Tok9) : Prop := t.1 = "name" ∧ t.2.1.length ≤ 12 ∧ t.2.2 ≤ 1000 ∧ Asc t.2.1
def NuT (t : Tok9) : Prop := t.1 = "number" ∧ t.2.1 ≠ [] ∧ t.2.1.length ≤ 6 ∧ NumText.AllDigits t.2.1 ∧ t.2.2 ≤ 1000
def SgT (c : Nat) (t : Tok9) : Prop := t.1 = "sign" ∧ t.2.1 = [c] ∧ t.2.2 ≤ 1000
def ScTk (t : Tok9) : Prop := NmT t ∨ NuT t ∨ SgT 44 t ∨ SgT 46 t ∨ SgT 42 t ∨ SgT 47 t
theorem run_mem {L C : List Nat} {x : Nat} (h : x ∈ runS L C) : x ∈ C := by
  have := List.all_takeWhile (p := fun c => decide (c ∈ C)) (l := L)
  rw [List.all_eq_true] at this
  simpa using this x h
theorem dig_rng {c : Nat} (h : c ∈ sgL sDIG) : 48 ≤ c ∧ c ≤ 57 := by
  have : ∀ c ∈ sgL sDIG, 48 ≤ c ∧ c ≤ 57 := by decide +kernel
  exact this c h
theorem sig_rng {c : Nat} (h : c ∈ sgL sSIG) : c = 44 ∨ c = 46 ∨ c = 42 ∨ c = 47 := by
  have : ∀ c ∈ sgL sSIG, c = 44 ∨ c = 46 ∨ c = 42 ∨ c = 47 := by decide +kernel
  exact this c h
theorem nam_asc {c : Nat} (h : c ∈ sgL sNAM) : c ≠ 44 ∧ c < 128 := by
  have : ∀ c ∈ sgL sNAM, c ≠ 44 ∧ c < 128 := by decide +kernel
  exact this c h
theorem tokA_tk {L : List Nat} {a : Nat} {k : String} {r : List Nat} (h : tokA L a = .ok (k, r)) (ha : a < L.length) (hl : L.length ≤ 400) : ScTk (k, r, a + 1) := by
  have tl := tok_len h ha
  unfold tokA at h
  split at h
  · split at h
    · cases h
    · cases h
      exact .inl ⟨rfl, by show (runS _ _).length ≤ 12; omega, by show a + 1 ≤ 1000; omega, fun c m => nam_asc (run_mem m)⟩
  · split at h
    · split at h
      · cases h
      · cases h
        exact .inr (.inl ⟨rfl, List.ne_nil_of_length_pos tl.1, by show (runS _ _).length ≤ 6; omega, fun c hc => dig_rng (run_mem hc), by show a + 1 ≤ 1000; omega⟩)
    · split at h
      · next m =>
        cases h
        rcases sig_rng m with e | e | e | e
        · exact .inr (.inr (.inl ⟨rfl, by rw [e], by show a + 1 ≤ 1000; omega⟩))
        · exact .inr (.inr (.inr (.inl ⟨rfl, by rw [e], by show a + 1 ≤ 1000; omega⟩)))
        · exact .inr (.inr (.inr (.inr (.inl ⟨rfl, by rw [e], by show a + 1 ≤ 1000; omega⟩))))
        · exact .inr (.inr (.inr (.inr (.inr ⟨rfl, by rw [e], by show a + 1 ≤ 1000; omega⟩))))
      · cases h
theorem scn_tk {L : List Nat} (hl : L.length ≤ 400) : ∀ (n a : Nat) (ts : List Tok9), scn L n a = .ok ts → ∀ t ∈ ts, ScTk t
  | 0, a, ts, h, t, m => by cases h; cases m
  | n + 1, a, ts, h, t, m => by
    unfold scn at h
    split at h
    · next ha =>
      split at h
      · exact scn_tk hl n (a + 1) ts h t m
      · split at h
        · cases h
        · next k r e =>
          split at h
          · next us hu =>
            cases h
            rcases List.mem_cons.mp m with q | q
            · rw [q]; exact tokA_tk e ha hl
            · exact scn_tk hl n _ us hu t q
          · cases h
    · cases h; cases m
theorem scn_len {L : List Nat} : ∀ (n a : Nat) (ts : List Tok9), scn L n a = .ok ts → ts.length ≤ n
  | 0, a, ts, h => by cases h; exact Nat.le_refl _
  | n + 1, a, ts, h => by
    unfold scn at h
    split at h
    · split at h
      · have := scn_len n (a + 1) ts h; omega
      · split at h
        · cases h
        · split at h
          · next us hu => cases h; have := scn_len n _ us hu; simp; omega
          · cases h
    · cases h; simp
theorem ScTk.ok {t : Tok9} (h : ScTk t) : TkOk t := by
  rcases h with h | h | h | h | h | h
  · exact ⟨.inl h.1, by have := h.2.1; omega, h.2.2.1⟩
  · exact ⟨.inr (.inl h.1), by have := h.2.2.1; omega, h.2.2.2.2⟩
  all_goals exact ⟨.inr (.inr (.inl h.1)), by rw [h.2.1]; simp, h.2.2⟩
theorem ScTk.ne {t : Tok9} (h : ScTk t) : t.1 ≠ "end" := by
  rcases h with h | h | h | h | h | h <;> rw [h.1] <;> decide
/-! words and places -/
def plW (g : Gr) (p : String) (w : Str) : List String := (g.filter fun e => decide (Str.ofString e.1 = Str.ofString p) && decide (Str.ofString e.2.1 = w)).map (·.2.2)
theorem plB_W (g : Gr) (p : String) (t : Tok9) : plB g p t = plW g p (wordS t) := rfl
theorem wd_nm {t : Tok9} (h : NmT t) : wordS t = Str.ofString "a name" := by unfold wordS; rw [h.1, if_neg (by decide), if_neg (by decide)]; decide +kernel
theorem wd_nu {t : Tok9} (h : NuT t) : wordS t = Str.ofString "a number" := by unfold wordS; rw [h.1, if_neg (by decide), if_neg (by decide)]; decide +kernel
theorem wd_sg {c : Nat} {t : Tok9} (h : SgT c t) : wordS t = Str.ofString "\"" ++ strN [c] ++ Str.ofString "\"" := by unfold wordS; rw [h.1, h.2.1]; rfl
theorem wd_end {t : Tok9} (h : t.1 = "end") : wordS t = Str.ofString "the end" := by unfold wordS; rw [h, if_neg (by decide), if_pos rfl]
abbrev wSg (c : Nat) : Str := Str.ofString "\"" ++ strN [c] ++ Str.ofString "\""
/-- the steps of the shares' grammar -/
theorem sh_nm : plW gSH "start" (Str.ofString "a name") = ["named"] ∧ plW gSH "named" (Str.ofString "a name") = [] ∧ plW gSH "counted" (Str.ofString "a name") = [] ∧ plW gSH "pointed" (Str.ofString "a name") = [] ∧ plW gSH "shared" (Str.ofString "a name") = [] := by decide +kernel
theorem sh_nu : plW gSH "start" (Str.ofString "a number") = [] ∧ plW gSH "named" (Str.ofString "a number") = ["counted"] ∧ plW gSH "counted" (Str.ofString "a number") = [] ∧ plW gSH "pointed" (Str.ofString "a number") = ["shared"] ∧ plW gSH "shared" (Str.ofString "a number") = [] := by decide +kernel
theorem sh_44 : plW gSH "start" (wSg 44) = [] ∧ plW gSH "named" (wSg 44) = [] ∧ plW gSH "counted" (wSg 44) = ["start"] ∧ plW gSH "pointed" (wSg 44) = [] ∧ plW gSH "shared" (wSg 44) = ["start"] := by decide +kernel
theorem sh_46 : plW gSH "start" (wSg 46) = [] ∧ plW gSH "named" (wSg 46) = [] ∧ plW gSH "counted" (wSg 46) = ["pointed"] ∧ plW gSH "pointed" (wSg 46) = [] ∧ plW gSH "shared" (wSg 46) = [] := by decide +kernel
theorem sh_42 : plW gSH "start" (wSg 42) = [] ∧ plW gSH "named" (wSg 42) = [] ∧ plW gSH "counted" (wSg 42) = [] ∧ plW gSH "pointed" (wSg 42) = [] ∧ plW gSH "shared" (wSg 42) = [] := by decide +kernel
theorem sh_47 : plW gSH "start" (wSg 47) = [] ∧ plW gSH "named" (wSg 47) = [] ∧ plW gSH "counted" (wSg 47) = ["pointed"] ∧ plW gSH "pointed" (wSg 47) = [] ∧ plW gSH "shared" (wSg 47) = [] := by decide +kernel
theorem sh_end : plW gSH "start" (Str.ofString "the end") = [] ∧ plW gSH "named" (Str.ofString "the end") = [] ∧ plW gSH "counted" (Str.ofString "the end") = ["ended"] ∧ plW gSH "pointed" (Str.ofString "the end") = [] ∧ plW gSH "shared" (Str.ofString "the end") = ["ended"] := by decide +kernel
theorem as_nm : plW gAS "start" (Str.ofString "a name") = [] ∧ plW gAS "counted" (Str.ofString "a name") = [] ∧ plW gAS "repeated" (Str.ofString "a name") = [] := by decide +kernel
theorem as_nu : plW gAS "start" (Str.ofString "a number") = ["counted"] ∧ plW gAS "counted" (Str.ofString "a number") = ["counted"] ∧ plW gAS "repeated" (Str.ofString "a number") = ["start"] := by decide +kernel
theorem as_42 : plW gAS "start" (wSg 42) = [] ∧ plW gAS "counted" (wSg 42) = ["repeated"] ∧ plW gAS "repeated" (wSg 42) = [] := by decide +kernel
theorem as_sg : ∀ c ∈ [44, 46, 47], plW gAS "start" (wSg c) = [] ∧ plW gAS "counted" (wSg c) = [] ∧ plW gAS "repeated" (wSg c) = [] := by decide +kernel
theorem as_end : plW gAS "start" (Str.ofString "the end") = ["ended"] ∧ plW gAS "counted" (Str.ofString "the end") = ["ended"] ∧ plW gAS "repeated" (Str.ofString "the end") = [] := by decide +kernel
/-! rows of shares -/
def prtS (rows : List (List Tok9)) (t : Tok9) : List (List Tok9) := if t.2.1 = [44] then rows ++ [[]] else rows.set (rows.length - 1) (rows.getD (rows.length - 1) [] ++ [t])
def prt (ts : List Tok9) : List (List Tok9) := ts.foldl prtS [[]]
def QRow (r : List Tok9) : Prop := (∃ a, r = [a] ∧ NuT a) ∨ ∃ a s b, r = [a, s, b] ∧ NuT a ∧ NuT b ∧ (SgT 46 s ∨ SgT 47 s)
def ShRow (r : List Tok9) : Prop := ∃ n q, r = n :: q ∧ NmT n ∧ QRow q
def shpSH (p : String) (r : List Tok9) : Prop := (p = "start" ∧ r = []) ∨ (p = "named" ∧ ∃ n, r = [n] ∧ NmT n) ∨ (p = "counted" ∧ ∃ n a, r = [n, a] ∧ NmT n ∧ NuT a) ∨ (p = "pointed" ∧ ∃ n a s, r = [n, a, s] ∧ NmT n ∧ NuT a ∧ (SgT 46 s ∨ SgT 47 s)) ∨ (p = "shared" ∧ ∃ n a s b, r = [n, a, s, b] ∧ NmT n ∧ NuT a ∧ (SgT 46 s ∨ SgT 47 s) ∧ NuT b)
theorem set_last {R : List (List Tok9)} {r r' : List Tok9} : (R ++ [r]).set ((R ++ [r]).length - 1) r' = R ++ [r'] := by
  rw [List.length_append, List.set_append_right _ _ (by simp)]; simp
theorem getD_last {R : List (List Tok9)} {r : List Tok9} : (R ++ [r]).getD ((R ++ [r]).length - 1) [] = r := by
  rw [List.length_append, List.getD_eq_getElem?_getD, List.getElem?_append_right (by simp)]; simp
theorem prtS_app {R : List (List Tok9)} {r : List Tok9} {t : Tok9} (h : t.2.1 ≠ [44]) : prtS (R ++ [r]) t = R ++ [r ++ [t]] := by
  unfold prtS; rw [if_neg h, getD_last, set_last]
theorem prtS_new {R : List (List Tok9)} {t : Tok9} (h : t.2.1 = [44]) : prtS R t = R ++ [[]] := by unfold prtS; rw [if_pos h]
theorem no44n {t : Tok9} (h : NuT t) : t.2.1 ≠ [44] := fun e => by have := h.2.2.2.1 44 (by rw [e]; simp); omega
theorem no44m {t : Tok9} (h : NmT t) : t.2.1 ≠ [44] := fun e => (h.2.2.2 44 (by rw [e]; simp)).1 rfl
theorem plA_app (g : Gr) : ∀ (ts us : List Tok9) (p : String), plA g p (ts ++ us) = match plA g p ts with | .ok q => plA g q us | .error e => .error e
  | [], us, p => rfl
  | t :: ts, us, p => by
    show plA g p (t :: (ts ++ us)) = _
    rw [plA, plA]
    cases plB g p t with
    | nil => rfl
    | cons q r => exact plA_app g ts us q
theorem sh_inv : ∀ (ts : List Tok9) (p q : String) (R : List (List Tok9)) (r : List Tok9), shpSH p r → (∀ x ∈ R, ShRow x) → (∀ t ∈ ts, ScTk t) → plA gSH p ts = .ok q →
    ∃ R' r', ts.foldl prtS (R ++ [r]) = R' ++ [r'] ∧ shpSH q r' ∧ ∀ x ∈ R', ShRow x
  | [], p, q, R, r, hs, hR, ht, h => by cases h; exact ⟨R, r, rfl, hs, hR⟩
  | t :: ts, p, q, R, r, hs, hR, ht, h => by
    have h0 := ht t (by simp)
    have no : plB gSH p t = [] → False := fun e => by unfold plA at h; rw [e] at h; cases h
    have go : ∀ p' r', prtS (R ++ [r]) t = R ++ [r'] → plB gSH p t = [p'] → shpSH p' r' → ∃ R' r', (t :: ts).foldl prtS (R ++ [r]) = R' ++ [r'] ∧ shpSH q r' ∧ ∀ x ∈ R', ShRow x := fun p' r' e1 e2 s => by
      unfold plA at h
      rw [e2] at h
      rw [List.foldl_cons, e1]
      exact sh_inv ts p' q R r' s hR (fun u m => ht u (by simp [m])) h
    have new : t.2.1 = [44] → ShRow r → plB gSH p t = ["start"] → ∃ R' r', (t :: ts).foldl prtS (R ++ [r]) = R' ++ [r'] ∧ shpSH q r' ∧ ∀ x ∈ R', ShRow x := fun e1 e0 e2 => by
      unfold plA at h
      rw [e2] at h
      rw [List.foldl_cons, prtS_new e1]
      refine sh_inv ts "start" q (R ++ [r]) [] (.inl ⟨rfl, rfl⟩) (fun x m => ?_) (fun u m => ht u (by simp [m])) h
      rcases List.mem_append.mp m with m | m
      · exact hR x m
      · rw [List.mem_singleton.mp m]; exact e0
    rcases h0 with a | a | a | a | a | a
    · have e := wd_nm a
      rcases hs with ⟨rfl, s⟩ | ⟨rfl, s⟩ | ⟨rfl, s⟩ | ⟨rfl, s⟩ | ⟨rfl, s⟩
      · subst s; exact go "named" [t] (prtS_app (no44m a)) (by rw [plB_W, e]; exact sh_nm.1) (.inr (.inl ⟨rfl, t, rfl, a⟩))
      · exact (no (by rw [plB_W, e]; exact sh_nm.2.1)).elim
      · exact (no (by rw [plB_W, e]; exact sh_nm.2.2.1)).elim
      · exact (no (by rw [plB_W, e]; exact sh_nm.2.2.2.1)).elim
      · exact (no (by rw [plB_W, e]; exact sh_nm.2.2.2.2)).elim
    · have e := wd_nu a
      rcases hs with ⟨rfl, s⟩ | ⟨rfl, s⟩ | ⟨rfl, s⟩ | ⟨rfl, s⟩ | ⟨rfl, s⟩
      · exact (no (by rw [plB_W, e]; exact sh_nu.1)).elim
      · obtain ⟨n, rfl, hn⟩ := s
        exact go "counted" [n, t] (prtS_app (no44n a)) (by rw [plB_W, e]; exact sh_nu.2.1) (.inr (.inr (.inl ⟨rfl, n, t, rfl, hn, a⟩)))
      · exact (no (by rw [plB_W, e]; exact sh_nu.2.2.1)).elim
      · obtain ⟨n, m, s, rfl, hn, hm, hs⟩ := s
        exact go "shared" [n, m, s, t] (prtS_app (no44n a)) (by rw [plB_W, e]; exact sh_nu.2.2.2.1) (.inr (.inr (.inr (.inr ⟨rfl, n, m, s, t, rfl, hn, hm, hs, a⟩))))
      · exact (no (by rw [plB_W, e]; exact sh_nu.2.2.2.2)).elim
    · have e := wd_sg a
      rcases hs with ⟨rfl, s⟩ | ⟨rfl, s⟩ | ⟨rfl, s⟩ | ⟨rfl, s⟩ | ⟨rfl, s⟩
      · exact (no (by rw [plB_W, e]; exact sh_44.1)).elim
      · exact (no (by rw [plB_W, e]; exact sh_44.2.1)).elim
      · obtain ⟨n, m, rfl, hn, hm⟩ := s
        exact new a.2.1 ⟨n, [m], rfl, hn, .inl ⟨m, rfl, hm⟩⟩ (by rw [plB_W, e]; exact sh_44.2.2.1)
      · exact (no (by rw [plB_W, e]; exact sh_44.2.2.2.1)).elim
      · obtain ⟨n, m, s, b, rfl, hn, hm, hs, hb⟩ := s
        exact new a.2.1 ⟨n, [m, s, b], rfl, hn, .inr ⟨m, s, b, rfl, hm, hb, hs⟩⟩ (by rw [plB_W, e]; exact sh_44.2.2.2.2)
    · have e := wd_sg a
      rcases hs with ⟨rfl, s⟩ | ⟨rfl, s⟩ | ⟨rfl, s⟩ | ⟨rfl, s⟩ | ⟨rfl, s⟩
      · exact (no (by rw [plB_W, e]; exact sh_46.1)).elim
      · exact (no (by rw [plB_W, e]; exact sh_46.2.1)).elim
      · obtain ⟨n, m, rfl, hn, hm⟩ := s
        exact go "pointed" [n, m, t] (prtS_app (by rw [a.2.1]; decide)) (by rw [plB_W, e]; exact sh_46.2.2.1) (.inr (.inr (.inr (.inl ⟨rfl, n, m, t, rfl, hn, hm, .inl a⟩))))
      · exact (no (by rw [plB_W, e]; exact sh_46.2.2.2.1)).elim
      · exact (no (by rw [plB_W, e]; exact sh_46.2.2.2.2)).elim
    · have e := wd_sg a
      rcases hs with ⟨rfl, s⟩ | ⟨rfl, s⟩ | ⟨rfl, s⟩ | ⟨rfl, s⟩ | ⟨rfl, s⟩
      · exact (no (by rw [plB_W, e]; exact sh_42.1)).elim
      · exact (no (by rw [plB_W, e]; exact sh_42.2.1)).elim
      · exact (no (by rw [plB_W, e]; exact sh_42.2.2.1)).elim
      · exact (no (by rw [plB_W, e]; exact sh_42.2.2.2.1)).elim
      · exact (no (by rw [plB_W, e]; exact sh_42.2.2.2.2)).elim
    · have e := wd_sg a
      rcases hs with ⟨rfl, s⟩ | ⟨rfl, s⟩ | ⟨rfl, s⟩ | ⟨rfl, s⟩ | ⟨rfl, s⟩
      · exact (no (by rw [plB_W, e]; exact sh_47.1)).elim
      · exact (no (by rw [plB_W, e]; exact sh_47.2.1)).elim
      · obtain ⟨n, m, rfl, hn, hm⟩ := s
        exact go "pointed" [n, m, t] (prtS_app (by rw [a.2.1]; decide)) (by rw [plB_W, e]; exact sh_47.2.2.1) (.inr (.inr (.inr (.inl ⟨rfl, n, m, t, rfl, hn, hm, .inr a⟩))))
      · exact (no (by rw [plB_W, e]; exact sh_47.2.2.2.1)).elim
      · exact (no (by rw [plB_W, e]; exact sh_47.2.2.2.2)).elim
/-- what the shares' grammar lets has rows of shares -/
theorem sh_rowsT {ts : List Tok9} {e : Tok9} {q : String} (ht : ∀ t ∈ ts, ScTk t) (he : e.1 = "end") (h : plA gSH "start" (ts ++ [e]) = .ok q) : ∀ r ∈ prt ts, ShRow r := by
  rw [plA_app] at h
  cases hp : plA gSH "start" ts with
  | error x => rw [hp] at h; cases h
  | ok p =>
    rw [hp] at h
    obtain ⟨R, r, e1, s, hR⟩ := sh_inv ts "start" p [] [] (.inl ⟨rfl, rfl⟩) (fun _ m => nomatch m) ht hp
    have no : plB gSH p e = [] → False := fun e0 => by dsimp only at h; unfold plA at h; rw [e0] at h; cases h
    have w := wd_end he
    have hr : ShRow r := by
      rcases s with ⟨rfl, s⟩ | ⟨rfl, s⟩ | ⟨rfl, s⟩ | ⟨rfl, s⟩ | ⟨rfl, s⟩
      · exact (no (by rw [plB_W, w]; exact sh_end.1)).elim
      · exact (no (by rw [plB_W, w]; exact sh_end.2.1)).elim
      · obtain ⟨n, m, rfl, hn, hm⟩ := s
        exact ⟨n, [m], rfl, hn, .inl ⟨m, rfl, hm⟩⟩
      · exact (no (by rw [plB_W, w]; exact sh_end.2.2.2.1)).elim
      · obtain ⟨n, m, s, b, rfl, hn, hm, hs, hb⟩ := s
        exact ⟨n, [m, s, b], rfl, hn, .inr ⟨m, s, b, rfl, hm, hb, hs⟩⟩
    intro x hx
    have e2 : prt ts = R ++ [r] := e1
    rw [e2] at hx
    rcases List.mem_append.mp hx with m | m
    · exact hR x m
    · rw [List.mem_singleton.mp m]; exact hr
theorem prt_len : ∀ (ts : List Tok9) (R : List (List Tok9)), (ts.foldl prtS R).length ≤ R.length + ts.length
  | [], R => Nat.le_refl _
  | t :: ts, R => by
    have := prt_len ts (prtS R t)
    have : (prtS R t).length ≤ R.length + 1 := by unfold prtS; split <;> simp
    simp only [List.foldl_cons, List.length_cons]
    omega
/-! rows of runs -/
def lastT (R : List (List Tok9)) : List Nat := ((R.getD (R.length - 1) []).getD ((R.getD (R.length - 1) []).length - 1) ("", [], 0)).2.1
def prRn (R : List (List Tok9)) (t : Tok9) : List (List Tok9) := if R ≠ [] ∧ (t.2.1 = [42] ∨ lastT R = [42]) then R.set (R.length - 1) (R.getD (R.length - 1) [] ++ [t]) else R ++ [[t]]
def prn (ts : List Tok9) : List (List Tok9) := ts.foldl prRn []
def RnRow (r : List Tok9) : Prop := (∃ n, r = [n] ∧ NuT n) ∨ ∃ n s m, r = [n, s, m] ∧ NuT n ∧ SgT 42 s ∧ NuT m
def shpAS (p : String) (R : List (List Tok9)) : Prop := (p = "start" ∧ ∀ x ∈ R, RnRow x) ∨ (p = "counted" ∧ ∃ R' n, R = R' ++ [[n]] ∧ NuT n ∧ ∀ x ∈ R', RnRow x) ∨ (p = "repeated" ∧ ∃ R' n s, R = R' ++ [[n, s]] ∧ NuT n ∧ SgT 42 s ∧ ∀ x ∈ R', RnRow x)
theorem no42 {t : Tok9} (h : NuT t) : t.2.1 ≠ [42] := fun e => by have := h.2.2.2.1 42 (by rw [e]; simp); omega
theorem lastT_app (R : List (List Tok9)) (r : List Tok9) : lastT (R ++ [r]) = (r.getD (r.length - 1) ("", [], 0)).2.1 := by unfold lastT; rw [getD_last]
theorem prR_on {R : List (List Tok9)} {r : List Tok9} {t : Tok9} (h : t.2.1 = [42] ∨ lastT (R ++ [r]) = [42]) : prRn (R ++ [r]) t = R ++ [r ++ [t]] := by
  unfold prRn; rw [if_pos ⟨by simp, h⟩, getD_last, set_last]
theorem rn_last {R : List (List Tok9)} (h : ∀ x ∈ R, RnRow x) : R = [] ∨ lastT R ≠ [42] := by
  rcases List.eq_nil_or_concat R with e | ⟨R', r, rfl⟩
  · exact .inl e
  · rw [List.concat_eq_append] at h ⊢
    refine .inr ?_
    rw [lastT_app]
    rcases h r (by simp) with ⟨n, rfl, hn⟩ | ⟨n, s, m, rfl, hn, hs, hm⟩
    · exact no42 hn
    · exact no42 hm
theorem prR_new {R : List (List Tok9)} {t : Tok9} (h : t.2.1 ≠ [42]) (hl : R = [] ∨ lastT R ≠ [42]) : prRn R t = R ++ [[t]] := by
  unfold prRn
  rw [if_neg]
  rintro ⟨h1, h2⟩
  rcases hl with e | e
  · exact h1 e
  · rcases h2 with w | w
    · exact h w
    · exact e w
theorem as_inv : ∀ (ts : List Tok9) (p q : String) (R : List (List Tok9)), shpAS p R → (∀ t ∈ ts, ScTk t) → plA gAS p ts = .ok q → shpAS q (ts.foldl prRn R)
  | [], p, q, R, hs, ht, h => by cases h; exact hs
  | t :: ts, p, q, R, hs, ht, h => by
    have h0 := ht t (by simp)
    have no : plB gAS p t = [] → False := fun e => by unfold plA at h; rw [e] at h; cases h
    have go : ∀ p' R', prRn R t = R' → plB gAS p t = [p'] → shpAS p' R' → shpAS q ((t :: ts).foldl prRn R) := fun p' R' e1 e2 s => by
      unfold plA at h
      rw [e2] at h
      rw [List.foldl_cons, e1]
      exact as_inv ts p' q R' s (fun u m => ht u (by simp [m])) h
    have bad : ∀ c ∈ [44, 46, 47], SgT c t → False := fun c hc a => by
      have e := wd_sg a
      have z := as_sg c hc
      rcases hs with ⟨rfl, s⟩ | ⟨rfl, s⟩ | ⟨rfl, s⟩
      · exact no (by rw [plB_W, e]; exact z.1)
      · exact no (by rw [plB_W, e]; exact z.2.1)
      · exact no (by rw [plB_W, e]; exact z.2.2)
    rcases h0 with a | a | a | a | a | a
    · have e := wd_nm a
      rcases hs with ⟨rfl, s⟩ | ⟨rfl, s⟩ | ⟨rfl, s⟩
      · exact (no (by rw [plB_W, e]; exact as_nm.1)).elim
      · exact (no (by rw [plB_W, e]; exact as_nm.2.1)).elim
      · exact (no (by rw [plB_W, e]; exact as_nm.2.2)).elim
    · have e := wd_nu a
      rcases hs with ⟨rfl, s⟩ | ⟨rfl, s⟩ | ⟨rfl, s⟩
      · exact go "counted" _ (prR_new (no42 a) (rn_last s)) (by rw [plB_W, e]; exact as_nu.1) (.inr (.inl ⟨rfl, R, t, rfl, a, s⟩))
      · obtain ⟨R', n, rfl, hn, hR⟩ := s
        have hR2 : ∀ x ∈ R' ++ [[n]], RnRow x := fun x m => by
          rcases List.mem_append.mp m with m | m
          · exact hR x m
          · rw [List.mem_singleton.mp m]; exact .inl ⟨n, rfl, hn⟩
        exact go "counted" _ (prR_new (no42 a) (rn_last hR2)) (by rw [plB_W, e]; exact as_nu.2.1) (.inr (.inl ⟨rfl, _, t, rfl, a, hR2⟩))
      · obtain ⟨R', n, s, rfl, hn, hs, hR⟩ := s
        refine go "start" _ (prR_on (.inr (by rw [lastT_app]; exact hs.2.1))) (by rw [plB_W, e]; exact as_nu.2.2) (.inl ⟨rfl, fun x m => ?_⟩)
        rcases List.mem_append.mp m with m | m
        · exact hR x m
        · rw [List.mem_singleton.mp m]; exact .inr ⟨n, s, t, rfl, hn, hs, a⟩
    · exact (bad 44 (by simp) a).elim
    · exact (bad 46 (by simp) a).elim
    · have e := wd_sg a
      rcases hs with ⟨rfl, s⟩ | ⟨rfl, s⟩ | ⟨rfl, s⟩
      · exact (no (by rw [plB_W, e]; exact as_42.1)).elim
      · obtain ⟨R', n, rfl, hn, hR⟩ := s
        exact go "repeated" _ (prR_on (.inl a.2.1)) (by rw [plB_W, e]; exact as_42.2.1) (.inr (.inr ⟨rfl, R', n, t, rfl, hn, a, hR⟩))
      · exact (no (by rw [plB_W, e]; exact as_42.2.2)).elim
    · exact (bad 47 (by simp) a).elim
theorem as_rows {ts : List Tok9} {e : Tok9} {q : String} (ht : ∀ t ∈ ts, ScTk t) (he : e.1 = "end") (h : plA gAS "start" (ts ++ [e]) = .ok q) : ∀ r ∈ prn ts, RnRow r := by
  rw [plA_app] at h
  cases hp : plA gAS "start" ts with
  | error x => rw [hp] at h; cases h
  | ok p =>
    rw [hp] at h
    have s := as_inv ts "start" p [] (.inl ⟨rfl, fun _ m => nomatch m⟩) ht hp
    have no : plB gAS p e = [] → False := fun e0 => by dsimp only at h; unfold plA at h; rw [e0] at h; cases h
    have w := wd_end he
    rcases s with ⟨rfl, s⟩ | ⟨rfl, s⟩ | ⟨rfl, s⟩
    · exact s
    · obtain ⟨R', n, e1, hn, hR⟩ := s
      intro x hx
      have e2 : prn ts = R' ++ [[n]] := e1
      rw [e2] at hx
      rcases List.mem_append.mp hx with m | m
      · exact hR x m
      · rw [List.mem_singleton.mp m]; exact .inl ⟨n, rfl, hn⟩
    · exact (no (by rw [plB_W, w]; exact as_end.2.2)).elim
theorem prn_len : ∀ (ts : List Tok9) (R : List (List Tok9)), (ts.foldl prRn R).length ≤ R.length + ts.length
  | [], R => Nat.le_refl _
  | t :: ts, R => by
    have := prn_len ts (prRn R t)
    have : (prRn R t).length ≤ R.length + 1 := by unfold prRn; split <;> simp
    simp only [List.foldl_cons, List.length_cons]
    omega
/-! what is read -/
abbrev vlN (r : List Nat) : Nat := NumText.digitsVal r
def lj2 (r : List Nat) : List Nat := r ++ List.replicate (2 - r.length) 48
def qO : List Tok9 → Except (Nat × String) (Nat × Nat)
  | [a] => .ok (vlN a.2.1, 100)
  | a :: s :: b :: _ => if s.2.1 = [47] then (if 1 ≤ vlN b.2.1 ∧ vlN b.2.1 ≤ 10000 then .ok (vlN a.2.1, vlN b.2.1) else .error (b.2.2, "a denominator is from 1 to 10000"))
    else if 2 < b.2.1.length then .error (b.2.2, "at most two digits stand behind the point") else .ok (100 * vlN a.2.1 + vlN (lj2 b.2.1), 10000)
  | _ => .ok (0, 1)
def shO (r : List Tok9) : Except (Nat × String) (Nat × Nat) := match qO r with
  | .error e => .error e
  | .ok q => if q.2 < q.1 then .error ((r.headD ("", [], 0)).2.2, "a share is at most the whole") else .ok (q.1 / Nat.gcd q.1 q.2, q.2 / Nat.gcd q.1 q.2)
abbrev Shs := List (List Nat × (Nat × Nat))
def rdR : List (List Nat) → List (List Tok9) → Except (Nat × String) Shs
  | _, [] => .ok []
  | kn, r :: rs => match r with
    | [] => .ok []
    | n :: rest => if kn.length = 5 then .error (n.2.2, "there are at most 5 variants") else if n.2.1 ∈ kn then .error (n.2.2, "this name stands already")
      else match shO rest with
        | .error e => .error e
        | .ok q => match rdR (kn ++ [n.2.1]) rs with
          | .error e => .error e
          | .ok ps => .ok ((n.2.1, q) :: ps)
def lcmL (qs : List (Nat × Nat)) : Nat := qs.foldl (fun c q => Nat.lcm c q.2) 1
def wgtL (qs : List (Nat × Nat)) : List Nat := qs.map fun q => q.1 * (lcmL qs / q.2)
def whoB (qs : List (Nat × Nat)) : Bool := decide ((wgtL qs).sum = lcmL qs)
def endT (z : Str) : Tok9 := ("end", [], z.length + 1)
def rdS (z : Str) : Except (Nat × String) Shs := match scn (sgL z) z.length 0 with
  | .error e => .error e
  | .ok ts => match plA gSH "start" (ts ++ [endT z]) with
    | .error e => .error e
    | .ok _ => match rdR [] (prt ts) with
      | .error e => .error e
      | .ok ps => if whoB (ps.map (·.2)) = true then .ok ps else .error (z.length + 1, "the total is not the whole")
def rnO (v : Nat) (r : List Tok9) : Except (Nat × String) (Nat × Nat) :=
  if v ≤ vlN (r.headD ("", [], 0)).2.1 then .error ((r.headD ("", [], 0)).2.2, "there is no such variant")
  else if r.length = 1 then .ok (vlN (r.headD ("", [], 0)).2.1, 1)
  else if vlN (r.getD 2 ("", [], 0)).2.1 = 0 then .error ((r.getD 2 ("", [], 0)).2.2, "a run has at least one bucket")
  else .ok (vlN (r.headD ("", [], 0)).2.1, vlN (r.getD 2 ("", [], 0)).2.1)
def rdF (v : Nat) : List Nat → List (List Tok9) → Except (Nat × String) (List Nat)
  | f, [] => .ok f
  | f, r :: rs => match rnO v r with
    | .error e => .error e
    | .ok q => if 20 < f.length + q.2 then .error ((r.headD ("", [], 0)).2.2, "there are at most 20 buckets") else rdF v (f ++ List.replicate q.2 q.1) rs
def rdA (z : Str) (v : Nat) : Except (Nat × String) (List Nat) := match scn (sgL z) z.length 0 with
  | .error e => .error e
  | .ok ts => match plA gAS "start" (ts ++ [endT z]) with
    | .error e => .error e
    | .ok _ => rdF v [] (prn ts)
def nxT (g : Gr) (z : Str) : Except (Nat × String) (List String) := match scn (sgL z) z.length 0 with
  | .error e => .error e
  | .ok ts => match plA g "start" ts with
    | .error e => .error e
    | .ok p => .ok (wAt g p)
end Lm


/-! promises of what reads texts (k92 to k95) -/
namespace Lm
open PySem PySem.Spec PyProof.Rows L2
def rowsD (R : List (List Tok9)) : PyData := .list (R.map fun r => .list (r.map tokD))
def qD (q : Nat × Nat) : PyData := .tuple [.int (q.1 : Int), .int (q.2 : Int)]
def nmD (r : List Nat) : PyData := .str (strN r)
def shsD (ps : Shs) : PyData := .tuple (ps.map fun p => .tuple [nmD p.1, qD p.2])
def QsOk (qs : List (Nat × Nat)) : Prop := qs.length ≤ 5 ∧ ∀ q ∈ qs, q.1 ≤ 10000 ∧ 1 ≤ q.2 ∧ q.2 ≤ 10000
def sp_parted_at_commas (K : PySem.W.Frag) : Sp := spD K fun ds k d => ∃ ts : List Tok9, ds = [.list (ts.map tokD)] ∧ ts.length ≤ 1000 ∧ k = .o ∧ d = rowsD (prt ts)
def sp_check_share_name (K : PySem.W.Frag) : Sp := spD K fun ds k d => ∃ (t : Tok9) (kn : List (List Nat)), ds = [tokD t, .list (kn.map nmD)] ∧ NmT t ∧ kn.length < 5 ∧ (∀ r ∈ kn, Asc r) ∧ t.2.1 ∉ kn ∧ k = .v ∧ d = .none
def RtCn (ds : List PyData) (cw : Nat × String) : Prop := ∃ (t : Tok9) (kn : List (List Nat)), ds = [tokD t, .list (kn.map nmD)] ∧ NmT t ∧ kn.length ≤ 5 ∧ (∀ r ∈ kn, Asc r) ∧ ((kn.length = 5 ∧ cw = (t.2.2, "there are at most 5 variants")) ∨ (kn.length < 5 ∧ t.2.1 ∈ kn ∧ cw = (t.2.2, "this name stands already")))
theorem RtCn_len {ds cw} (h : RtCn ds cw) : ds.length = 2 := by obtain ⟨t, kn, rfl, _⟩ := h; rfl
def sp_quotient_of (K : PySem.W.Frag) : Sp := spD K fun ds k d => ∃ (r : List Tok9) (q : Nat × Nat), ds = [.list (r.map tokD)] ∧ QRow r ∧ qO r = .ok q ∧ k = .v ∧ d = qD q
def RtQu (ds : List PyData) (cw : Nat × String) : Prop := ∃ r : List Tok9, ds = [.list (r.map tokD)] ∧ QRow r ∧ qO r = .error cw
theorem RtQu_len {ds cw} (h : RtQu ds cw) : ds.length = 1 := by obtain ⟨r, rfl, _⟩ := h; rfl
def sp_share_of (K : PySem.W.Frag) : Sp := spD K fun ds k d => ∃ (r : List Tok9) (q : Nat × Nat), ds = [.list (r.map tokD)] ∧ QRow r ∧ shO r = .ok q ∧ k = .v ∧ d = qD q
def RtSh (ds : List PyData) (cw : Nat × String) : Prop := ∃ r : List Tok9, ds = [.list (r.map tokD)] ∧ QRow r ∧ shO r = .error cw
theorem RtSh_len {ds cw} (h : RtSh ds cw) : ds.length = 1 := by obtain ⟨r, rfl, _⟩ := h; rfl
def sp_common_divisor_of (K : PySem.W.Frag) : Sp := spD K fun ds k d => ∃ qs : List (Nat × Nat), ds = [.list (qs.map qD)] ∧ QsOk qs ∧ k = .v ∧ d = .int (lcmL qs : Nat)
def sp_weights_of (K : PySem.W.Frag) : Sp := spD K fun ds k d => ∃ qs : List (Nat × Nat), ds = [.list (qs.map qD)] ∧ QsOk qs ∧ k = .v ∧ d = tupD ((wgtL qs).map fun n : Nat => (n : Int))
def sp_are_the_whole (K : PySem.W.Frag) : Sp := spD K fun ds k d => ∃ qs : List (Nat × Nat), ds = [.list (qs.map qD)] ∧ QsOk qs ∧ k = .v ∧ d = .bool (whoB qs)
def sp_read_shares (K : PySem.W.Frag) : Sp := spD K fun ds k d => ∃ (z : Str) (ps : Shs), ds = [.str z] ∧ txtB (.str z) = true ∧ rdS z = .ok ps ∧ k = .v ∧ d = shsD ps
def RtRs (ds : List PyData) (cw : Nat × String) : Prop := ∃ z : Str, ds = [.str z] ∧ txtB (.str z) = true ∧ rdS z = .error cw
theorem RtRs_len {ds cw} (h : RtRs ds cw) : ds.length = 1 := by obtain ⟨z, rfl, _⟩ := h; rfl
def sp_parted_in_runs (K : PySem.W.Frag) : Sp := spD K fun ds k d => ∃ ts : List Tok9, ds = [.list (ts.map tokD)] ∧ ts.length ≤ 1000 ∧ k = .o ∧ d = rowsD (prn ts)
def sp_run_of (K : PySem.W.Frag) : Sp := spD K fun ds k d => ∃ (r : List Tok9) (v : Nat) (q : Nat × Nat), ds = [.list (r.map tokD), .int (v : Int)] ∧ RnRow r ∧ rnO v r = .ok q ∧ k = .v ∧ d = qD q
def RtRn (ds : List PyData) (cw : Nat × String) : Prop := ∃ (r : List Tok9) (v : Nat), ds = [.list (r.map tokD), .int (v : Int)] ∧ RnRow r ∧ rnO v r = .error cw
theorem RtRn_len {ds cw} (h : RtRn ds cw) : ds.length = 2 := by obtain ⟨r, v, rfl, _⟩ := h; rfl
def sp_read_assignment (K : PySem.W.Frag) : Sp := spD K fun ds k d => ∃ (z : Str) (v : Nat) (as : List Nat), ds = [.str z, .int (v : Int)] ∧ txtB (.str z) = true ∧ 1 ≤ v ∧ v ≤ 5 ∧ rdA z v = .ok as ∧ k = .v ∧ d = tupD (as.map fun n : Nat => (n : Int))
def RtRa (ds : List PyData) (cw : Nat × String) : Prop := ∃ (z : Str) (v : Nat), ds = [.str z, .int (v : Int)] ∧ txtB (.str z) = true ∧ 1 ≤ v ∧ v ≤ 5 ∧ rdA z v = .error cw
theorem RtRa_len {ds cw} (h : RtRa ds cw) : ds.length = 2 := by obtain ⟨z, v, rfl, _⟩ := h; rfl
def RcRa (ds : List PyData) (nm : Str) : Prop := ∃ x y, ds = [x, y] ∧ (∀ z : Str, x = .str z → z.length ≤ 100000) ∧ ((txtB x = false ∧ nm = "text") ∨ (txtB x = true ∧ isIntD y 1 5 = false ∧ nm = "variants"))
theorem RcRa_len {ds nm} (h : RcRa ds nm) : ds.length = 2 := by obtain ⟨x, y, rfl, _⟩ := h; rfl
/-- the grammar of a kind -/
def kndG (kd : String) (g : Gr) : Prop := (kd = "shares" ∧ g = gSH) ∨ (kd = "assignment" ∧ g = gAS)
def kndB (y : PyData) : Bool := [PyData.str (Str.ofString "shares"), .str (Str.ofString "assignment")].any fun z => PyData.eqv z y
def sp_next_tokens (K : PySem.W.Frag) : Sp := spD K fun ds k d => ∃ (z : Str) (kd : String) (g : Gr) (ws : List String), ds = [.str z, .str (Str.ofString kd)] ∧ kndG kd g ∧ txtB (.str z) = true ∧ nxT g z = .ok ws ∧ k = .o ∧ d = .list (strL ws)
def RtNx (ds : List PyData) (cw : Nat × String) : Prop := ∃ (z : Str) (kd : String) (g : Gr), ds = [.str z, .str (Str.ofString kd)] ∧ kndG kd g ∧ txtB (.str z) = true ∧ nxT g z = .error cw
theorem RtNx_len {ds cw} (h : RtNx ds cw) : ds.length = 2 := by obtain ⟨z, kd, g, rfl, _⟩ := h; rfl
def RcNx (ds : List PyData) (nm : Str) : Prop := ∃ x y, ds = [x, y] ∧ (∀ z : Str, x = .str z → z.length ≤ 100000) ∧ SeqAt.shaped y = true ∧ ((txtB x = false ∧ nm = "text") ∨ (txtB x = true ∧ kndB y = false ∧ nm = "kind"))
theorem RcNx_len {ds nm} (h : RcNx ds nm) : ds.length = 2 := by obtain ⟨x, y, rfl, _⟩ := h; rfl
section
variable {c : Ct} {H0 : Hp} {Γ : List (Option Rs)} {te : TE} {k : Kd}
theorem x_unp {n : Nat} {gs : TGs} {u : TS} {ds : List PyData} {Γ' : List (Option Rs)} {js : List Nat} (h : Ev c te Γ k (.tuple ds)) (hf : flatAll ds = true) (hn : ds.length = n) (hg : EvGs c gs (ds.map Im.d) Γ Γ' js) (p : SdX c H0 u Γ') : SdX c H0 (tSeq (tAsg te (gTupA c.K n gs)) u) Γ := fun O H σ D e =>
  h H0 O H σ e _ fun v H2 r rs => by
    have e2 := e.on r
    obtain ⟨a, xs, rfl, sl, al⟩ := (Res.bo e rs).tup'
    exact ⟨a, xs, rfl, .inl sl.sq, al.len.trans hn, hg H0 O H2 σ H2 false xs e2 e2.jH Rr.rf (fun z => nomatch z) (.ofFlat hf al) _ fun σ' e' _ => p O H2 σ' D e'⟩
end

section
variable {c : Ct} {H0 : Hp} {Γ : List (Option Rs)} {te ta tb : TE} {k ka kb : Kd} {a b : Str} {t : TS} {P : Out → Prop}
theorem dec_str {a b : Str} : decide (V.str a = V.str b) = decide (a = b) := by
  by_cases h : a = b
  · subst h; simp
  · rw [decide_eq_false h]; exact decide_eq_false fun w => h (by cases w; rfl)
theorem e_eqSS (ha : Ev c ta Γ ka (.str a)) (hb : Ev c tb Γ kb (.str b)) : Ev c (tOp (rEqA c.K) ta tb) Γ .v (.bool (decide (a = b))) := e_eqS (v := .str a) (w := .str b) ha hb rfl rfl rfl dec_str
theorem t_eqSS (ha : Ev c ta Γ ka (.str a)) (hb : Ev c tb Γ kb (.str b)) : EvT c (tTest (tOp (rEqA c.K) ta tb)) Γ (decide (a = b)) := t_test (e_eqSS ha hb)
theorem s_wk (m : Nat) (h : Sd c t (Γ.set m none) P) : Sd c t Γ P := fun H0 O H σ D e s => h H0 O H σ D e.forget s
end
theorem strN_inj {A B : List Nat} (h : strN A = strN B) : A = B := by rw [← sg_strN A, ← sg_strN B, h]
theorem strN_1 {L : List Nat} {s : String} {n : Nat} (e : Str.ofString s = strN [n]) : decide (strN L = Str.ofString s) = decide (L = [n]) := by
  rw [e]
  by_cases h : L = [n]
  · rw [h]; simp
  · rw [decide_eq_false h]; exact decide_eq_false fun w => h (strN_inj w)
theorem c44 : Str.ofString "," = strN [44] := by decide +kernel
theorem c42 : Str.ofString "*" = strN [42] := by decide +kernel
theorem c47 : Str.ofString "/" = strN [47] := by decide +kernel
/-! lengths of what is expected -/
theorem joinC_len : ∀ ws : List String, (∀ w ∈ ws, (Str.ofString w).length ≤ 20) → (Str.ofString (joinC ws)).length ≤ 22 * ws.length
  | [], _ => by show (Str.ofString "").length ≤ _; decide
  | [w], h => by have := h w (by simp); show (Str.ofString w).length ≤ _; simp; omega
  | w :: v :: ws, h => by
    have h1 := h w (by simp)
    have h2 := joinC_len (v :: ws) fun x m => h x (by simp [m])
    show (Str.ofString (w ++ ", " ++ joinC (v :: ws))).length ≤ _
    rw [ofS_app, ofS_app, PySem.Str.length_append, PySem.Str.length_append]
    have h3 : (Str.ofString ", ").length = 2 := by decide +kernel
    simp only [List.length_cons] at h2 ⊢
    omega
theorem eiS_len {ws : List String} (h : ∀ w ∈ ws, (Str.ofString w).length ≤ 20) : (Str.ofString (eiS ws)).length ≤ 22 * ws.length + 30 := by
  unfold eiS
  split
  · next w => have := h w (by simp); omega
  · rw [ofS_app, ofS_app, PySem.Str.length_append, PySem.Str.length_append]
    have h1 := joinC_len ws.dropLast fun w m => h w (List.dropLast_subset _ m)
    have h2 : (Str.ofString " or ").length = 4 := by decide +kernel
    have h3 : (Str.ofString (ws.getLastD "")).length ≤ 20 := by
      cases ws with
      | nil => show (Str.ofString "").length ≤ _; decide
      | cons w ws =>
        refine h _ ?_
        rw [List.getLastD_eq_getLast?, List.getLast?_eq_some_getLast (by simp)]
        exact List.getLast_mem (by simp)
    rw [List.length_dropLast] at h1
    omega
theorem wAt_mem {g : Gr} {p w : String} (h : w ∈ wAt g p) : ∃ e ∈ g, e.2.1 = w := by
  unfold wAt at h
  obtain ⟨e, m, rfl⟩ := List.mem_map.mp h
  exact ⟨e, (List.mem_filter.mp m).1, rfl⟩
theorem wAt_le {g : Gr} (p : String) (hg : GrOk g) : (wAt g p).length ≤ 9 := by
  unfold wAt
  rw [List.length_map]
  refine Nat.le_trans (List.length_filter_le _ _) ?_
  rcases hg with rfl | rfl <;> decide
theorem gr_le {g : Gr} (hg : GrOk g) : g.length ≤ 9 := by rcases hg with rfl | rfl <;> decide
theorem gr_words {g : Gr} (hg : GrOk g) : ∀ e ∈ g, (Str.ofString e.2.1).length ≤ 20 := by rcases hg with rfl | rfl <;> decide +kernel
theorem wAt_words {g : Gr} {p : String} (hg : GrOk g) : ∀ w ∈ wAt g p, (Str.ofString w).length ≤ 20 := fun w m => by
  obtain ⟨e, me, rfl⟩ := wAt_mem m
  exact gr_words hg e me
theorem exp_len {g : Gr} (p : String) (hg : GrOk g) : (Str.ofString ("expected " ++ eiS (wAt g p))).length ≤ 300 := by
  rw [ofS_app, PySem.Str.length_append]
  have h1 := eiS_len (wAt_words (p := p) hg)
  have h2 := wAt_le p hg
  have h3 : (Str.ofString "expected ").length = 9 := by decide +kernel
  omega
/-! where a grammar goes on -/
theorem wd_ne_end {t : Tok9} (h : TkOk t) (hn : t.1 ≠ "end") : wordS t ≠ Str.ofString "the end" := by
  unfold wordS
  rcases h.1 with e | e | e | e
  · rw [e, if_neg (by decide), if_neg (by decide)]; decide +kernel
  · rw [e, if_neg (by decide), if_neg (by decide)]; decide +kernel
  · rw [e, if_pos rfl]
    intro w
    have := congrArg (fun z => (sgL z).head?) w
    simp only [sg_app] at this
    revert this
    rw [show sgL (Str.ofString "\"") = [34] by decide +kernel, show sgL (Str.ofString "the end") = [116, 104, 101, 32, 101, 110, 100] by decide +kernel]
    simp
  · exact absurd e hn
theorem gr_on {g : Gr} (hg : GrOk g) : ∀ e ∈ g, wAt g e.2.2 ≠ [] ∨ e.2.1 = "the end" := by rcases hg with rfl | rfl <;> decide +kernel
theorem pl_next {g : Gr} {p q : String} {r : List String} {t : Tok9} (hg : GrOk g) (h : plB g p t = q :: r) (ht : TkOk t) (hn : t.1 ≠ "end") : wAt g q ≠ [] := by
  have m : q ∈ plB g p t := by rw [h]; simp
  unfold plB at m
  obtain ⟨e, me, rfl⟩ := List.mem_map.mp m
  obtain ⟨m1, m2⟩ := List.mem_filter.mp me
  rw [Bool.and_eq_true, decide_eq_true_eq, decide_eq_true_eq] at m2
  rcases gr_on hg e m1 with w | w
  · exact w
  · rw [w] at m2
    exact absurd m2.2.symm (wd_ne_end ht hn)
theorem gr_start {g : Gr} (hg : GrOk g) : wAt g "start" ≠ [] := by rcases hg with rfl | rfl <;> decide +kernel
/-! numbers -/
theorem lcm_fold : ∀ (qs : List (Nat × Nat)) (c : Nat), (∀ q ∈ qs, q.2 ≤ 10000) → qs.foldl (fun c q => Nat.lcm c q.2) c ≤ c * 10000 ^ qs.length
  | [], c, _ => by simp
  | q :: qs, c, h => by
    have h1 := lcm_fold qs (Nat.lcm c q.2) fun x m => h x (by simp [m])
    have h2 : Nat.lcm c q.2 ≤ c * q.2 := Nat.div_le_self _ _
    have h3 := h q (by simp)
    simp only [List.foldl_cons, List.length_cons]
    refine Nat.le_trans h1 ?_
    rw [Nat.pow_succ, Nat.mul_comm (10000 ^ qs.length), ← Nat.mul_assoc]
    exact Nat.mul_le_mul_right _ (Nat.le_trans h2 (Nat.mul_le_mul_left _ h3))
theorem lcm_sm {qs : List (Nat × Nat)} {n : Nat} (h : QsOk qs) (hn : n < qs.length) : lcmL (qs.take n) < 2 ^ 64 := by
  have h1 := lcm_fold (qs.take n) 1 fun q m => (h.2 q (List.mem_of_mem_take m)).2.2
  have h2 : (qs.take n).length ≤ 4 := by rw [List.length_take]; have := h.1; omega
  have h3 : 10000 ^ (qs.take n).length ≤ 10000 ^ 4 := Nat.pow_le_pow_right (by decide) h2
  have : lcmL (qs.take n) ≤ 10000 ^ 4 := by unfold lcmL; omega
  omega
section
variable {K : PySem.W.Frag} {C CT : Addr} {H0 : Hp} {Γ : List (Option Rs)} {ta : TA} {k : Kd} {d : PyData} {ds : List PyData} {R : List PyData → Str → Prop} {R2 : List PyData → Nat × String → Prop} {sp : Sp} {E : XK} {nm : Str} {pre : Pre}
theorem x_ref2 (ha : EvA (pc K) ta Γ false ds) (hr : R ds nm) (hE : ∀ dx H1, Same H0 H1 → H1 dx = some (.xd [("name", .str nm)]) → E (.ref C) (some dx) H1) : EvRz (pc K) H0 (tCall (spDT K CT (spDR K C sp R) R2) [] E ta) Γ := fun O H σ Q e =>
  ha H0 O H σ e _ fun vs H1 r s => .inl (.inr ⟨ds, nm, by rw [List.append_nil]; exact s, hr, fun dx H2 sm z => hE dx H2 (same_of e r sm) z⟩)
theorem x_good2 (h : EvA (pc K) ta Γ false ds) (hp : pre ds k d) : Ev (pc K) (tCall (spDT K CT (spDR K C (spD K pre) R) R2) [] E ta) Γ k d := fun H0 O H σ e Q q =>
  h H0 O H σ e _ fun vs H1 r s => by
    refine .inl (.inl ⟨ds, k, d, by rw [List.append_nil]; exact s.pure, hp, fun v H2 sm rt => q v H2 (r.tr (Rr.same sm)) ?_⟩)
    have r2 : Rr (pc K) H H2 := r.tr (Rr.same sm)
    cases k with
    | v => exact (Bo.flat (c := pc K) (c' := pc K) rfl rt.1 rt.2).flatM e r2 rt.1
    | o => exact rt.elim fun fp z => ⟨fp, z.1, z.2.1, fun a ha => r.back e.jH (z.2.2 a ha)⟩
    | b => exact rt.1.elim fun _ e => nomatch e
end
end Lm


/-! small things for the readings of what reads texts (k92 to k95) -/
namespace Lm
open PySem PySem.Spec PyProof.Rows L2
theorem tok_at {ts : List Tok9} {n : Nat} {a : Im} (h : ((ts.map tokD).map Im.d)[n]? = some a) : ∃ t, ts[n]? = some t ∧ a = Im.d (tokD t) := by
  rw [List.map_map, List.getElem?_map] at h
  obtain ⟨t, ht, e⟩ := Option.map_eq_some_iff.mp h
  exact ⟨t, ht, e.symm⟩
theorem atI_end {α : Type} {l : List α} {x : α} : atI (l ++ [x]) (-1) = some x := by
  unfold atI
  have : ixN (l ++ [x]).length (-1) = some l.length := by
    unfold ixN
    rw [if_neg (by decide), if_pos (by simp; omega)]
    congr 1
    simp
    omega
  rw [this]
  simp
theorem atI_zero {α : Type} {l : List α} {x : α} : atI (x :: l) 0 = some x := by
  have h := atI_nat (j := 0) (show (x :: l)[0]? = some x from rfl)
  exact h
theorem ixN_last {n : Nat} (h : 0 < n) : ixN n (-1) = some (n - 1) := by
  unfold ixN
  rw [if_neg (by decide), if_pos (by omega)]
  congr 1
  omega
theorem flatNms : ∀ kn : List (List Nat), flatAll (kn.map nmD) = true
  | [] => rfl
  | x :: kn => by show (true && flatAll (kn.map nmD)) = true; rw [flatNms kn]; rfl
theorem flatQs : ∀ qs : List (Nat × Nat), flatAll (qs.map qD) = true
  | [] => rfl
  | x :: qs => by show (flatD (qD x) && flatAll (qs.map qD)) = true; rw [flatQs qs]; rfl
theorem str_asc {r : List Nat} (h : Asc r) : PyData.strOk (strN r) = true := by
  unfold PyData.strOk strN
  simp only [List.all_toArray, List.all_eq_true, decide_eq_true_eq]
  intro c m
  exact Nat.lt_trans (h c m).2 (by decide)
theorem sh_nmD {n : Nat} {r : List Nat} (h : Asc r) : Sh n (nmD r) := ⟨str_asc h, by simp [PyData.depth, nmD]⟩
theorem shaped_nm {r : List Nat} (h : Asc r) : SeqAt.shaped (nmD r) = true := (sh_nmD (n := 0) h).ok (by decide)
theorem shaped_nms {kn : List (List Nat)} (h : ∀ r ∈ kn, Asc r) : SeqAt.shaped (.tuple (kn.map nmD)) = true := (sh_tup (n := 0) (ds := kn.map nmD) (fun d m => by
  obtain ⟨r, mr, rfl⟩ := List.mem_map.mp m
  exact sh_nmD (h r mr))).ok (by decide)
theorem in_nms {kn : List (List Nat)} {r : List Nat} : ((kn.map nmD).any fun z => PyData.eqv z (nmD r)) = decide (r ∈ kn) := by
  induction kn with
  | nil => rfl
  | cons x kn ih =>
    rw [List.map_cons, List.any_cons, ih]
    have e : PyData.eqv (nmD x) (nmD r) = decide (x = r) := by
      have h := eqv_pl (x := nmD x) (y := nmD r) rfl rfl
      by_cases q : x = r
      · rw [decide_eq_true q]; exact h.mpr (by rw [q])
      · rw [decide_eq_false q]
        cases w : PyData.eqv (nmD x) (nmD r) with
        | false => rfl
        | true => exact absurd (strN_inj (PyData.str.inj (h.mp w))) q
    rw [e, Bool.eq_iff_iff, Bool.or_eq_true, decide_eq_true_eq, decide_eq_true_eq, decide_eq_true_eq, List.mem_cons]
    exact ⟨fun h => h.imp Eq.symm id, fun h => h.imp Eq.symm id⟩
/-! ranges of shares -/
theorem val_le : ∀ (l : List Nat) (a : Nat), NumText.AllDigits l → l.foldl (fun a c => a * 10 + (c - 48)) a ≤ a * 10 ^ l.length + (10 ^ l.length - 1)
  | [], a, _ => by simp
  | c :: l, a, h => by
    have h1 := val_le l (a * 10 + (c - 48)) fun x m => h x (by simp [m])
    have h2 := h c (by simp)
    simp only [List.foldl_cons, List.length_cons, Nat.pow_succ]
    have h3 : (a * 10 + (c - 48)) * 10 ^ l.length ≤ (a * 10 + 9) * 10 ^ l.length := Nat.mul_le_mul_right _ (by omega)
    have h4 : 0 < 10 ^ l.length := Nat.pow_pos (by decide)
    have h5 : (a * 10 + 9) * 10 ^ l.length = a * (10 ^ l.length * 10) + 9 * 10 ^ l.length := by rw [Nat.add_mul, Nat.mul_assoc, Nat.mul_comm 10]
    omega
theorem NuT.val {t : Tok9} (h : NuT t) : vlN t.2.1 ≤ 999999 := by
  have h1 := val_le t.2.1 0 h.2.2.2.1
  have h2 : 10 ^ t.2.1.length ≤ 10 ^ 6 := Nat.pow_le_pow_right (by decide) h.2.2.1
  have h3 : (10 : Nat) ^ 6 = 1000000 := by decide
  show t.2.1.foldl (fun a c => a * 10 + (c - 48)) 0 ≤ _
  omega
theorem lj2_dig {r : List Nat} (h : NumText.AllDigits r) : NumText.AllDigits (lj2 r) := fun c m => by
  rcases List.mem_append.mp m with w | w
  · exact h c w
  · have := List.eq_of_mem_replicate w; omega
theorem lj2_val {r : List Nat} (h : NumText.AllDigits r) (hl : r.length ≤ 2) : vlN (lj2 r) ≤ 99 := by
  have h1 := val_le (lj2 r) 0 (lj2_dig h)
  have h2 : (lj2 r).length = 2 := by unfold lj2; rw [List.length_append, List.length_replicate]; omega
  rw [h2] at h1
  show (lj2 r).foldl (fun a c => a * 10 + (c - 48)) 0 ≤ _
  omega
theorem qO_rng {r : List Tok9} {q : Nat × Nat} (hr : QRow r) (h : qO r = .ok q) : 1 ≤ q.2 ∧ q.2 ≤ 10000 ∧ q.1 ≤ 100000000 := by
  rcases hr with ⟨a, rfl, ha⟩ | ⟨a, s, b, rfl, ha, hb, hs⟩
  · cases h
    have := ha.val
    exact ⟨by show 1 ≤ 100; decide, by show 100 ≤ 10000; decide, by show vlN a.2.1 ≤ _; omega⟩
  · have va := ha.val
    have h : (if s.2.1 = [47] then (if 1 ≤ vlN b.2.1 ∧ vlN b.2.1 ≤ 10000 then Except.ok (vlN a.2.1, vlN b.2.1) else .error (b.2.2, "a denominator is from 1 to 10000")) else if 2 < b.2.1.length then .error (b.2.2, "at most two digits stand behind the point") else .ok (100 * vlN a.2.1 + vlN (lj2 b.2.1), 10000)) = Except.ok q := h
    split at h
    · split at h
      · next w => cases h; exact ⟨w.1, w.2, by show vlN a.2.1 ≤ _; omega⟩
      · cases h
    · split at h
      · cases h
      · next w =>
        cases h
        have := lj2_val hb.2.2.2.1 (by omega)
        exact ⟨by show 1 ≤ 10000; decide, Nat.le_refl _, by show 100 * vlN a.2.1 + vlN (lj2 b.2.1) ≤ _; omega⟩
theorem shO_rng {r : List Tok9} {q : Nat × Nat} (hr : QRow r) (h : shO r = .ok q) : q.1 ≤ 10000 ∧ 1 ≤ q.2 ∧ q.2 ≤ 10000 := by
  unfold shO at h
  split at h
  · cases h
  · next p hp =>
    have r := qO_rng hr hp
    split at h
    · cases h
    · cases h
      have g0 : 0 < Nat.gcd p.1 p.2 := Nat.gcd_pos_of_pos_right _ (by omega)
      have g1 : Nat.gcd p.1 p.2 ≤ p.2 := Nat.gcd_le_right _ (by omega)
      have d1 := Nat.div_le_self p.1 (Nat.gcd p.1 p.2)
      have d2 := Nat.div_le_self p.2 (Nat.gcd p.1 p.2)
      exact ⟨by show p.1 / _ ≤ _; omega, Nat.div_pos g1 g0, by show p.2 / _ ≤ _; omega⟩
theorem ljT_2 (r : List Nat) : ljT (strN r) 2 48 = strN (lj2 r) := by
  unfold ljT lj2
  rw [strN_len]
  by_cases h : (2 : Int) ≤ (r.length : Int)
  · rw [if_pos h, show 2 - r.length = 0 by omega]; simp
  · rw [if_neg h]
    refine str_ext ?_
    show (Builtin.Str.padded (strN r) 0 _ 48).cps.toList = (strN _).cps.toList
    unfold Builtin.Str.padded strN
    simp
/-! what the rows hold -/
theorem rdR_ok : ∀ (kn : List (List Nat)) (rs : List (List Tok9)) (ps : Shs), (∀ r ∈ rs, ShRow r) → kn.length ≤ 5 → rdR kn rs = .ok ps → kn.length + ps.length ≤ 5 ∧ ps.length = rs.length ∧ (∀ p ∈ ps, p.2.1 ≤ 10000 ∧ 1 ≤ p.2.2 ∧ p.2.2 ≤ 10000) ∧ ∀ p ∈ ps, Asc p.1
  | kn, [], ps, _, hk, h => by cases h; exact ⟨hk, rfl, (fun _ m => nomatch m), (fun _ m => nomatch m)⟩
  | kn, r :: rs, ps, hr, hk, h => by
    obtain ⟨n, q, rfl, hn, hq⟩ := hr r (by simp)
    unfold rdR at h
    dsimp only at h
    split at h
    · cases h
    · split at h
      · cases h
      · split at h
        · cases h
        · next s hs =>
          split at h
          · cases h
          · next us hu =>
            cases h
            have := rdR_ok (kn ++ [n.2.1]) rs us (fun x m => hr x (by simp [m])) (by simp; omega) hu
            rw [List.length_append, List.length_singleton] at this
            refine ⟨by simp; omega, by simp; omega, fun p m => ?_, fun p m => ?_⟩
            · rcases List.mem_cons.mp m with w | w
              · rw [w]; exact shO_rng hq hs
              · exact this.2.2.1 p w
            · rcases List.mem_cons.mp m with w | w
              · rw [w]; exact hn.2.2.2
              · exact this.2.2.2 p w
theorem prt_pos : ∀ (ts : List Tok9) (R : List (List Tok9)), 0 < R.length → 0 < (ts.foldl prtS R).length
  | [], R, h => h
  | t :: ts, R, h => prt_pos ts (prtS R t) (by unfold prtS; split <;> simp; exact h)
theorem prt_in : ∀ (ts : List Tok9) (R : List (List Tok9)) {B : Nat}, (∀ r ∈ R, r.length ≤ B) → ∀ r ∈ ts.foldl prtS R, r.length ≤ B + ts.length
  | [], R, B, h, r, m => h r m
  | t :: ts, R, B, h, r, m => by
    have := prt_in ts (prtS R t) (B := B + 1) (fun x mx => ?_) r m
    · simp only [List.length_cons]; omega
    · unfold prtS at mx
      split at mx
      · rcases List.mem_append.mp mx with w | w
        · have := h x w; omega
        · rw [List.mem_singleton.mp w]; simp
      · rcases List.mem_or_eq_of_mem_set mx with w | w
        · have := h x w; omega
        · rw [w, List.length_append, List.length_singleton]
          by_cases z : R.length - 1 < R.length
          · rw [List.getD_eq_getElem?_getD, List.getElem?_eq_getElem z]
            have := h _ (List.getElem_mem z)
            show R[R.length - 1].length + 1 ≤ _
            omega
          · rw [List.getD_eq_getElem?_getD, List.getElem?_eq_none (by omega)]; simp
theorem sum_cast (l : List Nat) : (l.map fun n : Nat => (n : Int)).sum = ((l.sum : Nat) : Int) := by
  induction l with
  | nil => rfl
  | cons x l ih => simp [ih]
theorem lowD_nat (n m : Nat) : lowD (n : Int) (m : Int) = qD (n / Nat.gcd n m, m / Nat.gcd n m) := by
  unfold lowD qD gcI
  simp only [Int.natAbs_natCast, Int.natCast_ediv]
theorem e_num {c : Ct} {Γ : List (Option Rs)} {te : TE} {t : Tok9} {k : Kd} (ht : NuT t) (h : Ev c te Γ k (.str (strN t.2.1))) : Ev c (tCB rIntS (tCons te tNil)) Γ .v (.int ((vlN t.2.1 : Nat) : Int)) := by
  have e : (strN t.2.1).cps.toList = t.2.1 := sg_strN _
  have w := e_intS h (by rw [e]; exact ht.2.2.2.1) (by rw [e]; exact ht.2.1) (by rw [strN_len]; have := ht.2.2.1; omega)
  rwa [e] at w
theorem e_numL {c : Ct} {Γ : List (Option Rs)} {te : TE} {L : List Nat} {k : Kd} (hd : NumText.AllDigits L) (hn : L ≠ []) (hl : L.length ≤ 640) (h : Ev c te Γ k (.str (strN L))) : Ev c (tCB rIntS (tCons te tNil)) Γ .v (.int ((vlN L : Nat) : Int)) := by
  have e : (strN L).cps.toList = L := sg_strN _
  have w := e_intS h (by rw [e]; exact hd) (by rw [e]; exact hn) (by rw [strN_len]; omega)
  rwa [e] at w
theorem t_chainI {c : Ct} {Γ : List (Option Rs)} {ta tb tx : TE} {ka kb kc : Kd} {i j l : Int} (ha : Ev c ta Γ ka (.int i)) (hb : Ev c tb Γ kb (.int j)) (hc : Ev c tx Γ kc (.int l)) :
    EvT c (tTest (tChain (rI0 fun i j => .bl (decide (i ≤ j))) (rI0 fun i j => .bl (decide (i ≤ j))) ta tb tx)) Γ (decide (i ≤ j) && decide (j ≤ l)) := t_test (d_chain ha hb fun _ => hc)
theorem scn_all {z : Str} {ts : List Tok9} (hb : txtB (.str z) = true) (hs : scn (sgL z) z.length 0 = .ok ts) : z.length ≤ 400 ∧ ts.length ≤ 400 ∧ (∀ t ∈ ts, ScTk t) ∧ (∀ t ∈ ts ++ [endT z], TkOk t) ∧ ∀ t ∈ (ts ++ [endT z]).dropLast, t.1 ≠ "end" := by
  have hz : z.length ≤ 400 := by
    unfold txtB at hb
    rw [Bool.and_eq_true, decide_eq_true_eq] at hb
    exact hb.1
  have sc := scn_tk (L := sgL z) (by rw [sg_len]; exact hz) _ _ _ hs
  have ln := scn_len _ _ _ hs
  refine ⟨hz, by omega, sc, fun t m => ?_, fun t m => ?_⟩
  · rcases List.mem_append.mp m with w | w
    · exact (sc t w).ok
    · rw [List.mem_singleton.mp w]
      exact ⟨.inr (.inr (.inr rfl)), by show ([] : List Nat).length ≤ 400; simp, by show z.length + 1 ≤ 1000; omega⟩
  · rw [List.dropLast_concat] at m
    exact (sc t m).ne
theorem rowT_at {R : List (List Tok9)} {n : Nat} {a : Im} (h : ((R.map fun r => PyData.list (r.map tokD)).map Im.d)[n]? = some a) : ∃ r, R[n]? = some r ∧ a = Im.d (.list (r.map tokD)) := by
  rw [List.map_map, List.getElem?_map] at h
  obtain ⟨t, ht, e⟩ := Option.map_eq_some_iff.mp h
  exact ⟨t, ht, e.symm⟩
theorem zip_snoc {α β : Type} : ∀ {xs : List α} {ys : List β} {x : α} {y : β}, xs.length = ys.length → (xs ++ [x]).zip (ys ++ [y]) = xs.zip ys ++ [(x, y)]
  | [], [], _, _, _ => rfl
  | a :: xs, b :: ys, x, y, h => by
    show (a, b) :: ((xs ++ [x]).zip (ys ++ [y])) = _
    rw [zip_snoc (by simpa using h)]
    rfl
  | [], _ :: _, _, _, h => by simp at h
  | _ :: _, [], _, _, h => by simp at h
theorem zip_shs {kn : List (List Nat)} {qs : List (Nat × Nat)} {us : Shs} (h : kn.zip qs = us) : PyData.tuple (zipTs (kn.map nmD) (qs.map qD)) = shsD us := by
  rw [← h]
  unfold zipTs shsD
  rw [List.zip_map, List.map_map]
  rfl
theorem flat_shs (us : Shs) : flatD (shsD us) = true := by
  show flatAll (us.map fun p => .tuple [nmD p.1, qD p.2]) = true
  exact flatAll_mem fun d m => by
    obtain ⟨p, _, rfl⟩ := List.mem_map.mp m
    rfl
section
variable {c : Ct} {H0 : Hp} {Γ : List (Option Rs)} {te : TE} {ta : TA} {k : Kd} {d : PyData} {ds : List PyData} {n : Nat} {u : TS}
theorem x_app (hx : Γ[n]? = some (some (.o (.list ds)))) (h : Ev c te Γ k d) (hf : flatD d = true) (hl : ds.length < 1000000) (p : SdX c H0 u (Γ.set n (some (.o (.list (ds ++ [d])))))) : SdX c H0 (tSeq (tDrop (tBM c.K "list" rAppend (tVar n) (tCons te tNil))) u) Γ :=
  x_seqN (P1 := fun Γ3 => Γ3 = Γ.set n (some (.o (.list (ds ++ [d]))))) (s_app hx h hf hl ⟨_, rfl, rfl⟩) fun Γ3 e => by rw [e]; exact p
/-- a method of a list of one's own whose argument raises -/
theorem x_bmA {r : V → List V → Hp → VK → Prop} (hx : Γ[n]? = some (some (.o (.list ds)))) (h : EvRz c H0 te Γ) : EvRz c H0 (tBM c.K "list" r (tVar n) (tCons te ta)) Γ := fun O H σ Q e => by
  obtain ⟨q0, xs0, f0, hq0, hp0, _⟩ := e.write (es := ds) hx
  exact ⟨.ref q0, hq0, .inl ⟨rfl, xs0, .inl (.inl hp0)⟩, h O H σ _ e⟩
end
theorem prn_in : ∀ (ts : List Tok9) (R : List (List Tok9)) {B : Nat}, (∀ r ∈ R, r ≠ [] ∧ r.length ≤ B) → ∀ r ∈ ts.foldl prRn R, r ≠ [] ∧ r.length ≤ B + ts.length
  | [], R, B, h, r, m => h r m
  | t :: ts, R, B, h, r, m => by
    have := prn_in ts (prRn R t) (B := B + 1) (fun x mx => ?_) r m
    · simp only [List.length_cons]; exact ⟨this.1, by omega⟩
    · unfold prRn at mx
      split at mx
      · rcases List.mem_or_eq_of_mem_set mx with w | w
        · have := h x w; exact ⟨this.1, by omega⟩
        · rw [w, List.length_append, List.length_singleton]
          refine ⟨by simp, ?_⟩
          by_cases z : R.length - 1 < R.length
          · rw [List.getD_eq_getElem?_getD, List.getElem?_eq_getElem z]
            have := (h _ (List.getElem_mem z)).2
            show R[R.length - 1].length + 1 ≤ _
            omega
          · rw [List.getD_eq_getElem?_getD, List.getElem?_eq_none (by omega)]; simp
      · rcases List.mem_append.mp mx with w | w
        · have := h x w; exact ⟨this.1, by omega⟩
        · rw [List.mem_singleton.mp w]; simp
def ntL (l : List Nat) : List PyData := (l.map fun n : Nat => (n : Int)).map .int
theorem nat_flat (l : List Nat) : flatAll (ntL l) = true := flatAll_ints _
theorem nat_app (a b : List Nat) : ntL (a ++ b) = ntL a ++ ntL b := by unfold ntL; rw [List.map_append, List.map_append]
theorem flat_rep {α : Type} (n : Nat) (x : α) : (List.replicate n [x]).flatten = List.replicate n x := by
  induction n with
  | zero => rfl
  | succ n ih => rw [List.replicate_succ, List.replicate_succ, List.flatten_cons, ih]; rfl
section
variable {c : Ct} {H0 : Hp} {Γ : List (Option Rs)} {te tf : TE} {ta : TA} {tl th : TO} {k : Kd} {d : PyData} {sp : Sp} {E : XK} {dvs : List V}
/-- the second argument raises -/
theorem x_arg2 (h : Ev c te Γ k d) (h2 : EvRz c H0 tf Γ) : EvRz c H0 (tCall sp dvs E (tCons te (tCons tf ta))) Γ := fun O H σ Q e =>
  h H0 O H σ e _ fun v H2 r s => h2 O H2 σ _ (e.on r)
theorem x_sl {r : V → Option Int → Option Int → Hp → VK → Prop} (h : EvRz c H0 te Γ) : EvRz c H0 (tSl r te tl th) Γ := fun O H σ Q e => h O H σ _ e
end
theorem knd_in {kd : String} {g : Gr} (h : kndG kd g) : (if false = true then !([PyData.str (Str.ofString "shares"), .str (Str.ofString "assignment")].any fun z => PyData.eqv z (.str (Str.ofString kd))) else [PyData.str (Str.ofString "shares"), .str (Str.ofString "assignment")].any fun z => PyData.eqv z (.str (Str.ofString kd))) = true := by
  rcases h with ⟨rfl, _⟩ | ⟨rfl, _⟩ <;> decide +kernel
end Lm


/-! what is told of a text (k93): a column and words, or nothing; a name -/
namespace Lm
open PySem PySem.Spec PyProof.Rows L2
def errO {α : Type} : Except (Nat × String) α → Option (Nat × String)
  | .error e => some e
  | .ok _ => none
def errD : Option (Nat × String) → PyData
  | some cw => .tuple [.int (cw.1 : Int), .str (Str.ofString cw.2)]
  | none => .none
def tld (wd : String) (z : Str) (v : Nat) : Option (Nat × String) := if Str.ofString wd = Str.ofString "shares" then errO (rdS z) else errO (rdA z v)
def sp__law_told93 (K : PySem.W.Frag) : Sp := spD K fun ds k d => ∃ (wd : String) (z : Str) (v : Nat), ds = [.str (Str.ofString wd), .str z, .int (v : Int)] ∧ txtB (.str z) = true ∧ 1 ≤ v ∧ v ≤ 5 ∧ k = .v ∧ d = errD (tld wd z v)
def sp__law_refused93 (K : PySem.W.Frag) : Sp := spD K fun ds k d => ∃ (n : Nat) (x y : PyData) (nm : Str), ds = [.int (n : Int), x, y] ∧ ((n = 0 ∧ RcNx [x, y] nm) ∨ (n = 1 ∧ RcRa [x, y] nm) ∨ (n = 2 ∧ RcTx [x] nm)) ∧ k = .v ∧ d = .str nm
section
variable {K : PySem.W.Frag} {C CT : Addr} {H0 : Hp} {Γ : List (Option Rs)} {σ : L2.St} {ta : TA} {k : Kd} {d : PyData} {ds : List PyData} {R : List PyData → Str → Prop} {R2 : List PyData → Nat × String → Prop} {sp : Sp} {W : L2.St → XK} {nm : Str} {pre : Pre} {cw : Nat × String}
theorem y_dropT (ha : EvA (pc K) ta Γ false ds) (hr : R2 ds cw) (hE : ∀ dx H1, Same H0 H1 → H1 dx = some (.xd (txF (cw.1 : Int) (Str.ofString cw.2))) → W σ (.ref CT) (some dx) H1) : SdY (pc K) H0 σ (tDrop (tCallS (spDT K CT sp R2) W ta)) Γ := fun O H D e =>
  ha H0 O H σ e _ fun vs H1 r s => .inr ⟨ds, cw, s, hr, fun dx H2 sm z => hE dx H2 (same_of e r sm) z⟩
theorem y_drop2 (ha : EvA (pc K) ta Γ false ds) (hr : R ds nm) (hE : ∀ dx H1, Same H0 H1 → H1 dx = some (.xd [("name", .str nm)]) → W σ (.ref C) (some dx) H1) : SdY (pc K) H0 σ (tDrop (tCallS (spDT K CT (spDR K C sp R) R2) W ta)) Γ := fun O H D e =>
  ha H0 O H σ e _ fun vs H1 r s => .inl (.inr ⟨ds, nm, s, hr, fun dx H2 sm z => hE dx H2 (same_of e r sm) z⟩)
theorem d_callS2 (h : EvA (pc K) ta Γ false ds) (hp : pre ds k d) : Ev (pc K) (tCallS (spDT K CT (spDR K C (spD K pre) R) R2) W ta) Γ k d := fun H0 O H σ e Q q =>
  h H0 O H σ e _ fun vs H1 r s => by
    refine .inl (.inl ⟨ds, k, d, s.pure, hp, fun v H2 sm rt => q v H2 (r.tr (Rr.same sm)) ?_⟩)
    have r2 : Rr (pc K) H H2 := r.tr (Rr.same sm)
    cases k with
    | v => exact (Bo.flat (c := pc K) (c' := pc K) rfl rt.1 rt.2).flatM e r2 rt.1
    | o =>
      obtain ⟨fp, f, nd, new⟩ := rt
      exact ⟨fp, f, nd, fun a ha => r.back e.jH (new a ha)⟩
    | b => obtain ⟨⟨_, e⟩, _⟩ := rt; exact nomatch e
theorem was_TT {P : Program} {w : World} {mg : Str → Option Value} {base : Heap} {i : Nat} {Wout : WX} {D : Ends} {dx : Addr} {H1 : Hp} {col : Int} {wd : Str} (X : ExcT P w K mg base CT) (hi : i < σ.length) (hdx : H1 dx = some (.xd (txF col wd)))
    (q : ∀ p H2, Same H1 H2 → TpN K H2 p [.int col, .str wd] → D.rt (.ref p) H2) :
    wAs K (.ref CT) i (fun a cls d => tRet (tTupN (tCons (tXf a cls d CT "column" (tVar i)) (tCons (tXf a cls d CT "words" (tVar i)) tNil)))) Wout D (.ref CT) (some dx) σ H1 :=
  ⟨true, X.exm, fun _ a ha => by
    have v0 : (σ.set i (some (.ref a)))[i]? = some (some (.ref a)) := List.getElem?_set_self hi
    exact ⟨.ref a, v0, rfl, rfl, dx, _, .int col, rfl, hdx, rfl, .ref a, v0, rfl, rfl, dx, _, .str wd, rfl, hdx, rfl, by show 2 ≤ sizeLine; decide, newTk (c := pc K) fun p H2 hp sm tp => q p H2 sm tp⟩, fun w => nomatch w⟩
end
end Lm


/-! x.replace(y, z): statements behind which a written text has been seen (k93) -/
namespace Lm
open PySem PySem.Spec PyProof.Rows L2 CwR
/-- x.replace("..", str(n)) -/
def tReplI (to tv : TE) (y : Str) : TE := fun σ H Q => to σ H fun v H1 => ∃ x, v = .str x ∧ tv σ H1 fun w H2 => ∃ i : Int, w = .int i ∧ i.natAbs.log2 < 1920 ∧ (y == (toString i : Str)) = false ∧ x.length + (x.length + 1) * (toString i : Str).length ≤ 16777216 ∧ Q (.str (Txt.replace x y (toString i))) H2
section
variable {X : Cx} {o ev : Expr} {to tv te : TE} {y : Str} {j : Nat} {c0 p pos2 apos pos pos' : Pos}
theorem pet_replI (ho : PE X o to) (hv : PE X ev tv) (hg : Gl X "str") (hm : X.mg "str" = none)
    (hst : starEach [.Constant (.str y) j c0, .Call (.Name "str" p) [ev] [] pos2] X.env = [(false, eval (.Constant (.str y) j c0) X.env), (false, eval (.Call (.Name "str" p) [ev] [] pos2) X.env)] := by rfl)
    (na : starEach [ev] X.env = (false, eval ev X.env) :: starEach [] X.env := by rfl)
    (hbase : attributeBase o "replace" X.env (eval o X.env) = eval o X.env := by rfl) (hline : (apos.endLine == pos.line) = true := by rfl) :
    PET X (.Call (.Attribute o "replace" apos) [.Constant (.str y) j c0, .Call (.Name "str" p) [ev] [] pos2] [] pos) (tReplI to tv y) := by
  intro pins s σ H Q h0 I h
  refine PySem.Call_method2 hbase hst hline (wpAny_mono (PySem.wpAny_toks (ho.run pins s σ H _ I h)) (fun v s1 q => ?_) fun _ _ z => z.2)
  obtain ⟨hk, v', H1, I1, r1, x, e1, q⟩ := q
  subst e1
  obtain ⟨tx, e2⟩ := r1
  subst e2
  refine ⟨"str", "str.replace", PySem.F.plainAttrs_str, PySem.F.slot_str_replace, PySem.F.type_str_replace, typeIs_str _ _ _, (fun _ e => nomatch e), Calls.callWith_builtin rfl (Calls.evalArgs_plain ?_)⟩
  refine Calls.spliced_cons (Calls.Constant_str (Calls.spliced_cons ?_))
  have I1' : Inv X pins σ H1 { s1 with toks := s1.toks + 1 } := I1.tok _
  refine Call_ (ld_blt I1' hg hm PyProof.Rows.boot_str (PyProof.Rows.callWith_type1 (args_cons (wpAny_mono (PySem.wpAny_toks (hv.run pins _ σ H1 _ I1' q)) (fun w s2 q2 => ?_) fun _ _ z => z.2) na) na))
  obtain ⟨hk2, w', H2, I2, r2, i, e3, hl, hyz, hb, q⟩ := q2
  subst e3
  obtain ⟨t, e4⟩ := r2
  subst e4
  have hk2 : s1.toks + 1 ≤ s2.toks := hk2
  refine args_nil (PySem.P.str_of_int hl (Calls.spliced_nil ?_))
  exact PySem.SC.replace (by show s1.toks ≠ 0; omega) (by show s2.toks ≠ 0; omega) (by show s1.toks ≠ s2.toks; omega) hyz hb fun t' k => ⟨.str (Txt.replace x y (toString i)), H2, I2.tok k, ⟨t', rfl⟩, q⟩
theorem pst_set {i : Nat} {x : Str} {e : Expr} (he : PET X e te) (hN : X.N.Nodup) (hi : X.N[i]? = some x) (hx : Loc X.env.scope x) (hs : swapsWith e (some (.Name x pos')) pos.line X.env = pure false := by rfl) (hf : X.fn x = true ∨ X.env.scope.names.lookup x = some .local := by first | exact .inl rfl | exact .inr rfl | assumption) :
    PST X (.Assign [.Name x pos'] e pos) (tAsg te (gName i)) := by
  intro pins s σ H D h0 I h
  refine wpAny_Assign_Name (thn (he pins s σ H _ h0 I h) fun v s1 ⟨y, H1, I1, r1, q1⟩ => ?_) hs
  exact store_ok I1 hN hi hx r1 (fun s2 I2 => ⟨_, H1, I2, q1⟩) hf
/-- a statement behind which a written text has been seen -/
structure PSK (X : Cx) (st : Stmt) (t : TS) : Prop where
  r : ∀ (rest : List Stmt) (u : TS), PSsT X rest u → PSs X (st :: rest) (tSeq t u)
/-- the same as judgements that are not looked into -/
structure QST (X : Cx) (st : Stmt) (t : TS) : Prop where
  r : PST X st t
structure QSsT (X : Cx) (st : List Stmt) (t : TS) : Prop where
  r : PSsT X st t
structure QET (X : Cx) (e : Expr) (t : TE) : Prop where
  r : PET X e t
theorem pss_consK {st : Stmt} {t u : TS} {rest : List Stmt} (h1 : PSK X st t) (h2 : QSsT X rest u) : PSs X (st :: rest) (tSeq t u) := h1.r rest u h2.r
theorem qst_of {st : Stmt} {t : TS} (h : PS X st t) : QST X st t := ⟨PST.of h⟩
theorem qsst_cons {st : Stmt} {t u : TS} {rest : List Stmt} (h1 : QST X st t) (h2 : QSsT X rest u) : QSsT X (st :: rest) (tSeq t u) := ⟨psst_cons h1.r h2.r⟩
theorem qsst_one {st : Stmt} {t : TS} (h : QST X st t) : QSsT X [st] t := ⟨psst_one h.r⟩
theorem qet_of {e : Expr} {te : TE} (h : PE X e te) : QET X e te := ⟨PET.of h⟩
theorem qet_op {e f : Expr} {te tf : TE} {op : Operator} {r : R2} {pos : Pos} (ho : OpR X (binaryOp op) r) (ha : QET X e te) (hb : QET X f tf) : QET X (.BinOp e op f pos) (tOp r te tf) := ⟨pet_op ho ha.r hb.r⟩
theorem qet_replC {o : Expr} {to : TE} {y z : Str} {j k : Nat} {c0 c1 apos pos : Pos} (ho : PE X o to) (hyz : (y == z) = false)
    (hst : starEach [.Constant (.str y) j c0, .Constant (.str z) k c1] X.env = [(false, eval (.Constant (.str y) j c0) X.env), (false, eval (.Constant (.str z) k c1) X.env)] := by rfl)
    (hbase : attributeBase o "replace" X.env (eval o X.env) = eval o X.env := by rfl) (hline : (apos.endLine == pos.line) = true := by rfl) :
    QET X (.Call (.Attribute o "replace" apos) [.Constant (.str y) j c0, .Constant (.str z) k c1] [] pos) (tReplC to y z) := ⟨pet_replC ho hyz hst hbase hline⟩
theorem qet_replI {o ev : Expr} {to tv : TE} {y : Str} {j : Nat} {c0 p pos2 apos pos : Pos} (ho : PE X o to) (hv : PE X ev tv) (hg : Gl X "str") (hm : X.mg "str" = none)
    (hst : starEach [.Constant (.str y) j c0, .Call (.Name "str" p) [ev] [] pos2] X.env = [(false, eval (.Constant (.str y) j c0) X.env), (false, eval (.Call (.Name "str" p) [ev] [] pos2) X.env)] := by rfl)
    (na : starEach [ev] X.env = (false, eval ev X.env) :: starEach [] X.env := by rfl)
    (hbase : attributeBase o "replace" X.env (eval o X.env) = eval o X.env := by rfl) (hline : (apos.endLine == pos.line) = true := by rfl) :
    QET X (.Call (.Attribute o "replace" apos) [.Constant (.str y) j c0, .Call (.Name "str" p) [ev] [] pos2] [] pos) (tReplI to tv y) := ⟨pet_replI ho hv hg hm hst na hbase hline⟩
theorem qst_set {i : Nat} {x : Str} {e : Expr} {te : TE} {pos pos' : Pos} (hN : X.N.Nodup) (hi : X.N[i]? = some x) (hx : Loc X.env.scope x) (he : QET X e te) (hs : swapsWith e (some (.Name x pos')) pos.line X.env = pure false := by rfl) (hf : X.fn x = true ∨ X.env.scope.names.lookup x = some .local := by first | exact .inl rfl | exact .inr rfl | assumption) :
    QST X (.Assign [.Name x pos'] e pos) (tAsg te (gName i)) := ⟨pst_set he.r hN hi hx hs hf⟩
theorem ps_kbin {i : Nat} {x cst : Str} {e : Expr} {op : Operator} {r : R2} {cp bp : Pos} (hN : X.N.Nodup) (hi : X.N[i]? = some x) (hx : Loc X.env.scope x) (ho : OpR X (binaryOp op) r) (he : PE X e te)
    (hs : swapsWith (.BinOp (.Constant (.str cst) j cp) op e bp) (some (.Name x pos')) pos.line X.env = pure false := by rfl) (hf : X.fn x = true ∨ X.env.scope.names.lookup x = some .local := by first | exact .inl rfl | exact .inr rfl | assumption) :
    PSK X (.Assign [.Name x pos'] (.BinOp (.Constant (.str cst) j cp) op e bp) pos) (tAsg (tOp r (tC (.str cst)) te) (gName i)) := by
  refine ⟨fun rest u h2 => ⟨fun pins s σ H D I h => ?_⟩⟩
  refine wpAny_execs_cons (wpAny_Assign_Name (wpAny_BinOp (Calls.Constant_str ?_)) hs)
  have I0 : Inv X pins σ H { s with toks := s.toks + 1 } := I.tok _
  refine wpAny_mono (PySem.wpAny_toks (he.run pins _ σ H _ I0 h)) (fun v s1 q => ?_) fun _ _ z => z.2
  obtain ⟨hk, w, H1, I1, r1, q1⟩ := q
  have hk : s.toks + 1 ≤ s1.toks := hk
  refine wpAny_mono (PySem.wpAny_toks (ho pins s1 σ H1 (.str cst) w _ v _ I1 ⟨_, rfl⟩ r1 q1)) (fun v2 s2 q => ?_) fun _ _ z => z.2
  obtain ⟨hk2, w2, H2, I2, r2, q2⟩ := q
  refine wpAny_mono (PySem.wpAny_toks (store_ok (Q := fun _ s2 => Inv X pins (σ.set i (some w2)) H2 s2) I2 hN hi hx r2 (fun _ I2 => I2) hf)) (fun _ s3 q => ?_) fun _ _ z => z.2
  have hk3 : s2.toks ≤ s3.toks := q.1
  exact h2 pins s3 _ H2 D (by omega) q.2 q2
end
section
variable {X : Cx}
theorem pe_cal0 {CX : CXT} {E : XK} {k : Nat} {x : Str} {ps : List Str} {sp : Sp} {p pos : Pos} (F : Cal X.prog X.w X.K X.mg X.base CX k x ps sp) (hr : Room k X.A) (hg : Gl X x) (hx : Passes CX X E)
    (hdb : (x == ("__debug__" : Str)) = false := by decide) : PE X (.Call (.Name x p) [] [] pos) (tCall sp [] E tNil) := by
  obtain ⟨f, fd, F1, F2, F3, F4⟩ := F.ok
  exact pe_call0 F1 hr hg F2 F3 F4 .nil hx hdb
end
end Lm


/-! the problems of the law's texts (k93) -/
namespace Lm
open PySem PySem.Spec PyProof.Rows L2
def rowsS : List (String × String) := [("a 50, @a 50", "this name stands already"), ("a 1, b 2, c 3, d 4, e 5, @f 6", "there are at most 5 variants"), ("a 1, b 2, c 3, d 4, e 5, @a 6", "there are at most 5 variants"), ("a 50.@125", "at most two digits stand behind the point"), ("a 12.50, b 0.@000", "at most two digits stand behind the point"), ("a 1/@0", "a denominator is from 1 to 10000"), ("a 1/@10001", "a denominator is from 1 to 10000"), ("a 2/@000, a 3", "a denominator is from 1 to 10000"), ("a @101", "a share is at most the whole"), ("a @100.01", "a share is at most the whole"), ("a @3/2", "a share is at most the whole"), ("a 40, b @10001/10000, b 1", "a share is at most the whole"), ("a 50, b 49.99@", "the total is not the whole"), ("a 1/2, b 1/3, c 1/7@", "the total is not the whole"), ("a 0@", "the total is not the whole"), ("a 100, b 0.01@", "the total is not the whole"), ("a 60, b 50, @b 1", "this name stands already"), ("a 50, b 25, @a 25", "this name stands already"), ("a 50, b 200.@123", "at most two digits stand behind the point"), ("a 5/@0, b 200", "a denominator is from 1 to 10000"), ("a @999999, a 1/0", "a share is at most the whole")]
def rowsR : List (String × String) := [("@#", "there is no such variant"), ("0 1 1 @#", "there is no such variant"), ("0*@0", "a run has at least one bucket"), ("1*2 1*@000 #", "a run has at least one bucket"), ("0*20 @1", "there are at most 20 buckets"), ("@0*21", "there are at most 20 buckets"), ("0*19 1 @1", "there are at most 20 buckets"), ("0*3 @#*0", "there is no such variant"), ("@00000#*0", "there is no such variant"), ("0*10 @1*11 7", "there are at most 20 buckets"), ("@999999", "there is no such variant"), ("0*@000000", "a run has at least one bucket")]
def prS (p : String × String) : PyData := .tuple [.str (Str.ofString p.1), .str (Str.ofString p.2)]
def sp__law_share_rows (K : PySem.W.Frag) : Sp := spD K fun ds k d => ds = [] ∧ k = .o ∧ d = .list (rowsS.map prS)
def sp__law_run_rows (K : PySem.W.Frag) : Sp := spD K fun ds k d => ds = [] ∧ k = .o ∧ d = .list (rowsR.map prS)
/-- the law's row: blanks, the row with the number in it, blanks -/
def rowE (s : String) (b t v : Nat) : Str := strN (List.replicate b 32) ++ Txt.replace (Str.ofString s) (Str.ofString "#") (toString (v : Int) : Str) ++ strN (List.replicate t 32)
def txtE (r : Str) : Str := Txt.replace r (Str.ofString "@") (Str.ofString "")
/-- the column that the law tells -/
def kolE (r : Str) : Option Nat := match atI (Txt.strip r).cps.toList (-1) with
  | none => none
  | some ch => if ch = 64 then some ((txtE r).length + 1) else match Builtin.Str.occurrences r (Str.ofString "@") 0 r.length 1 with
    | [] => none
    | i :: _ => some (i + 1)
def chkE (wd : String) (p : String × String) (b t v : Nat) : Bool := let r := rowE p.1 b t v
  decide (r.length ≤ 200) && (decide ((Txt.strip r).length ≤ 200) && (txtB (.str (txtE r)) && match kolE r with
    | none => false
    | some c => decide (tld wd (txtE r) v = some (c, p.2))))
end Lm


/-! the problems of the law's texts, reckoned (k93) -/
namespace Lm
open PySem PySem.Spec PyProof.Rows L2
theorem chk_S : ∀ p ∈ rowsS, ∀ b ∈ [1, 2, 3], ∀ t ∈ [0, 1, 2], chkE "shares" p b t 2 = true := by decide +kernel
theorem chk_R : ∀ p ∈ rowsR, ∀ b ∈ [1, 2, 3], ∀ t ∈ [0, 1, 2], ∀ v ∈ [2, 3, 4, 5], chkE "assignment" p b t v = true := by decide +kernel
theorem no_num : ∀ p ∈ rowsS, Builtin.Str.occurrences (Str.ofString p.1) (Str.ofString "#") 0 (Str.ofString p.1).length ((Str.ofString p.1).length + 1) = [] := by decide +kernel
def fineL : List (String × String) := [("shares", "a 000100, b 0/1"), ("shares", "a 20, b 20, c 20, d 20, e 20"), ("shares", "a 99.99, b 1/10000"), ("assignment", "0*20"), ("assignment", "000*000020"), ("assignment", ""), ("assignment", "1*10 0*9 1")]
theorem fine_ok : ∀ p ∈ fineL, txtB (.str (Str.ofString p.2)) = true ∧ ∀ v ∈ [2, 3, 4, 5], tld p.1 (Str.ofString p.2) v = none := by decide +kernel
end Lm


/-! the law's rows; replace, strip (k93) -/
namespace Lm
open PySem PySem.Spec PyProof.Rows L2
def rowsT (wd : String) : List (String × String) := if wd = "shares" then rowsS else rowsR
theorem rows_short : ∀ wd ∈ ["shares", "assignment"], ∀ p ∈ rowsT wd, (Str.ofString p.1).length ≤ 100 := by decide +kernel
theorem rep_none {x y z : Str} (h : Builtin.Str.occurrences x y 0 x.length (x.length + 1) = []) : Txt.replace x y z = x := by
  unfold Txt.replace
  rw [h]
  rfl
theorem chkE_all {wd : String} {p : String × String} {b t v : Nat} (hw : wd = "shares" ∨ wd = "assignment") (hp : p ∈ rowsT wd) (hb : 1 ≤ b ∧ b ≤ 3) (ht : t ≤ 2) (hv : 2 ≤ v ∧ v ≤ 5) : chkE wd p b t v = true := by
  have mb : b ∈ [1, 2, 3] := by simp; omega
  have mt : t ∈ [0, 1, 2] := by simp; omega
  have mv : v ∈ [2, 3, 4, 5] := by simp; omega
  rcases hw with rfl | rfl
  · have hp : p ∈ rowsS := hp
    have e : rowE p.1 b t v = rowE p.1 b t 2 := by
      unfold rowE
      rw [rep_none (no_num p hp), rep_none (no_num p hp)]
    have h := chk_S p hp b mb t mt
    unfold chkE at h ⊢
    rw [e]
    exact h
  · exact chk_R p hp b mb t mt v mv
section
variable {c : Ct} {Γ : List (Option Rs)} {te to ta : TE} {k ka : Kd} {x : Str} {i : Int}
theorem e_replC {y z : Str} (h : Ev c te Γ k (.str x)) (hl : x.length + (x.length + 1) * z.length ≤ 16777216) : Ev c (CwR.tReplC te y z) Γ .v (.str (Txt.replace x y z)) := fun H0 O H σ e Q q =>
  h H0 O H σ e _ fun v H2 r s => ⟨x, (Res.bo e s).str', hl, q _ H2 r (.str _)⟩
theorem e_replI {y : Str} (h : Ev c te Γ k (.str x)) (hi : Ev c ta Γ ka (.int i)) (h0 : 0 ≤ i) (h1 : i ≤ 10 ^ 70) (hy : (y == (toString i : Str)) = false) (hl : x.length + (x.length + 1) * (toString i : Str).length ≤ 16777216) : Ev c (tReplI te ta y) Γ .v (.str (Txt.replace x y (toString i))) := fun H0 O H σ e Q q =>
  h H0 O H σ e _ fun v H1 r1 s1 => ⟨x, (Res.bo e s1).str', hi H0 O H1 σ (e.on r1) _ fun w H2 r2 s2 => ⟨i, (Res.bo (e.on r1) s2).int', log_sm h0 h1, hy, hl, q _ H2 (r1.tr r2) (.str _)⟩⟩
theorem e_strip (h : Ev c te Γ k (.str x)) (hl : x.length ≤ 100000) : Ev c (tM0 (fun x xs H Q => ∃ a, x = .str a ∧ xs = [] ∧ a.length ≤ sizeLine ∧ Q (.str (Txt.strip a)) H) te) Γ .v (.str (Txt.strip x)) := fun H0 O H σ e Q q =>
  h H0 O H σ e _ fun v H2 r s => ⟨⟨x, (Res.bo e s).str'⟩, x, (Res.bo e s).str', rfl, by rw [sizeLine_eq]; omega, q _ H2 r (.str _)⟩
end
theorem sign_64 (ch : Nat) : decide ((⟨#[ch]⟩ : Str) = Str.ofString "@") = decide (ch = 64) := by
  rw [show Str.ofString "@" = (⟨#[64]⟩ : Str) by decide +kernel]
  by_cases h : ch = 64
  · rw [h]; simp
  · rw [decide_eq_false h]
    exact decide_eq_false fun w => h (by simpa using w)
end Lm


/-! the program's own text, by places -/
namespace W
open PySem PySem.Spec PyProof.Rows L2 Lm
def topS (i : Nat) : Stmt := PySem.Challenge.pw_leastmoved_k93_problems_of_texts.main.body.getD i (.Pass ⟨0, 0, 0, 0⟩)
abbrev s_is_integer : Stmt := topS 8
abbrev n_is_integer : List Str := ["value", "least", "greatest"]
abbrev p_is_integer : List Str := ["value", "least", "greatest"]
theorem sc_is_integer : FnScope n_is_integer p_is_integer (defScope s_is_integer) := ⟨rfl, rfl, rfl, by decide +kernel, rfl, by decide +kernel, by decide +kernel⟩
abbrev s_require : Stmt := topS 9
abbrev n_require : List Str := ["holds", "name"]
abbrev p_require : List Str := ["holds", "name"]
theorem sc_require : FnScope n_require p_require (defScope s_require) := ⟨rfl, rfl, rfl, by decide +kernel, rfl, by decide +kernel, by decide +kernel⟩
abbrev s_check_variants : Stmt := topS 10
abbrev n_check_variants : List Str := ["variants"]
abbrev p_check_variants : List Str := ["variants"]
theorem sc_check_variants : FnScope n_check_variants p_check_variants (defScope s_check_variants) := ⟨rfl, rfl, rfl, by decide +kernel, rfl, by decide +kernel, by decide +kernel⟩
abbrev s_in_lowest_terms : Stmt := topS 13
abbrev n_in_lowest_terms : List Str := ["number", "divisor", "common"]
abbrev p_in_lowest_terms : List Str := ["number", "divisor"]
theorem sc_in_lowest_terms : FnScope n_in_lowest_terms p_in_lowest_terms (defScope s_in_lowest_terms) := ⟨rfl, rfl, rfl, by decide +kernel, rfl, by decide +kernel, by decide +kernel⟩
abbrev s_common_divisor_of : Stmt := topS 14
abbrev n_common_divisor_of : List Str := ["quotients", "common", "_", "divisor"]
abbrev p_common_divisor_of : List Str := ["quotients"]
theorem sc_common_divisor_of : FnScope n_common_divisor_of p_common_divisor_of (defScope s_common_divisor_of) := ⟨rfl, rfl, rfl, by decide +kernel, rfl, by decide +kernel, by decide +kernel⟩
abbrev s_weights_of : Stmt := topS 15
abbrev n_weights_of : List Str := ["quotients", "common", "number", "divisor"]
abbrev p_weights_of : List Str := ["quotients"]
theorem sc_weights_of : FnScope n_weights_of p_weights_of (defScope s_weights_of) := ⟨rfl, rfl, rfl, by decide +kernel, rfl, by decide +kernel, by decide +kernel⟩
abbrev s_are_the_whole : Stmt := topS 16
abbrev n_are_the_whole : List Str := ["quotients"]
abbrev p_are_the_whole : List Str := ["quotients"]
theorem sc_are_the_whole : FnScope n_are_the_whole p_are_the_whole (defScope s_are_the_whole) := ⟨rfl, rfl, rfl, by decide +kernel, rfl, by decide +kernel, by decide +kernel⟩
abbrev s_check_text : Stmt := topS 25
abbrev n_check_text : List Str := ["text"]
abbrev p_check_text : List Str := ["text"]
theorem sc_check_text : FnScope n_check_text p_check_text (defScope s_check_text) := ⟨rfl, rfl, rfl, by decide +kernel, rfl, by decide +kernel, by decide +kernel⟩
abbrev s_run_at : Stmt := topS 26
abbrev n_run_at : List Str := ["text", "at", "characters", "end"]
abbrev p_run_at : List Str := ["text", "at", "characters"]
theorem sc_run_at : FnScope n_run_at p_run_at (defScope s_run_at) := ⟨rfl, rfl, rfl, by decide +kernel, rfl, by decide +kernel, by decide +kernel⟩
abbrev s_name_at : Stmt := topS 27
abbrev n_name_at : List Str := ["text", "at", "name"]
abbrev p_name_at : List Str := ["text", "at"]
theorem sc_name_at : FnScope n_name_at p_name_at (defScope s_name_at) := ⟨rfl, rfl, rfl, by decide +kernel, rfl, by decide +kernel, by decide +kernel⟩
abbrev s_number_at : Stmt := topS 28
abbrev n_number_at : List Str := ["text", "at", "number"]
abbrev p_number_at : List Str := ["text", "at"]
theorem sc_number_at : FnScope n_number_at p_number_at (defScope s_number_at) := ⟨rfl, rfl, rfl, by decide +kernel, rfl, by decide +kernel, by decide +kernel⟩
abbrev s_token_at : Stmt := topS 29
abbrev n_token_at : List Str := ["text", "at"]
abbrev p_token_at : List Str := ["text", "at"]
theorem sc_token_at : FnScope n_token_at p_token_at (defScope s_token_at) := ⟨rfl, rfl, rfl, by decide +kernel, rfl, by decide +kernel, by decide +kernel⟩
abbrev s_scan : Stmt := topS 30
abbrev n_scan : List Str := ["text", "tokens", "at", "token"]
abbrev p_scan : List Str := ["text"]
theorem sc_scan : FnScope n_scan p_scan (defScope s_scan) := ⟨rfl, rfl, rfl, by decide +kernel, rfl, by decide +kernel, by decide +kernel⟩
abbrev s_word_of : Stmt := topS 34
abbrev n_word_of : List Str := ["token", "kind", "characters", "_"]
abbrev p_word_of : List Str := ["token"]
theorem sc_word_of : FnScope n_word_of p_word_of (defScope s_word_of) := ⟨rfl, rfl, rfl, by decide +kernel, rfl, by decide +kernel, by decide +kernel⟩
abbrev s_words_at : Stmt := topS 35
abbrev n_words_at : List Str := ["grammar", "place", "here", "word", "_"]
abbrev p_words_at : List Str := ["grammar", "place"]
theorem sc_words_at : FnScope n_words_at p_words_at (defScope s_words_at) := ⟨rfl, rfl, rfl, by decide +kernel, rfl, by decide +kernel, by decide +kernel⟩
abbrev s_either : Stmt := topS 36
abbrev n_either : List Str := ["words"]
abbrev p_either : List Str := ["words"]
theorem sc_either : FnScope n_either p_either (defScope s_either) := ⟨rfl, rfl, rfl, by decide +kernel, rfl, by decide +kernel, by decide +kernel⟩
abbrev s_place_behind : Stmt := topS 37
abbrev n_place_behind : List Str := ["grammar", "place", "token", "behind", "here", "word", "after"]
abbrev p_place_behind : List Str := ["grammar", "place", "token"]
theorem sc_place_behind : FnScope n_place_behind p_place_behind (defScope s_place_behind) := ⟨rfl, rfl, rfl, by decide +kernel, rfl, by decide +kernel, by decide +kernel⟩
abbrev s_place_after : Stmt := topS 38
abbrev n_place_after : List Str := ["grammar", "tokens", "place", "token"]
abbrev p_place_after : List Str := ["grammar", "tokens"]
theorem sc_place_after : FnScope n_place_after p_place_after (defScope s_place_after) := ⟨rfl, rfl, rfl, by decide +kernel, rfl, by decide +kernel, by decide +kernel⟩
abbrev s_next_tokens : Stmt := topS 39
abbrev n_next_tokens : List Str := ["text", "kind", "grammar"]
abbrev p_next_tokens : List Str := ["text", "kind"]
theorem sc_next_tokens : FnScope n_next_tokens p_next_tokens (defScope s_next_tokens) := ⟨rfl, rfl, rfl, by decide +kernel, rfl, by decide +kernel, by decide +kernel⟩
abbrev s_parted_at_commas : Stmt := topS 40
abbrev n_parted_at_commas : List Str := ["tokens", "rows", "token"]
abbrev p_parted_at_commas : List Str := ["tokens"]
theorem sc_parted_at_commas : FnScope n_parted_at_commas p_parted_at_commas (defScope s_parted_at_commas) := ⟨rfl, rfl, rfl, by decide +kernel, rfl, by decide +kernel, by decide +kernel⟩
abbrev s_check_share_name : Stmt := topS 41
abbrev n_check_share_name : List Str := ["token", "known", "_", "name", "column"]
abbrev p_check_share_name : List Str := ["token", "known"]
theorem sc_check_share_name : FnScope n_check_share_name p_check_share_name (defScope s_check_share_name) := ⟨rfl, rfl, rfl, by decide +kernel, rfl, by decide +kernel, by decide +kernel⟩
abbrev s_quotient_of : Stmt := topS 42
abbrev n_quotient_of : List Str := ["tokens", "number", "_", "digits", "column"]
abbrev p_quotient_of : List Str := ["tokens"]
theorem sc_quotient_of : FnScope n_quotient_of p_quotient_of (defScope s_quotient_of) := ⟨rfl, rfl, rfl, by decide +kernel, rfl, by decide +kernel, by decide +kernel⟩
abbrev s_share_of : Stmt := topS 43
abbrev n_share_of : List Str := ["tokens", "number", "divisor"]
abbrev p_share_of : List Str := ["tokens"]
theorem sc_share_of : FnScope n_share_of p_share_of (defScope s_share_of) := ⟨rfl, rfl, rfl, by decide +kernel, rfl, by decide +kernel, by decide +kernel⟩
abbrev s_read_shares : Stmt := topS 44
abbrev n_read_shares : List Str := ["text", "tokens", "names", "shares", "row"]
abbrev p_read_shares : List Str := ["text"]
theorem sc_read_shares : FnScope n_read_shares p_read_shares (defScope s_read_shares) := ⟨rfl, rfl, rfl, by decide +kernel, rfl, by decide +kernel, by decide +kernel⟩
abbrev s_parted_in_runs : Stmt := topS 45
abbrev n_parted_in_runs : List Str := ["tokens", "rows", "token"]
abbrev p_parted_in_runs : List Str := ["tokens"]
theorem sc_parted_in_runs : FnScope n_parted_in_runs p_parted_in_runs (defScope s_parted_in_runs) := ⟨rfl, rfl, rfl, by decide +kernel, rfl, by decide +kernel, by decide +kernel⟩
abbrev s_run_of : Stmt := topS 46
abbrev n_run_of : List Str := ["row", "variants", "variant", "many"]
abbrev p_run_of : List Str := ["row", "variants"]
theorem sc_run_of : FnScope n_run_of p_run_of (defScope s_run_of) := ⟨rfl, rfl, rfl, by decide +kernel, rfl, by decide +kernel, by decide +kernel⟩
abbrev s_read_assignment : Stmt := topS 47
abbrev n_read_assignment : List Str := ["text", "variants", "tokens", "found", "row", "variant", "many"]
abbrev p_read_assignment : List Str := ["text", "variants"]
theorem sc_read_assignment : FnScope n_read_assignment p_read_assignment (defScope s_read_assignment) := ⟨rfl, rfl, rfl, by decide +kernel, rfl, by decide +kernel, by decide +kernel⟩
abbrev s__law_stream : Stmt := topS 49
abbrev n__law_stream : List Str := ["script"]
abbrev p__law_stream : List Str := ["script"]
theorem sc__law_stream : FnScope n__law_stream p__law_stream (defScope s__law_stream) := ⟨rfl, rfl, rfl, by decide +kernel, rfl, by decide +kernel, by decide +kernel⟩
abbrev s__law_next : Stmt := topS 50
abbrev n__law_next : List Str := ["stream", "many", "k", "cell", "digit"]
abbrev p__law_next : List Str := ["stream", "many"]
theorem sc__law_next : FnScope n__law_next p__law_next (defScope s__law_next) := ⟨rfl, rfl, rfl, by decide +kernel, rfl, by decide +kernel, by decide +kernel⟩
abbrev s__law_is_integer : Stmt := topS 51
abbrev n__law_is_integer : List Str := ["actual"]
abbrev p__law_is_integer : List Str := ["actual"]
theorem sc__law_is_integer : FnScope n__law_is_integer p__law_is_integer (defScope s__law_is_integer) := ⟨rfl, rfl, rfl, by decide +kernel, rfl, by decide +kernel, by decide +kernel⟩
abbrev s__law_equal : Stmt := topS 52
abbrev n__law_equal : List Str := ["actual", "due", "at"]
abbrev p__law_equal : List Str := ["actual", "due"]
theorem sc__law_equal : FnScope n__law_equal p__law_equal (defScope s__law_equal) := ⟨rfl, rfl, rfl, by decide +kernel, rfl, by decide +kernel, by decide +kernel⟩
abbrev s__law_pick : Stmt := topS 53
abbrev n__law_pick : List Str := ["stream", "rows"]
abbrev p__law_pick : List Str := ["stream", "rows"]
theorem sc__law_pick : FnScope n__law_pick p__law_pick (defScope s__law_pick) := ⟨rfl, rfl, rfl, by decide +kernel, rfl, by decide +kernel, by decide +kernel⟩
abbrev s__law_share_rows : Stmt := topS 54
abbrev n__law_share_rows : List Str := ["total", "whole", "stands", "below", "digits", "many"]
abbrev p__law_share_rows : List Str := []
theorem sc__law_share_rows : FnScope n__law_share_rows p__law_share_rows (defScope s__law_share_rows) := ⟨rfl, rfl, rfl, by decide +kernel, rfl, by decide +kernel, by decide +kernel⟩
abbrev s__law_run_rows : Stmt := topS 55
abbrev n__law_run_rows : List Str := ["variant", "run", "many"]
abbrev p__law_run_rows : List Str := []
theorem sc__law_run_rows : FnScope n__law_run_rows p__law_run_rows (defScope s__law_run_rows) := ⟨rfl, rfl, rfl, by decide +kernel, rfl, by decide +kernel, by decide +kernel⟩
abbrev s__law_told : Stmt := topS 56
abbrev n__law_told : List Str := ["word", "text", "variants", "problem"]
abbrev p__law_told : List Str := ["word", "text", "variants"]
theorem sc__law_told : FnScope n__law_told p__law_told (defScope s__law_told) := ⟨rfl, rfl, rfl, by decide +kernel, rfl, by decide +kernel, by decide +kernel⟩
abbrev s__law_refused : Stmt := topS 57
abbrev n__law_refused : List Str := ["which", "text", "other", "problem"]
abbrev p__law_refused : List Str := ["which", "text", "other"]
theorem sc__law_refused : FnScope n__law_refused p__law_refused (defScope s__law_refused) := ⟨rfl, rfl, rfl, by decide +kernel, rfl, by decide +kernel, by decide +kernel⟩
abbrev s_law : Stmt := topS 58
abbrev n_law : List Str := ["script", "stream", "blank", "word", "row", "words", "variants", "text", "column", "fine", "kind", "bad", "other", "told"]
abbrev p_law : List Str := ["script"]
theorem sc_law : FnScope n_law p_law (defScope s_law) := ⟨rfl, rfl, rfl, by decide +kernel, rfl, by decide +kernel, by decide +kernel⟩
abbrev s_ini_BadValue : Stmt := inClass (topS 3) 0
abbrev s_ini_TextError : Stmt := inClass (topS 4) 0
-- _law_told: stmt Try
-- _law_refused: stmt Try
structure Txt (K : PySem.W.Frag) (mg : Str → Option Value) : Prop where
  b_abs : mg "abs" = none
  b_all : mg "all" = none
  b_bool : mg "bool" = none
  b_int : mg "int" = none
  b_isinstance : mg "isinstance" = none
  b_len : mg "len" = none
  b_list : mg "list" = none
  b_range : mg "range" = none
  b_str : mg "str" = none
  b_sum : mg "sum" = none
  b_tuple : mg "tuple" = none
  b_zip : mg "zip" = none
  k_MOST_VARIANTS : ∃ t, mg "MOST_VARIANTS" = some (.int 5 t)
  k_MOST_BUCKETS : ∃ t, mg "MOST_BUCKETS" = some (.int 20 t)
  k_GREATEST_DIVISOR : ∃ t, mg "GREATEST_DIVISOR" = some (.int 10000 t)
  k_MOST_CHARACTERS : ∃ t, mg "MOST_CHARACTERS" = some (.int 400 t)
  k_LONGEST_NAME : ∃ t, mg "LONGEST_NAME" = some (.int 12 t)
  k_LONGEST_NUMBER : ∃ t, mg "LONGEST_NUMBER" = some (.int 6 t)
  k_LETTERS : ∃ t, mg "LETTERS" = some (.str (Str.ofString "abcdefghijklmnopqrstuvwxyz") t)
  k_DIGITS : ∃ t, mg "DIGITS" = some (.str (Str.ofString "0123456789") t)
  k_IN_NAMES : ∃ t, mg "IN_NAMES" = some (.str (Str.ofString "abcdefghijklmnopqrstuvwxyz0123456789_") t)
  k_SIGNS : ∃ t, mg "SIGNS" = some (.str (Str.ofString ",.*/") t)
  t_SHARES : ∃ a, mg "SHARES" = some (.ref a) ∧ GTup K a (grD gSH)
  t_ASSIGNMENT : ∃ a, mg "ASSIGNMENT" = some (.ref a) ∧ GTup K a (grD gAS)
  i_gcd : mg "gcd" = some (.builtin "math.gcd")
  i_lcm : mg "lcm" = some (.builtin "math.lcm")
end W

namespace W
open PySem PySem.Spec PyProof.Rows L2 Lm CwR
theorem ok_is_integer {P : Program} {w : World} {K : PySem.W.Frag} {mg : Str → Option Value} {base : Heap} {f : Addr} {fd : FuncData} (F : Fun K "is_integer" "is_integer" s_is_integer f fd) (T : Txt K mg) :
    FnOk P w K mg base CX0 1 f fd p_is_integer (sp_is_integer K) := by
  refine F.ok sc_is_integer (fun vs H Q E h => spD_len h (by rintro ds k d ⟨x, lo, hi, rfl, _⟩; rfl)) (fun cdv A outer s H vs Q E hr h => ⟨_, (pss_cons (ps_if (PW.pt (pw_or (pt_not (pt_val (pe_callB (k_isi (K := K) rfl) rfl T.b_isinstance (by decide +kernel) (pa_cons (pv 0) (pa_cons (pe_ty (n := "int") rfl T.b_int (by decide +kernel)) pa_nil))))) (pw_or1 (pt_val (pe_callB (k_isi (K := K) rfl) rfl T.b_isinstance (by decide +kernel) (pa_cons (pv 0) (pa_cons (pe_ty (n := "bool") rfl T.b_bool (by decide +kernel)) pa_nil))))))) (pss_one (ps_ret pe_bl)) pss_nil)
      (pss_one (ps_ret (pe_chain op_le op_le (pv 1) (pv 0) (pv 2))))), run_pure (N := n_is_integer) (fun ds k d hp => ?_) h⟩)
  obtain ⟨x, lo, hi, rfl, rfl, rfl⟩ := hp
  refine q_if (t_or (t_not (t_B (e_isi (d_var rfl) (kit_int x)))) fun _ => t_B (e_isi (d_var rfl) (kit_bool x))) (fun h => ?_) fun h => q_next ?_
  · refine q_ret d_bl (.inr ⟨rfl, rfl⟩) (.inl ?_)
    cases x <;> first | rfl | (simp [isIntTy, isBoolTy] at h)
  · cases x with
    | int i => exact s_ret (d_chain (d_var rfl) (d_var rfl) fun _ => d_var rfl) (.inr ⟨rfl, rfl⟩) (.inl rfl)
    | _ => simp [isIntTy, isBoolTy] at h

theorem ok_require {P : Program} {w : World} {K : PySem.W.Frag} {mg : Str → Option Value} {base : Heap} {f : Addr} {fd : FuncData} (F : Fun K "require" "require" s_require f fd) (T : Txt K mg) :
    FnOk P w K mg base CX0 1 f fd p_require (sp_require K) := by
  refine F.ok sc_require (fun vs H Q E h => spD_len h (by rintro ds k d ⟨nm, rfl, _⟩; rfl)) (fun cdv A outer s H vs Q E hr h => ⟨_, (pss_one (ps_if (pt_not (pt_val (pv 0))) (pss_one ps_never) pss_nil)), run_pure (N := n_require) (fun ds k d hp => ?_) h⟩)
  obtain ⟨nm, rfl, rfl, rfl⟩ := hp
  exact s_no ((t_not (t_B (d_var (d := .bool true) rfl))).to rfl) (s_next (.inr ⟨rfl, rfl, _, rfl⟩))

theorem ok_check_variants {P : Program} {w : World} {K : PySem.W.Frag} {mg : Str → Option Value} {base : Heap} {f : Addr} {fd : FuncData} (F : Fun K "check_variants" "check_variants" s_check_variants f fd) (T : Txt K mg) (c_require : Cal P w K mg base CX0 1 "require" p_require (sp_require K)) (c_is_integer : Cal P w K mg base CX0 1 "is_integer" p_is_integer (sp_is_integer K)) :
    FnOk P w K mg base CX0 2 f fd p_check_variants (sp_check_variants K) := by
  refine F.ok sc_check_variants (fun vs H Q E h => spD_len h (by rintro ds k d ⟨v, rfl, _⟩; rfl)) (fun cdv A outer s H vs Q E hr h => ⟨_, (pss_one (ps_expr (pe_cal c_require (hr.mono (by decide)) rfl pass0 (pa_cons (pe_cal c_is_integer (hr.mono (by decide)) rfl pass0 (pa_cons (pv 0) (pa_cons pe_int (pa_cons (pe_const rfl T.k_MOST_VARIANTS) pa_nil)))) (pa_cons pe_str pa_nil))))), run_pure (N := n_check_variants) (fun ds k d hp => ?_) h⟩)
  obtain ⟨v, rfl, h1, h5, rfl, rfl⟩ := hp
  refine s_drop (d_call (a_cons (d_call (a_cons (d_var rfl) (a_cons d_int (a_cons d_int a_nil))) ⟨.int v, 1, 5, rfl, rfl, rfl⟩) (a_cons d_str a_nil)) ⟨"variants", ?_, rfl, rfl⟩) (.inr ⟨rfl, rfl, _, rfl⟩)
  simp [isIntD, h1, h5]

theorem ok_in_lowest_terms {P : Program} {w : World} {K : PySem.W.Frag} {mg : Str → Option Value} {base : Heap} {f : Addr} {fd : FuncData} (F : Fun K "in_lowest_terms" "in_lowest_terms" s_in_lowest_terms f fd) (T : Txt K mg) :
    FnOk P w K mg base CX0 1 f fd p_in_lowest_terms (sp_in_lowest_terms K) := by
  refine F.ok sc_in_lowest_terms (fun vs H Q E h => spD_len h (by rintro ds k d ⟨n, m, rfl, _⟩; rfl)) (fun cdv A outer s H vs Q E hr h => ⟨_, (pss_cons (ps_set (i := 2) sc_in_lowest_terms.nd rfl (Or.inl rfl) (pe_callBfun cr_gcd rfl T.i_gcd (pa_cons (pv 0) (pa_cons (pv 1) pa_nil))))
      (pss_one (ps_ret (pe_tupN (pa_cons (pe_op op_fdiv (pv 0) (pv 2)) (pa_cons (pe_op op_fdiv (pv 1) (pv 2)) pa_nil)))))), run_pure (N := n_in_lowest_terms) (fun ds k d hp => ?_) h⟩)
  obtain ⟨n, m, rfl, h0, h1, rfl, rfl⟩ := hp
  have g0 := gc_pos (n := n) h0
  have g1 := gc_le (n := n) h0
  refine q_asg (d := .int (gcI n m)) (e_gcd (d_var rfl) (d_var rfl)) ?_
  exact s_ret (d_tup (a_consV (d_fdiv (d_var rfl) (d_var rfl) ⟨g0, by omega⟩) (a_consV (d_fdiv (d_var rfl) (d_var rfl) ⟨g0, by omega⟩) a_nil)) (by simp)) (.inr ⟨rfl, rfl⟩) (.inl rfl)

theorem ok_common_divisor_of {P : Program} {w : World} {K : PySem.W.Frag} {mg : Str → Option Value} {base : Heap} {f : Addr} {fd : FuncData} (F : Fun K "common_divisor_of" "common_divisor_of" s_common_divisor_of f fd) (T : Txt K mg) :
    FnOk P w K mg base CX0 1 f fd p_common_divisor_of (sp_common_divisor_of K) := by
  refine F.ok sc_common_divisor_of (fun vs H Q E h => spD_len h (by rintro ds k d ⟨qs, rfl, _⟩; rfl)) (fun cdv A outer s H vs Q E hr h => ⟨_, (pss_cons (ps_set (i := 1) sc_common_divisor_of.nd rfl (Or.inl rfl) pe_int)
      (pss_cons (ps_for PassesOwn.never rfl (k_seq (K := K) rfl (pv 0)) (k_tup (K := K) (n := 2) rfl rfl (pgs_cons (pg_name (i := 2) sc_common_divisor_of.nd rfl (Or.inl rfl)) (pgs_cons (pg_name (i := 3) sc_common_divisor_of.nd rfl (Or.inl rfl)) pgs_nil))) (pss_one (ps_set (i := 1) sc_common_divisor_of.nd rfl (Or.inl rfl) (pe_callBfun cr_lcm rfl T.i_lcm (pa_cons (pv 1) (pa_cons (pv 3) pa_nil))))))
      (pss_one (ps_ret (pv 1))))), run_pure (N := n_common_divisor_of) (fun ds k d hp => ?_) h⟩)
  obtain ⟨qs, rfl, hq, rfl, rfl⟩ := hp
  refine q_asg (d := .int ((1 : Nat) : Int)) d_int ?_
  refine q_for (i_seqL (d_var rfl) kv_ne) (fun n Γ1 => ∃ t2 t3, Γ1 = [some (.v (.list (qs.map qD))), some (.v (.int ((lcmL (qs.take n) : Nat) : Int))), t2, t3]) ⟨none, none, rfl⟩ (fun n a Γ1 hn' hI => ?_) (fun Γ1 hI => ?_)
  · obtain ⟨t2, t3, rfl⟩ := hI
    rw [List.map_map, List.getElem?_map] at hn'
    obtain ⟨q, hn, rfl⟩ := Option.map_eq_some_iff.mp hn'
    have hlt := (List.getElem?_eq_some_iff.mp hn).1
    have q2 := hq.2 q (List.mem_of_getElem? hn)
    have e : lcmL (qs.take (n + 1)) = Nat.lcm (lcmL (qs.take n)) q.2 := by
      unfold lcmL
      rw [List.take_add_one, hn, List.foldl_append]
      rfl
    exact ⟨_, _, g_tupD rfl (g_cons g_name (g_cons g_name g_nil)), s_asg (d := .int ((lcmL (qs.take (n + 1)) : Nat) : Int)) (Ev.to (e_lcm (d_var rfl) (d_var rfl) (lcm_sm hq hlt) (by omega)) (by rw [e])) (.inl ⟨_, .inl rfl, _, _, rfl⟩)⟩
  · obtain ⟨t2, t3, rfl⟩ := hI
    exact s_ret (Ev.to (d_var rfl) (by rw [List.length_map, List.length_map, List.take_length])) (.inr ⟨rfl, rfl⟩) (.inl rfl)

theorem ok_weights_of {P : Program} {w : World} {K : PySem.W.Frag} {mg : Str → Option Value} {base : Heap} {f : Addr} {fd : FuncData} (F : Fun K "weights_of" "weights_of" s_weights_of f fd) (T : Txt K mg) (c_common_divisor_of : Cal P w K mg base CX0 1 "common_divisor_of" p_common_divisor_of (sp_common_divisor_of K)) :
    FnOk P w K mg base CX0 2 f fd p_weights_of (sp_weights_of K) := by
  refine F.ok sc_weights_of (fun vs H Q E h => spD_len h (by rintro ds k d ⟨qs, rfl, _⟩; rfl)) (fun cdv A outer s H vs Q E hr h => ⟨_, (pss_cons (ps_set (i := 1) sc_weights_of.nd rfl (Or.inr rfl) (pe_cal c_common_divisor_of (hr.mono (by decide)) rfl pass0 (pa_cons (pv 0) pa_nil)))
      (pss_one (ps_ret (pe_callTy (k_tuple (K := K) rfl) rfl T.b_tuple (by decide +kernel) (pa_cons (pe_lc rfl sc_weights_of.nd (k_seq (K := K) rfl (pv 0)) (blkOk_by (own := [("number", 2), ("divisor", 3)]) (N := n_weights_of) (sc := defScope s_weights_of) (by decide +kernel)) (fun _ _ _ _ _ => by exact (k_tup (K := K) (n := 2) rfl rfl (pgs_cons (pg_name (i := 2) sc_weights_of.nd rfl (Or.inl rfl)) (pgs_cons (pg_name (i := 3) sc_weights_of.nd rfl (Or.inl rfl)) pgs_nil)))) (fun _ _ _ _ _ => by exact pts_nil) (fun _ _ _ _ _ => by exact (pe_op op_mulA (pv 2) (pe_op op_fdiv (pv 1) (pv 3))))) pa_nil))))), run_pure (N := n_weights_of) (fun ds k d hp => ?_) h⟩)
  obtain ⟨qs, rfl, hq, rfl, rfl⟩ := hp
  refine q_asg (d := .int ((lcmL qs : Nat) : Int)) (d_call (k := .v) (a_cons (d_var rfl) a_nil) ⟨qs, rfl, hq, rfl, rfl⟩) ?_
  refine s_ret (e_tupL (Ev.to (d_lcA (l := qs) (en := fun q => Im.d (qD q)) (fun q => .int ((q.1 * (lcmL qs / q.2) : Nat) : Int)) (by have h := i_seqL (c := pc K) (Γ := [some (.v (.list (qs.map qD))), some (.v (.int ((lcmL qs : Nat) : Int))), none, none]) (tl := tVar 0) (d_var rfl) kv_ne; rw [List.map_map] at h; exact h) (by have := hq.1; omega) fun q m => ?_) (y := .list (((wgtL qs).map fun n : Nat => (n : Int)).map .int)) (by unfold wgtL; rw [List.map_map, List.map_map]; rfl)) (flatAll_ints _)) (.inr ⟨rfl, flatT _⟩) (.inl rfl)
  have q2 := hq.2 q m
  exact ⟨_, _, g_tupD rfl (g_cons g_name (g_cons g_name g_nil)), fun j hj => hj, (Ev.to (e_mul (d_var rfl) (d_fdiv (d_var rfl) (d_var rfl) ⟨by omega, by omega⟩) (.inl (by omega))) (by rw [Int.natCast_mul, Int.natCast_ediv])).fo rfl⟩

theorem ok_are_the_whole {P : Program} {w : World} {K : PySem.W.Frag} {mg : Str → Option Value} {base : Heap} {f : Addr} {fd : FuncData} (F : Fun K "are_the_whole" "are_the_whole" s_are_the_whole f fd) (T : Txt K mg) (c_common_divisor_of : Cal P w K mg base CX0 1 "common_divisor_of" p_common_divisor_of (sp_common_divisor_of K)) (c_weights_of : Cal P w K mg base CX0 2 "weights_of" p_weights_of (sp_weights_of K)) :
    FnOk P w K mg base CX0 3 f fd p_are_the_whole (sp_are_the_whole K) := by
  refine F.ok sc_are_the_whole (fun vs H Q E h => spD_len h (by rintro ds k d ⟨qs, rfl, _⟩; rfl)) (fun cdv A outer s H vs Q E hr h => ⟨_, (pss_one (ps_ret (pe_cmpR (k_eq (K := K) rfl (rUnits hr)) (pe_callB (k_sum (K := K) rfl rfl) rfl T.b_sum (by decide +kernel) (pa_cons (pe_cal c_weights_of (hr.mono (by decide)) rfl pass0 (pa_cons (pv 0) pa_nil)) pa_nil)) (pe_cal c_common_divisor_of (hr.mono (by decide)) rfl pass0 (pa_cons (pv 0) pa_nil)) (nomark _)))), run_pure (N := n_are_the_whole) (fun ds k d hp => ?_) h⟩)
  obtain ⟨qs, rfl, hq, rfl, rfl⟩ := hp
  refine s_ret (Ev.to (e_eqI (e_sumT (d_call (k := .v) (d := tupD ((wgtL qs).map fun n : Nat => (n : Int))) (a_cons (d_var rfl) a_nil) ⟨qs, rfl, hq, rfl, rfl⟩)) (d_call (k := .v) (d := .int ((lcmL qs : Nat) : Int)) (a_cons (d_var rfl) a_nil) ⟨qs, rfl, hq, rfl, rfl⟩)) ?_) (.inr ⟨rfl, rfl⟩) (.inl rfl)
  unfold whoB
  rw [sum_cast]
  congr 1
  exact decide_eq_decide.mpr Int.ofNat_inj

theorem ok_check_text {P : Program} {w : World} {K : PySem.W.Frag} {mg : Str → Option Value} {base : Heap} {f : Addr} {fd : FuncData} (F : Fun K "check_text" "check_text" s_check_text f fd) (T : Txt K mg) (c_require : Cal P w K mg base CX0 1 "require" p_require (sp_require K)) :
    FnOk P w K mg base CX0 2 f fd p_check_text (sp_check_text K) := by
  refine F.ok sc_check_text (fun vs H Q E h => spD_len h (by rintro ds k d ⟨z, rfl, _⟩; rfl)) (fun cdv A outer s H vs Q E hr h => ⟨_, (pss_one (ps_expr (pe_cal c_require (hr.mono (by decide)) rfl pass0 (pa_cons (pe_and (pe_callB (k_isi (K := K) rfl) rfl T.b_isinstance (by decide +kernel) (pa_cons (pv 0) (pa_cons (pe_ty (n := "str") rfl T.b_str (by decide +kernel)) pa_nil))) (pe_and (pe_cmpR op_le (pe_callB (k_lenU (K := K) rfl) rfl T.b_len (by decide +kernel) (pa_cons (pv 0) pa_nil)) (pe_const rfl T.k_MOST_CHARACTERS) (nomark _)) (pe_one (pe_cmpR op_notInS pe_str (pv 0) (by with_unfolding_all rfl))))) (pa_cons pe_str pa_nil))))), run_pure (N := n_check_text) (fun ds k d hp => ?_) h⟩)
  obtain ⟨z, rfl, h, rfl, rfl⟩ := hp
  unfold txtB at h
  rw [Bool.and_eq_true, decide_eq_true_eq, Bool.not_eq_true', decide_eq_false_iff_not] at h
  exact s_drop (d_call (k := .v) (d := .none) (a_cons (Ev.to (d_andV (a := true) (b := true) (e_isi (d_var rfl) (kit_str (.str z))) fun _ => Ev.to (d_andV (a := true) (b := true) (Ev.to (d_le (e_lenS (d_var rfl) (by omega)) d_int) (congrArg PyData.bool (decide_eq_true (by omega)))) fun _ => Ev.to (e_notInS (ch := 10) d_str (d_var rfl)) (by rw [decide_eq_false h.2]; rfl)) rfl) (y := .bool true) rfl) (a_cons d_str a_nil)) ⟨_, rfl, rfl, rfl⟩) (.inr ⟨rfl, rfl, _, rfl⟩)

theorem ok_run_at {P : Program} {w : World} {K : PySem.W.Frag} {mg : Str → Option Value} {base : Heap} {f : Addr} {fd : FuncData} (F : Fun K "run_at" "run_at" s_run_at f fd) (T : Txt K mg) :
    FnOk P w K mg base CX0 1 f fd p_run_at (sp_run_at K) := by
  refine F.ok sc_run_at (fun vs H Q E h => spD_len h (by rintro ds k d ⟨z, C, a, rfl, _⟩; rfl)) (fun cdv A outer s H vs Q E hr h => ⟨_, (pss_cons (ps_set (i := 3) sc_run_at.nd rfl (Or.inl rfl) (pv 1))
      (pss_cons (ps_while PassesOwn.never (PW.pt (pw_and (pt_cmpR op_lt (pv 3) (pe_callB (k_lenU (K := K) rfl) rfl T.b_len (by decide +kernel) (pa_cons (pv 0) pa_nil)) (nomark _)) (pw_and1 (pt_cmpR op_inS (pe_ix (k_ix (K := K) rfl) (pv 0) (pv 3) (fun _ _ => rfl)) (pv 2) (by with_unfolding_all rfl))))) (pss_one (ps_aug (i := 3) sc_run_at.nd rfl (Or.inl rfl) pe_int ip_add)))
      (pss_one (ps_ret (pe_slice (k_slS (K := K) rfl) (pv 0) (po_some (pv 1)) (po_some (pv 3))))))), run_pure (N := n_run_at) (fun ds k d hp => ?_) h⟩)
  obtain ⟨z, C, a, rfl, ha, hz, rfl, rfl⟩ := hp
  have rl := run_len ((sgL z).drop a) (sgL C)
  rw [List.length_drop, sg_len] at rl
  refine q_asg (d := .int (a : Int)) (d_var rfl) ?_
  refine q_while (fun N Γ1 => ∃ j, j + N = (runS ((sgL z).drop a) (sgL C)).length ∧ Γ1 = [some (.v (.str z)), some (.v (.int (a : Int))), some (.v (.str C)), some (.v (.int ((a + j : Nat) : Int)))]) (n0 := (runS ((sgL z).drop a) (sgL C)).length) ⟨0, by omega, rfl⟩ fun N Γ1 hI => ?_
  obtain ⟨j, hj, rfl⟩ := hI
  cases N with
  | zero =>
    refine ⟨false, ?_, fun w => (nomatch w), fun _ => ?_⟩
    · by_cases q : a + j < z.length
      · obtain ⟨ch, hc⟩ : ∃ ch, (sgL z)[a + j]? = some ch := ⟨_, List.getElem?_eq_getElem (by rw [sg_len]; exact q)⟩
        have no : ch ∉ sgL C := run_at_out (L := (sgL z).drop a) ch (by rw [List.getElem?_drop, ← hj]; exact hc)
        exact EvT.to (t_and (a := true) (b := false) (EvT.to (t_test (d_lt (d_var rfl) (e_lenS (d_var rfl) (by omega)))) (decide_eq_true (by omega))) fun _ => EvT.to (t_test (e_inS (e_ixS (d_var rfl) (d_var rfl) (by omega) (atI_nat hc)) (d_var rfl))) (decide_eq_false no)) rfl
      · exact EvT.to (t_and (a := false) (b := false) (EvT.to (t_test (d_lt (d_var rfl) (e_lenS (d_var rfl) (by omega)))) (decide_eq_false (by omega))) fun w => nomatch w) rfl
    · refine s_ret (Ev.to (e_slS (d_var rfl) (o_some (d_var rfl)) (o_some (d_var rfl)) (by omega)) ?_) (.inr ⟨rfl, rfl⟩) (.inl rfl)
      congr 1
      have e : (cutS z (some (a : Int)) (some ((a + j : Nat) : Int))).cps.toList = runS ((sgL z).drop a) (sgL C) := by
        rw [cut_sign (by omega) (by omega), show a + j - a = j by omega, show j = (runS ((sgL z).drop a) (sgL C)).length by omega, run_take]
      show cutS z _ _ = strN _
      rw [← e]
      rfl
  | succ N =>
    have q : a + j < z.length := by omega
    obtain ⟨ch, hc, hin⟩ := run_at_in (L := (sgL z).drop a) (C := sgL C) (j := j) (by omega)
    rw [List.getElem?_drop] at hc
    refine ⟨true, EvT.to (t_and (a := true) (b := true) (EvT.to (t_test (d_lt (d_var rfl) (e_lenS (d_var rfl) (by omega)))) (decide_eq_true (by omega))) fun _ => EvT.to (t_test (e_inS (e_ixS (d_var rfl) (d_var rfl) (by omega) (atI_nat hc)) (d_var rfl))) (decide_eq_true hin)) rfl, fun _ => ?_, fun w => nomatch w⟩
    exact s_aug (f := fun a b => a + b) rfl d_int (.inl ⟨_, N, .inl rfl, by omega, j + 1, by omega, by simp; omega⟩)

theorem ok_name_at {P : Program} {w : World} {K : PySem.W.Frag} {mg : Str → Option Value} {base : Heap} {f : Addr} {fd : FuncData} (F : Fun K "name_at" "name_at" s_name_at f fd) (T : Txt K mg) (c_run_at : Cal P w K mg base CX0 1 "run_at" p_run_at (sp_run_at K)) :
    FnOk P w K mg base CX0 2 f fd p_name_at (sp_name_at K) := by
  refine F.ok sc_name_at (fun vs H Q E h => spD_len h (by rintro ds k d ⟨z, a, rfl, _⟩; rfl)) (fun cdv A outer s H vs Q E hr h => ⟨_, (pss_cons (ps_set (i := 2) sc_name_at.nd rfl (Or.inl rfl) (pe_cal c_run_at (hr.mono (by decide)) rfl pass0 (pa_cons (pv 0) (pa_cons (pv 1) (pa_cons (pe_constS rfl T.k_IN_NAMES) pa_nil)))))
      (pss_cons (ps_if (pt_cmpR op_gt (pe_callB (k_lenU (K := K) rfl) rfl T.b_len (by decide +kernel) (pa_cons (pv 2) pa_nil)) (pe_const rfl T.k_LONGEST_NAME) (nomark _)) (pss_one ps_never) pss_nil)
      (pss_one (ps_ret (pe_tupN (pa_cons pe_str (pa_cons (pv 2) (pa_cons (pe_op (k_add (K := K) rfl) (pv 1) pe_int) pa_nil)))))))), run_pure (N := n_name_at) (fun ds k d hp => ?_) h⟩)
  obtain ⟨z, a, rfl, ha, hz, hr', rfl, rfl⟩ := hp
  refine q_asg (d := .str (strN (runS ((sgL z).drop a) (sgL sNAM)))) (d_call (k := .v) (a_cons (d_var rfl) (a_cons (d_var rfl) (a_cons d_str a_nil))) ⟨z, sNAM, a, rfl, ha, hz, rfl, rfl⟩) ?_
  refine q_no (EvT.to (t_test (d_gt (e_lenS (d_var rfl) (by rw [strN_len]; omega)) d_int)) (decide_eq_false (by rw [strN_len]; omega))) ?_
  exact s_ret (Ev.to (d_tup (a_consV d_str (a_consV (d_var rfl) (a_consV (e_add (d_var rfl) d_int) a_nil))) (by simp)) rfl) (.inr ⟨rfl, rfl⟩) (.inl rfl)

theorem ok_number_at {P : Program} {w : World} {K : PySem.W.Frag} {mg : Str → Option Value} {base : Heap} {f : Addr} {fd : FuncData} (F : Fun K "number_at" "number_at" s_number_at f fd) (T : Txt K mg) (c_run_at : Cal P w K mg base CX0 1 "run_at" p_run_at (sp_run_at K)) :
    FnOk P w K mg base CX0 2 f fd p_number_at (sp_number_at K) := by
  refine F.ok sc_number_at (fun vs H Q E h => spD_len h (by rintro ds k d ⟨z, a, rfl, _⟩; rfl)) (fun cdv A outer s H vs Q E hr h => ⟨_, (pss_cons (ps_set (i := 2) sc_number_at.nd rfl (Or.inl rfl) (pe_cal c_run_at (hr.mono (by decide)) rfl pass0 (pa_cons (pv 0) (pa_cons (pv 1) (pa_cons (pe_constS rfl T.k_DIGITS) pa_nil)))))
      (pss_cons (ps_if (pt_cmpR op_gt (pe_callB (k_lenU (K := K) rfl) rfl T.b_len (by decide +kernel) (pa_cons (pv 2) pa_nil)) (pe_const rfl T.k_LONGEST_NUMBER) (nomark _)) (pss_one ps_never) pss_nil)
      (pss_one (ps_ret (pe_tupN (pa_cons pe_str (pa_cons (pv 2) (pa_cons (pe_op (k_add (K := K) rfl) (pv 1) pe_int) pa_nil)))))))), run_pure (N := n_number_at) (fun ds k d hp => ?_) h⟩)
  obtain ⟨z, a, rfl, ha, hz, hr', rfl, rfl⟩ := hp
  refine q_asg (d := .str (strN (runS ((sgL z).drop a) (sgL sDIG)))) (d_call (k := .v) (a_cons (d_var rfl) (a_cons (d_var rfl) (a_cons d_str a_nil))) ⟨z, sDIG, a, rfl, ha, hz, rfl, rfl⟩) ?_
  refine q_no (EvT.to (t_test (d_gt (e_lenS (d_var rfl) (by rw [strN_len]; omega)) d_int)) (decide_eq_false (by rw [strN_len]; omega))) ?_
  exact s_ret (Ev.to (d_tup (a_consV d_str (a_consV (d_var rfl) (a_consV (e_add (d_var rfl) d_int) a_nil))) (by simp)) rfl) (.inr ⟨rfl, rfl⟩) (.inl rfl)

theorem ok_token_at {P : Program} {w : World} {K : PySem.W.Frag} {mg : Str → Option Value} {base : Heap} {f : Addr} {fd : FuncData} (F : Fun K "token_at" "token_at" s_token_at f fd) (T : Txt K mg) (c_name_at : Cal P w K mg base CX0 2 "name_at" p_name_at (sp_name_at K)) (c_number_at : Cal P w K mg base CX0 2 "number_at" p_number_at (sp_number_at K)) :
    FnOk P w K mg base CX0 3 f fd p_token_at (sp_token_at K) := by
  refine F.ok sc_token_at (fun vs H Q E h => spD_len h (by rintro ds k d ⟨z, a, kd, r, rfl, _⟩; rfl)) (fun cdv A outer s H vs Q E hr h => ⟨_, (pss_cons (ps_if (pt_cmpR op_inS (pe_ix (k_ix (K := K) rfl) (pv 0) (pv 1) (fun _ _ => rfl)) (pe_constS rfl T.k_LETTERS) (by with_unfolding_all rfl)) (pss_one (ps_ret (pe_cal c_name_at (hr.mono (by decide)) rfl pass0 (pa_cons (pv 0) (pa_cons (pv 1) pa_nil))))) pss_nil)
      (pss_cons (ps_if (pt_cmpR op_inS (pe_ix (k_ix (K := K) rfl) (pv 0) (pv 1) (fun _ _ => rfl)) (pe_constS rfl T.k_DIGITS) (by with_unfolding_all rfl)) (pss_one (ps_ret (pe_cal c_number_at (hr.mono (by decide)) rfl pass0 (pa_cons (pv 0) (pa_cons (pv 1) pa_nil))))) pss_nil)
      (pss_cons (ps_if (pt_cmpR op_inS (pe_ix (k_ix (K := K) rfl) (pv 0) (pv 1) (fun _ _ => rfl)) (pe_constS rfl T.k_SIGNS) (by with_unfolding_all rfl)) (pss_one (ps_ret (pe_tupN (pa_cons pe_str (pa_cons (pe_ix (k_ix (K := K) rfl) (pv 0) (pv 1) (fun _ _ => rfl)) (pa_cons (pe_op (k_add (K := K) rfl) (pv 1) pe_int) pa_nil)))))) pss_nil)
      (pss_one ps_never)))), run_pure (N := n_token_at) (fun ds k d hp => ?_) h⟩)
  obtain ⟨z, a, kd, r, rfl, ha, hz, ht, rfl, rfl⟩ := hp
  have g : (sgL z)[a]? = some ((sgL z).getD a 0) := by rw [List.getD_eq_getElem?_getD, List.getElem?_eq_getElem (by rw [sg_len]; exact ha)]; rfl
  have ix : ∀ {Γ : List (Option Rs)}, Γ[0]? = some (some (.v (.str z))) → Γ[1]? = some (some (.v (.int (a : Int)))) → Ev (pc K) (tOp (rIx K) (tVar 0) (tVar 1)) Γ .v (.str ⟨#[(sgL z).getD a 0]⟩) := fun h0 h1 => e_ixS (d_var h0) (d_var h1) (by omega) (atI_nat g)
  unfold tokA at ht
  by_cases m1 : (sgL z).getD a 0 ∈ sgL sLET
  · rw [if_pos m1] at ht
    split at ht
    · cases ht
    · next q =>
      cases ht
      exact q_if (a := true) (EvT.to (t_test (e_inS (ix rfl rfl) d_str)) (decide_eq_true m1)) (fun _ => q_ret (d_call (k := .v) (a_cons (d_var rfl) (a_cons (d_var rfl) a_nil)) ⟨z, a, rfl, by omega, hz, by omega, rfl, rfl⟩) (.inr ⟨rfl, rfl⟩) (.inl rfl)) fun e => nomatch e
  rw [if_neg m1] at ht
  refine q_no (EvT.to (t_test (e_inS (ix rfl rfl) d_str)) (decide_eq_false m1)) ?_
  by_cases m2 : (sgL z).getD a 0 ∈ sgL sDIG
  · rw [if_pos m2] at ht
    split at ht
    · cases ht
    · next q =>
      cases ht
      exact q_if (a := true) (EvT.to (t_test (e_inS (ix rfl rfl) d_str)) (decide_eq_true m2)) (fun _ => q_ret (d_call (k := .v) (a_cons (d_var rfl) (a_cons (d_var rfl) a_nil)) ⟨z, a, rfl, by omega, hz, by omega, rfl, rfl⟩) (.inr ⟨rfl, rfl⟩) (.inl rfl)) fun e => nomatch e
  rw [if_neg m2] at ht
  refine q_no (EvT.to (t_test (e_inS (ix rfl rfl) d_str)) (decide_eq_false m2)) ?_
  by_cases m3 : (sgL z).getD a 0 ∈ sgL sSIG
  · rw [if_pos m3] at ht
    cases ht
    exact q_if (a := true) (EvT.to (t_test (e_inS (ix rfl rfl) d_str)) (decide_eq_true m3)) (fun _ => q_ret (Ev.to (d_tup (a_consV d_str (a_consV (ix rfl rfl) (a_consV (e_add (d_var rfl) d_int) a_nil))) (by simp)) rfl) (.inr ⟨rfl, rfl⟩) (.inl rfl)) fun e => nomatch e
  · rw [if_neg m3] at ht
    cases ht

theorem ok_scan {P : Program} {w : World} {K : PySem.W.Frag} {mg : Str → Option Value} {base : Heap} {f : Addr} {fd : FuncData} (F : Fun K "scan" "scan" s_scan f fd) (T : Txt K mg) (c_check_text : Cal P w K mg base CX0 2 "check_text" p_check_text (sp_check_text K)) (c_token_at : Cal P w K mg base CX0 3 "token_at" p_token_at (sp_token_at K)) :
    FnOk P w K mg base CX0 4 f fd p_scan (sp_scan K) := by
  refine F.ok sc_scan (fun vs H Q E h => spD_len h (by rintro ds k d ⟨z, ts, rfl, _⟩; rfl)) (fun cdv A outer s H vs Q E hr h => ⟨_, (pss_cons (ps_expr (pe_cal c_check_text (hr.mono (by decide)) rfl pass0 (pa_cons (pv 0) pa_nil)))
      (pss_cons (ps_set (i := 1) sc_scan.nd rfl (Or.inl rfl) (pe_lst pa_nil))
      (pss_cons (ps_set (i := 2) sc_scan.nd rfl (Or.inl rfl) pe_int)
      (pss_cons (ps_while PassesOwn.never (pt_cmpR op_lt (pv 2) (pe_callB (k_lenU (K := K) rfl) rfl T.b_len (by decide +kernel) (pa_cons (pv 0) pa_nil)) (nomark _)) (pss_one (ps_if (pt_cmpR (k_eq (K := K) rfl (rUnits hr)) (pe_ix (k_ix (K := K) rfl) (pv 0) (pv 2) (fun _ _ => rfl)) pe_str (nomark _)) (pss_one (ps_aug (i := 2) sc_scan.nd rfl (Or.inl rfl) pe_int ip_add)) (pss_cons (ps_set (i := 3) sc_scan.nd rfl (Or.inl rfl) (pe_cal c_token_at (hr.mono (by decide)) rfl pass0 (pa_cons (pv 0) (pa_cons (pv 2) pa_nil))))
      (pss_cons (ps_expr (k_bm (K := K) rfl PySem.F.plainAttrs_list PySem.F.slot_list_append PySem.F.type_list_append mt_append (pv 1) (pa_cons (pv 3) pa_nil)))
      (pss_one (ps_aug (i := 2) sc_scan.nd rfl (Or.inl rfl) (pe_callB (k_lenU (K := K) rfl) rfl T.b_len (by decide +kernel) (pa_cons (pe_ix (k_ix (K := K) rfl) (pv 3) pe_int (fun _ _ => rfl)) pa_nil)) ip_add)))))))
      (pss_cons (ps_expr (k_bm (K := K) rfl PySem.F.plainAttrs_list PySem.F.slot_list_append PySem.F.type_list_append mt_append (pv 1) (pa_cons (pe_tupN (pa_cons pe_str (pa_cons pe_str (pa_cons (pe_op (k_add (K := K) rfl) (pe_callB (k_lenU (K := K) rfl) rfl T.b_len (by decide +kernel) (pa_cons (pv 0) pa_nil)) pe_int) pa_nil)))) pa_nil)))
      (pss_one (ps_ret (pv 1)))))))), run_pure (N := n_scan) (fun ds k d hp => ?_) h⟩)
  obtain ⟨z, ts, rfl, hb, hs, rfl, rfl⟩ := hp
  have hz : z.length ≤ 400 := by
    unfold txtB at hb
    rw [Bool.and_eq_true, decide_eq_true_eq] at hb
    exact hb.1
  refine q_drop (d_call (k := .v) (d := .none) (a_cons (d_var rfl) a_nil) ⟨z, rfl, hb, rfl, rfl⟩) ?_
  refine q_asgO (d := .list (([] : List Tok9).map tokD)) (d_lst (kv := false) (ds := []) a_nil rfl (by decide)) ?_
  refine q_asg (d := .int ((0 : Nat) : Int)) d_int ?_
  refine q_while (fun N Γ1 => ∃ (a : Nat) (acc rest : List Tok9) (t3 : Option Rs), a ≤ z.length ∧ z.length ≤ a + N ∧ acc.length ≤ a ∧ acc ++ rest = ts ∧ scn (sgL z) N a = .ok rest ∧ Γ1 = [some (.v (.str z)), some (.o (.list (acc.map tokD))), some (.v (.int (a : Int))), t3]) (n0 := z.length) ⟨0, [], ts, _, by omega, by omega, by simp, rfl, hs, rfl⟩ fun N Γ1 hI => ?_
  obtain ⟨a, acc, rest, t3, ha, hn, hac, hts, hr', rfl⟩ := hI
  by_cases q : a < z.length
  · refine ⟨true, EvT.to (t_test (d_lt (d_var rfl) (e_lenS (d_var rfl) (by omega)))) (decide_eq_true (by omega)), fun _ => ?_, fun w => nomatch w⟩
    have g : (sgL z)[a]? = some ((sgL z).getD a 0) := by rw [List.getD_eq_getElem?_getD, List.getElem?_eq_getElem (by rw [sg_len]; exact q)]; rfl
    obtain ⟨M, rfl⟩ : ∃ M, N = M + 1 := ⟨N - 1, by omega⟩
    unfold scn at hr'
    rw [if_pos (by rw [sg_len]; exact q)] at hr'
    refine s_if (a := decide ((sgL z).getD a 0 = 32)) (EvT.to (t_test (e_eqS (v := .str ⟨#[(sgL z).getD a 0]⟩) (w := .str ⟨#[32]⟩) (e_ixS (d_var rfl) (d_var rfl) (by omega) (atI_nat g)) d_str rfl rfl rfl rfl)) ?_) (fun w => ?_) (fun w => ?_)
    · by_cases e : (sgL z).getD a 0 = 32
      · rw [e]; simp
      · rw [decide_eq_false e]
        exact decide_eq_false fun w => e (by simpa using w)
    · rw [if_pos (of_decide_eq_true w)] at hr'
      exact s_aug (f := fun a b => a + b) rfl d_int (.inl ⟨_, M, .inl rfl, by omega, a + 1, acc, rest, _, by omega, by omega, by omega, hts, hr', rfl⟩)
    · rw [if_neg (of_decide_eq_false w)] at hr'
      cases ht : tokA (sgL z) a with
      | error x => rw [ht] at hr'; cases hr'
      | ok p =>
        obtain ⟨kd, r⟩ := p
        rw [ht] at hr'
        obtain ⟨l1, l2⟩ := tok_len ht (by rw [sg_len]; exact q)
        rw [sg_len] at l2
        dsimp only at hr'
        cases hu : scn (sgL z) M (a + r.length) with
        | error x => rw [hu] at hr'; cases hr'
        | ok us =>
          rw [hu] at hr'
          cases hr'
          refine q_asg (d := tokD (kd, r, a + 1)) (d_call (k := .v) (a_cons (d_var rfl) (a_cons (d_var rfl) a_nil)) ⟨z, a, kd, r, rfl, q, by omega, ht, rfl, rfl⟩) ?_
          refine q_app rfl (d := tokD (kd, r, a + 1)) (d_var rfl) rfl (by simp; omega) ?_
          exact s_aug (f := fun a b => a + b) rfl (e_lenS (e_ixT (d := .str (strN r)) (d_var rfl) d_int rfl rfl) (by rw [strN_len]; omega)) (.inl ⟨_, M, .inl rfl, by omega, a + r.length, acc ++ [(kd, r, a + 1)], us, some (.v (tokD (kd, r, a + 1))), by omega, by omega, by simp; omega, by rw [← hts]; simp, hu, by rw [strN_len, List.map_append]; simp⟩)
  · refine ⟨false, EvT.to (t_test (d_lt (d_var rfl) (e_lenS (d_var rfl) (by omega)))) (decide_eq_false (by omega)), fun w => (nomatch w), fun _ => ?_⟩
    have er : rest = [] := by
      cases N with
      | zero => cases hr'; rfl
      | succ M => unfold scn at hr'; rw [if_neg (by rw [sg_len]; exact q)] at hr'; cases hr'; rfl
    subst er
    rw [List.append_nil] at hts
    subst hts
    refine q_app rfl (d := tokD ("end", [], z.length + 1)) (Ev.to (d_tup (a_consV d_str (a_consV d_str (a_consV (e_add (e_lenS (d_var rfl) (by omega)) d_int) a_nil))) (by simp)) rfl) rfl (by simp; omega) ?_
    exact s_retO rfl (.inl rfl)

theorem ok_word_of {P : Program} {w : World} {K : PySem.W.Frag} {mg : Str → Option Value} {base : Heap} {f : Addr} {fd : FuncData} (F : Fun K "word_of" "word_of" s_word_of f fd) (T : Txt K mg) :
    FnOk P w K mg base CX0 1 f fd p_word_of (sp_word_of K) := by
  refine F.ok sc_word_of (fun vs H Q E h => spD_len h (by rintro ds k d ⟨t, rfl, _⟩; rfl)) (fun cdv A outer s H vs Q E hr h => ⟨_, (pss_cons (ps_asg (pv 0) (k_tupA (K := K) (n := 3) rfl rfl (pgs_cons (pg_name (i := 1) sc_word_of.nd rfl (Or.inl rfl)) (pgs_cons (pg_name (i := 2) sc_word_of.nd rfl (Or.inl rfl)) (pgs_cons (pg_name (i := 3) sc_word_of.nd rfl (Or.inl rfl)) pgs_nil)))))
      (pss_cons (ps_if (pt_cmpR (k_eq (K := K) rfl (rUnits hr)) (pv 1) pe_str (nomark _)) (pss_one (ps_ret (pe_joined (PJ.cons pe_str (PJ.cons (pe_fmt (pv 2)) (PJ.cons pe_str PJ.nil)))))) pss_nil)
      (pss_one (ps_ret (pe_ifExp (pt_cmpR (k_eq (K := K) rfl (rUnits hr)) (pv 1) pe_str (nomark _)) pe_str (pe_joined (PJ.cons pe_str (PJ.cons (pe_fmt (pv 1)) PJ.nil)))))))), run_pure (N := n_word_of) (fun ds k d hp => ?_) h⟩)
  obtain ⟨⟨kd, r, a⟩, rfl, ⟨hk, hl, h1⟩, rfl, rfl⟩ := hp
  have hl : r.length ≤ 400 := hl
  refine q_unp (fun d => d = tokD (kd, r, a)) (Ev.n (d_var rfl)) ?_
  rintro _ rfl
  refine ⟨_, _, _, .inl rfl, rfl, rfl, g_cons g_name (g_cons g_name (g_cons g_name g_nil)), ?_⟩
  have n1 : ¬ Str.ofString "name" = Str.ofString "sign" := by decide +kernel
  have n2 : ¬ Str.ofString "name" = Str.ofString "end" := by decide +kernel
  have n3 : ¬ Str.ofString "number" = Str.ofString "sign" := by decide +kernel
  have n4 : ¬ Str.ofString "number" = Str.ofString "end" := by decide +kernel
  have n5 : ¬ Str.ofString "end" = Str.ofString "sign" := by decide +kernel
  have l1 : (Str.ofString "a ").length = 2 := by decide +kernel
  have l2 : (Str.ofString "\"").length = 1 := by decide +kernel
  have l3 : (Str.ofString "name").length = 4 := by decide +kernel
  have l4 : (Str.ofString "number").length = 6 := by decide +kernel
  rcases hk with e | e | e | e
  · have e : kd = "name" := e
    subst e
    have w : wordS ("name", r, a) = Str.ofString "a " ++ Str.ofString "name" := rfl
    refine q_no (EvT.to (t_eqSS (a := Str.ofString "name") (d_var rfl) d_str) (decide_eq_false n1)) ?_
    exact s_ret (d_if (a := false) (EvT.to (t_eqSS (a := Str.ofString "name") (d_var rfl) d_str) (decide_eq_false n2)) (fun e => nomatch e) fun _ => e_js (.cons d_str (.cons (e_fmt (z := Str.ofString "name") (d_var rfl) (by omega)) .nil)) (by show 0 + (Str.ofString "a ").length + (Str.ofString "name").length ≤ _; omega) (by rw [w]; show (Str.empty ++ _) ++ _ = _; rw [emp_app])) (.inr ⟨rfl, rfl⟩) (.inl rfl)
  · have e : kd = "number" := e
    subst e
    have w : wordS ("number", r, a) = Str.ofString "a " ++ Str.ofString "number" := rfl
    refine q_no (EvT.to (t_eqSS (a := Str.ofString "number") (d_var rfl) d_str) (decide_eq_false n3)) ?_
    exact s_ret (d_if (a := false) (EvT.to (t_eqSS (a := Str.ofString "number") (d_var rfl) d_str) (decide_eq_false n4)) (fun e => nomatch e) fun _ => e_js (.cons d_str (.cons (e_fmt (z := Str.ofString "number") (d_var rfl) (by omega)) .nil)) (by show 0 + (Str.ofString "a ").length + (Str.ofString "number").length ≤ _; omega) (by rw [w]; show (Str.empty ++ _) ++ _ = _; rw [emp_app])) (.inr ⟨rfl, rfl⟩) (.inl rfl)
  · have e : kd = "sign" := e
    subst e
    refine q_if (a := true) (EvT.to (t_eqSS (a := Str.ofString "sign") (d_var rfl) d_str) (decide_eq_true rfl)) (fun _ => ?_) fun e => nomatch e
    exact q_ret (e_js (.cons d_str (.cons (e_fmt (z := strN r) (d_var rfl) (by rw [strN_len]; omega)) (.cons d_str .nil))) (by show 0 + (Str.ofString "\"").length + (strN r).length + (Str.ofString "\"").length ≤ _; rw [strN_len]; omega) (by show ((Str.empty ++ _) ++ _) ++ _ = _; rw [emp_app]; rfl)) (.inr ⟨rfl, rfl⟩) (.inl rfl)
  · have e : kd = "end" := e
    subst e
    refine q_no (EvT.to (t_eqSS (a := Str.ofString "end") (d_var rfl) d_str) (decide_eq_false n5)) ?_
    exact s_ret (d_if (a := true) (EvT.to (t_eqSS (a := Str.ofString "end") (d_var rfl) d_str) (decide_eq_true rfl)) (fun _ => Ev.to d_str rfl) fun e => nomatch e) (.inr ⟨rfl, rfl⟩) (.inl rfl)

theorem ok_words_at {P : Program} {w : World} {K : PySem.W.Frag} {mg : Str → Option Value} {base : Heap} {f : Addr} {fd : FuncData} (F : Fun K "words_at" "words_at" s_words_at f fd) (T : Txt K mg) :
    FnOk P w K mg base CX0 1 f fd p_words_at (sp_words_at K) := by
  refine F.ok sc_words_at (fun vs H Q E h => spD_len h (by rintro ds k d ⟨g, p, rfl, _⟩; rfl)) (fun cdv A outer s H vs Q E hr h => ⟨_, (pss_one (ps_ret (pe_lc rfl sc_words_at.nd (k_seq (K := K) rfl (pv 0)) (blkOk_by (own := [("here", 2), ("word", 3), ("_", 4)]) (N := n_words_at) (sc := defScope s_words_at) (by decide +kernel)) (fun _ _ _ _ _ => by exact (k_tup (K := K) (n := 3) rfl rfl (pgs_cons (pg_name (i := 2) sc_words_at.nd rfl (Or.inl rfl)) (pgs_cons (pg_name (i := 3) sc_words_at.nd rfl (Or.inl rfl)) (pgs_cons (pg_name (i := 4) sc_words_at.nd rfl (Or.inl rfl)) pgs_nil))))) (fun _ _ _ _ _ => by exact (pts_one (pt_cmpR (k_eq (K := K) rfl (rUnits hr)) (pv 2) (pv 1) (nomark _)))) (fun _ _ _ _ _ => by exact (pv 3))))), run_pure (N := n_words_at) (fun ds k d hp => ?_) h⟩)
  obtain ⟨g, p, rfl, hg, rfl, rfl⟩ := hp
  refine s_ret (Ev.to (d_lc (l := g) (en := fun e => Im.d (.tuple [.str (Str.ofString e.1), .str (Str.ofString e.2.1), .str (Str.ofString e.2.2)])) (fun e => decide (Str.ofString e.1 = Str.ofString p)) (fun e => .str (Str.ofString e.2.1)) (by have h := i_seqT (c := pc K) (Γ := argsG [grD g, .str (Str.ofString p)] 5) (tl := tVar 0) (d_var rfl) kv_ne; rw [List.map_map] at h; exact h) (by have := gr_le hg; omega) fun e he => ⟨_, _, g_tupD rfl (g_cons g_name (g_cons g_name (g_cons g_name g_nil))), fun j hj => hj, t_eqSS (d_var rfl) (d_var rfl), fun _ => (d_var rfl).fo rfl⟩) ?_) (.inl rfl) (.inl rfl)
  unfold strL wAt
  rw [List.map_map]
  rfl

theorem ok_either {P : Program} {w : World} {K : PySem.W.Frag} {mg : Str → Option Value} {base : Heap} {f : Addr} {fd : FuncData} (F : Fun K "either" "either" s_either f fd) (T : Txt K mg) :
    FnOk P w K mg base CX0 1 f fd p_either (sp_either K) := by
  refine F.ok sc_either (fun vs H Q E h => spD_len h (by rintro ds k d ⟨ws, rfl, _⟩; rfl)) (fun cdv A outer s H vs Q E hr h => ⟨_, (pss_cons (ps_if (pt_cmpR (k_eq (K := K) rfl (rUnits hr)) (pe_callB (k_len (K := K) rfl) rfl T.b_len (by decide +kernel) (pa_cons (pv 0) pa_nil)) pe_int (nomark _)) (pss_one (ps_ret (pe_ix (k_ix (K := K) rfl) (pv 0) pe_int (fun _ _ => rfl)))) pss_nil)
      (pss_one (ps_ret (pe_op (k_addU (K := K) rfl) (pe_op (k_addU (K := K) rfl) (pe_join pe_str (pe_slice (k_slU (K := K) rfl) (pv 0) po_none (po_some (pe_un un_neg pe_int)))) pe_str) (pe_ix (k_ix (K := K) rfl) (pv 0) (pe_un un_neg pe_int) (fun _ _ => rfl)))))), run_pure (N := n_either) (fun ds k d hp => ?_) h⟩)
  obtain ⟨ws, rfl, hn, hl, hw, rfl, rfl⟩ := hp
  have ll : (strL ws).length = ws.length := by unfold strL; rw [List.length_map]
  by_cases q : ws.length = 1
  · obtain ⟨w, rfl⟩ := List.length_eq_one_iff.mp q
    exact q_if (a := true) (EvT.to (t_test (e_eqI (d_lenL (d_var rfl)) d_int)) rfl) (fun _ => q_ret (e_ixLv (d_var rfl) d_int rfl) (.inr ⟨rfl, rfl⟩) (.inl rfl)) fun e => nomatch e
  · refine q_no (EvT.to (t_test (e_eqI (d_lenL (d_var rfl)) d_int)) (decide_eq_false (by rw [ll]; omega))) ?_
    have e1 : eiS ws = joinC ws.dropLast ++ " or " ++ ws.getLastD "" := by
      unfold eiS
      split
      · next w => exact absurd rfl q
      · rfl
    obtain ⟨ini, w, rfl⟩ : ∃ ini w, ws = ini ++ [w] := by
      rcases List.eq_nil_or_concat ws with e | ⟨ini, w, e⟩
      · exact absurd e hn
      · exact ⟨ini, w, by rw [e, List.concat_eq_append]⟩
    have d1 : (ini ++ [w]).dropLast = ini := by simp
    have d2 : (ini ++ [w]).getLastD "" = w := by simp
    rw [d1, d2] at e1
    have sl : strL (ini ++ [w]) = strL ini ++ [.str (Str.ofString w)] := by unfold strL; rw [List.map_append]; rfl
    have lw := hw w (by simp)
    have lj := joinC_len ini fun x m => hw x (by simp [m])
    have li : ini.length ≤ 20 := by simp at hl; omega
    have lo : (Str.ofString " or ").length = 4 := by decide +kernel
    have lsum : ∀ l : List String, (∀ x ∈ l, (Str.ofString x).length ≤ 20) → ((l.map Str.ofString).map (·.length)).sum ≤ 20 * l.length := fun l => by
      induction l with
      | nil => intro _; simp
      | cons x l ih => intro h; have := h x (by simp); have := ih fun y m => h y (by simp [m]); simp only [List.map_cons, List.sum_cons, List.length_cons]; omega
    have ls := lsum ini fun x m => hw x (by simp [m])
    have l2 : (Str.ofString ", ").length = 2 := by decide +kernel
    refine s_ret (Ev.to (e_addS (e_addS (e_join (z := Str.ofString ", ") (ws := ini.map Str.ofString) d_str (Ev.to (e_slL (d_var rfl) o_none (o_some (e_neg d_int)) (fl_strL _)) (by rw [show (-(1 : Int)) = -1 from rfl, cutD_last, sl]; simp [strL])) (by rw [l2, List.length_map]; omega)) d_str (by rw [join_C]; omega)) (e_ixLv (d := .str (Str.ofString w)) (d_var rfl) (e_neg d_int) (by rw [sl]; exact atI_end)) (by rw [join_C, PySem.Str.length_append]; omega)) ?_) (.inr ⟨rfl, rfl⟩) (.inl rfl)
    rw [e1, join_C, ofS_app, ofS_app]

theorem ok_place_behind {P : Program} {w : World} {K : PySem.W.Frag} {mg : Str → Option Value} {base : Heap} {f : Addr} {fd : FuncData} (F : Fun K "place_behind" "place_behind" s_place_behind f fd) (T : Txt K mg) (c_word_of : Cal P w K mg base CX0 1 "word_of" p_word_of (sp_word_of K)) (c_either : Cal P w K mg base CX0 1 "either" p_either (sp_either K)) (c_words_at : Cal P w K mg base CX0 1 "words_at" p_words_at (sp_words_at K)) :
    FnOk P w K mg base CX0 2 f fd p_place_behind (sp_place_behind K) := by
  refine F.ok sc_place_behind (fun vs H Q E h => spD_len h (by rintro ds k d ⟨g, p, q, t, r, rfl, _⟩; rfl)) (fun cdv A outer s H vs Q E hr h => ⟨_, (pss_cons (ps_setLc (i := 3) rfl sc_place_behind.nd rfl rfl (sw_true rfl rfl rfl (by decide +kernel)) (k_seq (K := K) rfl (pv 0)) (blkOk_by (own := [("here", 4), ("word", 5), ("after", 6)]) (N := n_place_behind) (sc := defScope s_place_behind) (by decide +kernel)) (fun _ _ _ _ _ => by exact (k_tup (K := K) (n := 3) rfl rfl (pgs_cons (pg_name (i := 4) sc_place_behind.nd rfl (Or.inl rfl)) (pgs_cons (pg_name (i := 5) sc_place_behind.nd rfl (Or.inl rfl)) (pgs_cons (pg_name (i := 6) sc_place_behind.nd rfl (Or.inl rfl)) pgs_nil))))) (fun _ _ _ _ _ => by exact (pts_one (PW.pt (pw_and (pt_cmpR (k_eq (K := K) rfl (rUnits hr)) (pv 4) (pv 1) (nomark _)) (pw_and1 (pt_cmpR (k_eq (K := K) rfl (rUnits hr)) (pv 5) (pe_cal c_word_of (hr.mono (by decide)) rfl pass0 (pa_cons (pv 2) pa_nil)) (nomark _))))))) (fun _ _ _ _ _ => by exact (pv 6)))
      (pss_cons (ps_if (pt_not (k_tru (K := K) rfl (pv 3))) (pss_one ps_never) pss_nil)
      (pss_one (ps_ret (pe_ix (k_ix (K := K) rfl) (pv 3) pe_int (fun _ _ => rfl)))))), run_pure (N := n_place_behind) (fun ds k d hp => ?_) h⟩)
  obtain ⟨g, p, q, t, r, rfl, hg, ht, hb, rfl, rfl⟩ := hp
  refine q_asgO (d := .list (strL (plB g p t))) (Ev.to (d_lc (l := g) (en := fun e => Im.d (.tuple [.str (Str.ofString e.1), .str (Str.ofString e.2.1), .str (Str.ofString e.2.2)])) (fun e => decide (Str.ofString e.1 = Str.ofString p) && decide (Str.ofString e.2.1 = wordS t)) (fun e => .str (Str.ofString e.2.2)) (by have h := i_seqT (c := pc K) (Γ := argsG [grD g, .str (Str.ofString p), tokD t] 7) (tl := tVar 0) (d_var rfl) kv_ne; rw [List.map_map] at h; exact h) (by have := gr_le hg; omega) fun e he => ⟨_, _, g_tupD rfl (g_cons g_name (g_cons g_name (g_cons g_name g_nil))), fun j hj => hj, t_and (t_eqSS (d_var rfl) (d_var rfl)) fun _ => t_eqSS (d_var rfl) (d_call (k := .v) (d := .str (wordS t)) (a_cons (d_var rfl) a_nil) ⟨t, rfl, ht, rfl, rfl⟩), fun _ => (d_var rfl).fo rfl⟩) (by unfold strL plB; rw [List.map_map]; rfl)) ?_
  rw [hb]
  refine q_no (EvT.to (t_not (t_truL (d_varO rfl))) rfl) ?_
  exact s_ret (e_ixL (d := .str (Str.ofString q)) (d_varO rfl) d_int atI_zero rfl) (.inr ⟨rfl, rfl⟩) (.inl rfl)

theorem ok_place_after {P : Program} {w : World} {K : PySem.W.Frag} {mg : Str → Option Value} {base : Heap} {f : Addr} {fd : FuncData} (F : Fun K "place_after" "place_after" s_place_after f fd) (T : Txt K mg) (c_place_behind : Cal P w K mg base CX0 2 "place_behind" p_place_behind (sp_place_behind K)) :
    FnOk P w K mg base CX0 3 f fd p_place_after (sp_place_after K) := by
  refine F.ok sc_place_after (fun vs H Q E h => spD_len h (by rintro ds k d ⟨g, q, ts, rfl, _⟩; rfl)) (fun cdv A outer s H vs Q E hr h => ⟨_, (pss_cons (ps_set (i := 2) sc_place_after.nd rfl (Or.inl rfl) pe_str)
      (pss_cons (ps_for PassesOwn.never rfl (k_seq (K := K) rfl (pv 1)) (pg_name (i := 3) sc_place_after.nd rfl (Or.inl rfl)) (pss_one (ps_set (i := 2) sc_place_after.nd rfl (Or.inl rfl) (pe_cal c_place_behind (hr.mono (by decide)) rfl pass0 (pa_cons (pv 0) (pa_cons (pv 2) (pa_cons (pv 3) pa_nil)))))))
      (pss_one (ps_ret (pv 2))))), run_pure (N := n_place_after) (fun ds k d hp => ?_) h⟩)
  obtain ⟨g, q, ts, rfl, hg, ht, hl, hpl, rfl, rfl⟩ := hp
  refine q_asg (d := .str (Str.ofString "start")) d_str ?_
  refine q_for (i_seqL (d_var rfl) kv_ne) (fun n Γ1 => ∃ p t3, plA g p (ts.drop n) = .ok q ∧ Γ1 = [some (.v (grD g)), some (.v (.list (ts.map tokD))), some (.v (.str (Str.ofString p))), t3]) ⟨"start", none, hpl, rfl⟩ (fun n a Γ1 hn' hI => ?_) (fun Γ1 hI => ?_)
  · obtain ⟨p, t3, h, rfl⟩ := hI
    obtain ⟨t, hn, rfl⟩ := tok_at hn'
    rw [List.drop_eq_getElem?_toList_append, hn] at h
    have tm := ht t (List.mem_of_getElem? hn)
    cases hb : plB g p t with
    | nil => simp only [Option.toList, List.singleton_append] at h; unfold plA at h; rw [hb] at h; cases h
    | cons q' r =>
      simp only [Option.toList, List.singleton_append] at h
      unfold plA at h
      rw [hb] at h
      exact ⟨_, _, g_name, s_asg (d := .str (Str.ofString q')) (d_call (k := .v) (a_cons (d_var rfl) (a_cons (d_var rfl) (a_cons (d_var rfl) a_nil))) ⟨g, p, q', t, r, rfl, hg, tm, hb, rfl, rfl⟩) (.inl ⟨_, .inl rfl, q', _, h, rfl⟩)⟩
  · obtain ⟨p, t3, h, rfl⟩ := hI
    rw [List.length_map, List.length_map, List.drop_length] at h
    cases h
    exact s_ret (d_var rfl) (.inr ⟨rfl, rfl⟩) (.inl rfl)

theorem ok_next_tokens {P : Program} {w : World} {K : PySem.W.Frag} {mg : Str → Option Value} {base : Heap} {f : Addr} {fd : FuncData} (F : Fun K "next_tokens" "next_tokens" s_next_tokens f fd) (T : Txt K mg) (c_check_text : Cal P w K mg base CX0 2 "check_text" p_check_text (sp_check_text K)) (c_require : Cal P w K mg base CX0 1 "require" p_require (sp_require K)) (c_words_at : Cal P w K mg base CX0 1 "words_at" p_words_at (sp_words_at K)) (c_place_after : Cal P w K mg base CX0 3 "place_after" p_place_after (sp_place_after K)) (c_scan : Cal P w K mg base CX0 4 "scan" p_scan (sp_scan K)) :
    FnOk P w K mg base CX0 5 f fd p_next_tokens (sp_next_tokens K) := by
  obtain ⟨a_ASSIGNMENT, m_ASSIGNMENT, g_ASSIGNMENT⟩ := T.t_ASSIGNMENT
  obtain ⟨a_SHARES, m_SHARES, g_SHARES⟩ := T.t_SHARES
  refine F.ok sc_next_tokens (fun vs H Q E h => spD_len h (by rintro ds k d ⟨z, kd, g, ws, rfl, _⟩; rfl)) (fun cdv A outer s H vs Q E hr h => ⟨_, (pss_cons (ps_expr (pe_cal c_check_text (hr.mono (by decide)) rfl pass0 (pa_cons (pv 0) pa_nil)))
      (pss_cons (ps_expr (pe_cal c_require (hr.mono (by decide)) rfl pass0 (pa_cons (pe_cmpR (k_inU (K := K) rfl (rUnits5 hr)) (pv 1) (pe_tupN (pa_cons pe_str (pa_cons pe_str pa_nil))) (by with_unfolding_all rfl)) (pa_cons pe_str pa_nil))))
      (pss_cons (ps_set (i := 2) sc_next_tokens.nd rfl (Or.inl rfl) (pe_ifExp (pt_cmpR (k_eq (K := K) rfl (rUnits hr)) (pv 1) pe_str (nomark _)) (pe_glob (v := .ref a_SHARES) rfl m_SHARES rfl) (pe_glob (v := .ref a_ASSIGNMENT) rfl m_ASSIGNMENT rfl)))
      (pss_one (ps_ret (pe_cal c_words_at (hr.mono (by decide)) rfl pass0 (pa_cons (pv 2) (pa_cons (pe_cal c_place_after (hr.mono (by decide)) rfl pass0 (pa_cons (pv 2) (pa_cons (pe_slice (k_slU (K := K) rfl) (pe_cal c_scan (hr.mono (by decide)) rfl pass0 (pa_cons (pv 0) pa_nil)) po_none (po_some (pe_un un_neg pe_int))) pa_nil))) pa_nil)))))))), run_pure (N := n_next_tokens) (fun ds k d hp => ?_) h⟩)
  obtain ⟨z, kd, g, ws, rfl, hg, hb, hr', rfl, rfl⟩ := hp
  unfold nxT at hr'
  split at hr'
  · cases hr'
  · next ts hs =>
    split at hr'
    · cases hr'
    · next pl hpl =>
      cases hr'
      obtain ⟨zl, tl, sc, ok, ne⟩ := scn_all hb hs
      refine q_drop (d_call (k := .v) (d := .none) (a_cons (d_var rfl) a_nil) ⟨z, rfl, hb, rfl, rfl⟩) ?_
      refine q_drop (d_call (k := .v) (d := .none) (a_cons (Ev.to (e_inUT (neg := false) (d_var rfl) (d_tup (ds := [.str (Str.ofString "shares"), .str (Str.ofString "assignment")]) (a_consV d_str (a_consV d_str a_nil)) (by simp)) shapedS shapedS2) (y := .bool true) (congrArg PyData.bool (knd_in hg))) (a_cons d_str a_nil)) ⟨"kind", rfl, rfl, rfl⟩) ?_
      refine q_asg (d := grD g) (d_if (t_eqSS (d_var rfl) d_str) (fun e => ?_) fun e => ?_) ?_
      · rcases hg with ⟨rfl, rfl⟩ | ⟨rfl, rfl⟩
        · exact e_gT g_SHARES rfl
        · exact absurd e (by decide +kernel)
      · rcases hg with ⟨rfl, rfl⟩ | ⟨rfl, rfl⟩
        · exact absurd e (by decide +kernel)
        · exact e_gT g_ASSIGNMENT rfl
      have gok : GrOk g := by rcases hg with ⟨_, rfl⟩ | ⟨_, rfl⟩; exact .inl rfl; exact .inr rfl
      exact s_ret (d_call (k := .o) (a_cons (d_var rfl) (a_cons (d_call (k := .v) (d := .str (Str.ofString pl)) (a_cons (d_var rfl) (a_cons (Ev.to (e_slL (ds := ts.map tokD ++ [tokD (endT z)]) (d_call (k := .o) (a_cons (d_var rfl) a_nil) ⟨z, ts, rfl, hb, hs, rfl, rfl⟩) o_none (o_some (e_neg d_int)) (by have := fl_toks (ts ++ [endT z]); rwa [List.map_append] at this)) (by rw [show (-(1 : Int)) = -1 from rfl, cutD_last, List.dropLast_concat])) a_nil)) ⟨g, pl, ts, rfl, gok, fun t m => (sc t m).ok, by omega, hpl, rfl, rfl⟩) a_nil)) ⟨g, pl, rfl, gok, rfl, rfl⟩) (.inl rfl) (.inl rfl)

theorem ok_parted_at_commas {P : Program} {w : World} {K : PySem.W.Frag} {mg : Str → Option Value} {base : Heap} {f : Addr} {fd : FuncData} (F : Fun K "parted_at_commas" "parted_at_commas" s_parted_at_commas f fd) (T : Txt K mg) :
    FnOk P w K mg base CX0 1 f fd p_parted_at_commas (sp_parted_at_commas K) := by
  refine F.ok sc_parted_at_commas (fun vs H Q E h => spD_len h (by rintro ds k d ⟨ts, rfl, _⟩; rfl)) (fun cdv A outer s H vs Q E hr h => ⟨_, (pss_cons (ps_set (i := 1) sc_parted_at_commas.nd rfl (Or.inl rfl) (pe_lst (pa_cons (pe_lst pa_nil) pa_nil)))
      (pss_cons (ps_for PassesOwn.never rfl (k_seq (K := K) rfl (pv 0)) (pg_name (i := 2) sc_parted_at_commas.nd rfl (Or.inl rfl)) (pss_one (ps_if (pt_cmpR (k_eq (K := K) rfl (rUnits hr)) (pe_ix (k_ix (K := K) rfl) (pv 2) pe_int (fun _ _ => rfl)) pe_str (nomark _)) (pss_one (ps_expr (k_bm (K := K) rfl PySem.F.plainAttrs_list PySem.F.slot_list_append PySem.F.type_list_append mt_append (pv 1) (pa_cons (pe_lst pa_nil) pa_nil)))) (pss_one (ps_expr (k_bm (K := K) rfl PySem.F.plainAttrs_list PySem.F.slot_list_append PySem.F.type_list_append mt_append (pe_ix (k_ix (K := K) rfl) (pv 1) (pe_un un_neg pe_int) (fun _ _ => rfl)) (pa_cons (pv 2) pa_nil)))))))
      (pss_one (ps_ret (pv 1))))), run_pure (N := n_parted_at_commas) (fun ds k d hp => ?_) h⟩)
  obtain ⟨ts, rfl, hl, rfl, rfl⟩ := hp
  refine q_asgO (d := rowsD [[]]) (e_lstO (ds := [.list []]) (eo_cons (d_lst (kv := false) (ds := []) a_nil rfl (by decide)) eo_nil) (by simp)) ?_
  refine q_for (i_seqL (d_var rfl) kv_ne) (fun n Γ1 => ∃ t0 t2, Γ1 = [t0, some (.o (rowsD ((ts.take n).foldl prtS [[]]))), t2]) ⟨_, none, rfl⟩ (fun n a Γ1 hn' hI => ?_) (fun Γ1 hI => ?_)
  · obtain ⟨t0, t2, rfl⟩ := hI
    obtain ⟨t, hn, rfl⟩ := tok_at hn'
    have hlt := (List.getElem?_eq_some_iff.mp hn).1
    obtain ⟨R, eR⟩ : ∃ R, R = (ts.take n).foldl prtS [[]] := ⟨_, rfl⟩
    have e : (ts.take (n + 1)).foldl prtS [[]] = prtS R t := by
      rw [List.take_add_one, hn, List.foldl_append, eR]
      rfl
    have lR : R.length ≤ 1 + n := by
      have := prt_len (ts.take n) [[]]
      rw [← eR, List.length_take] at this
      simp at this
      omega
    have l0 : 0 < R.length := by rw [eR]; exact prt_pos (ts.take n) [[]] (by simp)
    rw [← eR]
    refine ⟨_, _, g_name, ?_⟩
    have tst : ∀ {Γ : List (Option Rs)}, Γ[2]? = some (some (.v (tokD t))) → EvT (pc K) (tTest (tOp (rEqA K) (tOp (rIx K) (tVar 2) (tC (.int 1))) (tC (.str (Str.ofString ","))))) Γ (decide (t.2.1 = [44])) := fun h => EvT.to (t_eqSS (e_ixT (d := .str (strN t.2.1)) (d_var h) d_int rfl rfl) d_str) (strN_1 c44)
    refine s_wk 0 ?_
    by_cases w : t.2.1 = [44]
    · refine s_yes (EvT.to (tst rfl) (decide_eq_true w)) ?_
      refine s_appO (m := 0) rfl rfl (d := .list []) (d_lst (kv := false) (ds := []) a_nil rfl (by decide)) (by rw [List.length_map]; omega) (.inl ⟨_, .inl rfl, none, some (.v (tokD t)), ?_⟩)
      rw [e, prtS_new w]
      unfold rowsD
      rw [List.map_append]
      rfl
    · refine s_no (EvT.to (tst rfl) (decide_eq_false w)) ?_
      refine s_appI2 (i := R.length - 1) (es := (R.getD (R.length - 1) []).map tokD) rfl (e_neg d_int) (by rw [List.length_map]; exact ixN_last l0) (by rw [List.getElem?_map, List.getD_eq_getElem?_getD, List.getElem?_eq_getElem (by omega)]; rfl) (fl_toks _) (d_var rfl) (flatTok t) ?_ (.inl ⟨_, .inl rfl, none, some (.v (tokD t)), ?_⟩)
      · rw [List.length_map]
        have := prt_in (ts.take n) [[]] (B := 0) (by simp) (R.getD (R.length - 1) []) (by rw [← eR, List.getD_eq_getElem?_getD, List.getElem?_eq_getElem (by omega)]; exact List.getElem_mem _)
        rw [List.length_take] at this
        omega
      · rw [e]
        unfold prtS rowsD
        rw [if_neg w, List.map_set, List.map_append]
        rfl
  · obtain ⟨t0, t2, rfl⟩ := hI
    rw [List.length_map, List.length_map, List.take_length]
    exact s_retO rfl (.inl rfl)

theorem ok_check_share_name {P : Program} {w : World} {K : PySem.W.Frag} {mg : Str → Option Value} {base : Heap} {f : Addr} {fd : FuncData} (F : Fun K "check_share_name" "check_share_name" s_check_share_name f fd) (T : Txt K mg) :
    FnOk P w K mg base CX0 1 f fd p_check_share_name (sp_check_share_name K) := by
  refine F.ok sc_check_share_name (fun vs H Q E h => spD_len h (by rintro ds k d ⟨t, kn, rfl, _⟩; rfl)) (fun cdv A outer s H vs Q E hr h => ⟨_, (pss_cons (ps_asg (pv 0) (k_tupA (K := K) (n := 3) rfl rfl (pgs_cons (pg_name (i := 2) sc_check_share_name.nd rfl (Or.inl rfl)) (pgs_cons (pg_name (i := 3) sc_check_share_name.nd rfl (Or.inl rfl)) (pgs_cons (pg_name (i := 4) sc_check_share_name.nd rfl (Or.inl rfl)) pgs_nil)))))
      (pss_cons (ps_if (pt_cmpR (k_eq (K := K) rfl (rUnits hr)) (pe_callB (k_len (K := K) rfl) rfl T.b_len (by decide +kernel) (pa_cons (pv 1) pa_nil)) (pe_const rfl T.k_MOST_VARIANTS) (nomark _)) (pss_one ps_never) pss_nil)
      (pss_one (ps_if (pt_cmpR (k_inU (K := K) rfl (rUnits5 hr)) (pv 3) (pv 1) (by with_unfolding_all rfl)) (pss_one ps_never) pss_nil)))), run_pure (N := n_check_share_name) (fun ds k d hp => ?_) h⟩)
  obtain ⟨t, kn, rfl, ht, hk, ha, hn, rfl, rfl⟩ := hp
  refine q_unp (fun d => d = tokD t) (Ev.n (d_var rfl)) ?_
  rintro _ rfl
  refine ⟨_, _, _, .inl rfl, rfl, rfl, g_cons g_name (g_cons g_name (g_cons g_name g_nil)), ?_⟩
  refine q_no (EvT.to (t_test (e_eqI (d_lenL (d_var rfl)) d_int)) (decide_eq_false (by rw [List.length_map]; omega))) ?_
  refine s_no (EvT.to (t_test (e_inUL (neg := false) (d := nmD t.2.1) (d_var rfl) (d_var rfl) (shaped_nm ht.2.2.2) (shaped_nms ha))) ?_) (s_next (.inr ⟨rfl, rfl, _, rfl⟩))
  rw [if_neg (by decide), in_nms]
  exact decide_eq_false hn

theorem ok_quotient_of {P : Program} {w : World} {K : PySem.W.Frag} {mg : Str → Option Value} {base : Heap} {f : Addr} {fd : FuncData} (F : Fun K "quotient_of" "quotient_of" s_quotient_of f fd) (T : Txt K mg) :
    FnOk P w K mg base CX0 1 f fd p_quotient_of (sp_quotient_of K) := by
  refine F.ok sc_quotient_of (fun vs H Q E h => spD_len h (by rintro ds k d ⟨r, q, rfl, _⟩; rfl)) (fun cdv A outer s H vs Q E hr h => ⟨_, (pss_cons (ps_set (i := 1) sc_quotient_of.nd rfl (Or.inl rfl) (pe_callTy cr_intS rfl T.b_int (by decide +kernel) (pa_cons (pe_ix (k_ix (K := K) rfl) (pe_ix (k_ix (K := K) rfl) (pv 0) pe_int (fun _ _ => rfl)) pe_int (fun _ _ => rfl)) pa_nil)))
      (pss_cons (ps_if (pt_cmpR (k_eq (K := K) rfl (rUnits hr)) (pe_callB (k_len (K := K) rfl) rfl T.b_len (by decide +kernel) (pa_cons (pv 0) pa_nil)) pe_int (nomark _)) (pss_one (ps_ret (pe_tupN (pa_cons (pv 1) (pa_cons pe_int pa_nil))))) pss_nil)
      (pss_cons (ps_asg (pe_ix (k_ix (K := K) rfl) (pv 0) pe_int (fun _ _ => rfl)) (k_tupA (K := K) (n := 3) rfl rfl (pgs_cons (pg_name (i := 2) sc_quotient_of.nd rfl (Or.inl rfl)) (pgs_cons (pg_name (i := 3) sc_quotient_of.nd rfl (Or.inl rfl)) (pgs_cons (pg_name (i := 4) sc_quotient_of.nd rfl (Or.inl rfl)) pgs_nil)))))
      (pss_cons (ps_if (pt_cmpR (k_eq (K := K) rfl (rUnits hr)) (pe_ix (k_ix (K := K) rfl) (pe_ix (k_ix (K := K) rfl) (pv 0) pe_int (fun _ _ => rfl)) pe_int (fun _ _ => rfl)) pe_str (nomark _)) (pss_cons (ps_if (pt_not (pt_chain op_le op_le pe_int (pe_callTy cr_intS rfl T.b_int (by decide +kernel) (pa_cons (pv 3) pa_nil)) (pe_const rfl T.k_GREATEST_DIVISOR))) (pss_one ps_never) pss_nil)
      (pss_one (ps_ret (pe_tupN (pa_cons (pv 1) (pa_cons (pe_callTy cr_intS rfl T.b_int (by decide +kernel) (pa_cons (pv 3) pa_nil)) pa_nil)))))) pss_nil)
      (pss_cons (ps_if (pt_cmpR op_gt (pe_callB (k_lenU (K := K) rfl) rfl T.b_len (by decide +kernel) (pa_cons (pv 3) pa_nil)) pe_int (nomark _)) (pss_one ps_never) pss_nil)
      (pss_one (ps_ret (pe_tupN (pa_cons (pe_op (k_add (K := K) rfl) (pe_op op_mulA pe_int (pv 1)) (pe_callTy cr_intS rfl T.b_int (by decide +kernel) (pa_cons (pe_sm PySem.F.slot_str_ljust PySem.F.type_str_ljust mt_lj (pv 3) (pa_cons pe_int (pa_cons pe_str pa_nil))) pa_nil))) (pa_cons pe_int pa_nil)))))))))), run_pure (N := n_quotient_of) (fun ds k d hp => ?_) h⟩)
  obtain ⟨r, q, rfl, hr', hq, rfl, rfl⟩ := hp
  rcases hr' with ⟨a, rfl, ha⟩ | ⟨a, s, b, rfl, ha, hb, hs⟩
  · cases hq
    refine q_asg (d := .int ((vlN a.2.1 : Nat) : Int)) (e_num ha (e_ixT (d := .str (strN a.2.1)) (e_ixLv (d := tokD a) (d_var rfl) d_int rfl) d_int rfl rfl)) ?_
    exact q_if (a := true) (EvT.to (t_test (e_eqI (d_lenL (d_var rfl)) d_int)) rfl) (fun _ => q_ret (d_tup (a_consV (d_var rfl) (a_consV d_int a_nil)) (by simp)) (.inr ⟨rfl, rfl⟩) (.inl rfl)) fun e => nomatch e
  · have hq : (if s.2.1 = [47] then (if 1 ≤ vlN b.2.1 ∧ vlN b.2.1 ≤ 10000 then Except.ok (vlN a.2.1, vlN b.2.1) else .error (b.2.2, "a denominator is from 1 to 10000")) else if 2 < b.2.1.length then .error (b.2.2, "at most two digits stand behind the point") else .ok (100 * vlN a.2.1 + vlN (lj2 b.2.1), 10000)) = Except.ok q := hq
    refine q_asg (d := .int ((vlN a.2.1 : Nat) : Int)) (e_num ha (e_ixT (d := .str (strN a.2.1)) (e_ixLv (d := tokD a) (d_var rfl) d_int rfl) d_int rfl rfl)) ?_
    refine q_no (EvT.to (t_test (e_eqI (d_lenL (d_var rfl)) d_int)) rfl) ?_
    refine q_unp (fun d => d = tokD b) (Ev.n (e_ixLv (d := tokD b) (d_var rfl) d_int rfl)) ?_
    rintro _ rfl
    refine ⟨_, _, _, .inl rfl, rfl, rfl, g_cons g_name (g_cons g_name (g_cons g_name g_nil)), ?_⟩
    have tst : ∀ {Γ : List (Option Rs)}, Γ[0]? = some (some (.v (.list ([a, s, b].map tokD)))) → EvT (pc K) (tTest (tOp (rEqA K) (tOp (rIx K) (tOp (rIx K) (tVar 0) (tC (.int 1))) (tC (.int 1))) (tC (.str (Str.ofString "/"))))) Γ (decide (s.2.1 = [47])) := fun h => EvT.to (t_eqSS (e_ixT (d := .str (strN s.2.1)) (e_ixLv (d := tokD s) (d_var h) d_int rfl) d_int rfl rfl) d_str) (strN_1 c47)
    by_cases w : s.2.1 = [47]
    · rw [if_pos w] at hq
      split at hq
      · next v =>
        cases hq
        refine q_if (a := true) (EvT.to (tst rfl) (decide_eq_true w)) (fun _ => ?_) fun e => nomatch e
        refine q_no (EvT.to (t_not (t_chainI d_int (e_num hb (d_var rfl)) d_int)) ?_) ?_
        · rw [decide_eq_true (show (1 : Int) ≤ ((vlN b.2.1 : Nat) : Int) by omega), decide_eq_true (show ((vlN b.2.1 : Nat) : Int) ≤ 10000 by omega)]; rfl
        · exact q_ret (d_tup (a_consV (d_var rfl) (a_consV (e_num hb (d_var rfl)) a_nil)) (by simp)) (.inr ⟨rfl, rfl⟩) (.inl rfl)
      · cases hq
    · rw [if_neg w] at hq
      split at hq
      · cases hq
      · next v =>
        cases hq
        refine q_no (EvT.to (tst rfl) (decide_eq_false w)) ?_
        refine q_no (EvT.to (t_test (d_gt (e_lenS (d_var rfl) (by rw [strN_len]; have := hb.2.2.1; omega)) d_int)) (decide_eq_false (by rw [strN_len]; omega))) ?_
        have lj : ∀ {Γ : List (Option Rs)}, Γ[3]? = some (some (.v (.str (strN b.2.1)))) → Ev (pc K) (tCB rIntS (tCons (tSM rLj (tVar 3) (tCons (tC (.int 2)) (tCons (tC (.str (Str.ofString "0"))) tNil))) tNil)) Γ .v (.int ((vlN (lj2 b.2.1) : Nat) : Int)) := fun h => e_numL (lj2_dig hb.2.2.2.1) (by unfold lj2; exact fun z => hb.2.1 (List.append_eq_nil_iff.mp z).1) (by unfold lj2; rw [List.length_append, List.length_replicate]; omega) (Ev.to (e_ljS (f := 48) (d_var h) d_int d_str (by decide) (by decide)) (by rw [ljT_2]))
        refine s_ret (Ev.to (d_tup (a_consV (e_add (e_mul d_int (d_var rfl) (.inl (by decide))) (lj rfl)) (a_consV d_int a_nil)) (by simp)) ?_) (.inr ⟨rfl, rfl⟩) (.inl rfl)
        unfold qD
        simp only [Int.natCast_add, Int.natCast_mul]
        rfl

theorem ok_share_of {P : Program} {w : World} {K : PySem.W.Frag} {mg : Str → Option Value} {base : Heap} {f : Addr} {fd : FuncData} (F : Fun K "share_of" "share_of" s_share_of f fd) (T : Txt K mg) (c_quotient_of : Cal P w K mg base CX0 1 "quotient_of" p_quotient_of (sp_quotient_of K)) (c_in_lowest_terms : Cal P w K mg base CX0 1 "in_lowest_terms" p_in_lowest_terms (sp_in_lowest_terms K)) :
    FnOk P w K mg base CX0 2 f fd p_share_of (sp_share_of K) := by
  refine F.ok sc_share_of (fun vs H Q E h => spD_len h (by rintro ds k d ⟨r, q, rfl, _⟩; rfl)) (fun cdv A outer s H vs Q E hr h => ⟨_, (pss_cons (ps_asg (pe_cal c_quotient_of (hr.mono (by decide)) rfl pass0 (pa_cons (pv 0) pa_nil)) (k_tupA (K := K) (n := 2) rfl rfl (pgs_cons (pg_name (i := 1) sc_share_of.nd rfl (Or.inl rfl)) (pgs_cons (pg_name (i := 2) sc_share_of.nd rfl (Or.inl rfl)) pgs_nil))))
      (pss_cons (ps_if (pt_cmpR op_gt (pv 1) (pv 2) (nomark _)) (pss_one ps_never) pss_nil)
      (pss_one (ps_ret (pe_cal c_in_lowest_terms (hr.mono (by decide)) rfl pass0 (pa_cons (pv 1) (pa_cons (pv 2) pa_nil))))))), run_pure (N := n_share_of) (fun ds k d hp => ?_) h⟩)
  obtain ⟨r, q, rfl, hr', hq, rfl, rfl⟩ := hp
  unfold shO at hq
  split at hq
  · cases hq
  · next p hp' =>
    have rg := qO_rng hr' hp'
    split at hq
    · cases hq
    · next v =>
      cases hq
      refine q_unp (fun d => d = qD p) (Ev.n (d_call (k := .v) (a_cons (d_var rfl) a_nil) ⟨r, p, rfl, hr', hp', rfl, rfl⟩)) ?_
      rintro _ rfl
      refine ⟨_, _, _, .inl rfl, rfl, rfl, g_cons g_name (g_cons g_name g_nil), ?_⟩
      refine q_no (EvT.to (t_test (d_gt (d_var rfl) (d_var rfl))) (decide_eq_false (by omega))) ?_
      exact s_ret (Ev.to (d_call (k := .v) (d := lowD (p.1 : Int) (p.2 : Int)) (a_cons (d_var rfl) (a_cons (d_var rfl) a_nil)) ⟨_, _, rfl, by omega, by omega, rfl, rfl⟩) (lowD_nat _ _)) (.inr ⟨rfl, rfl⟩) (.inl rfl)

theorem ok_read_shares {P : Program} {w : World} {K : PySem.W.Frag} {mg : Str → Option Value} {base : Heap} {f : Addr} {fd : FuncData} (F : Fun K "read_shares" "read_shares" s_read_shares f fd) (T : Txt K mg) (c_scan : Cal P w K mg base CX0 4 "scan" p_scan (sp_scan K)) (c_place_after : Cal P w K mg base CX0 3 "place_after" p_place_after (sp_place_after K)) (c_parted_at_commas : Cal P w K mg base CX0 1 "parted_at_commas" p_parted_at_commas (sp_parted_at_commas K)) (c_check_share_name : Cal P w K mg base CX0 1 "check_share_name" p_check_share_name (sp_check_share_name K)) (c_are_the_whole : Cal P w K mg base CX0 3 "are_the_whole" p_are_the_whole (sp_are_the_whole K)) (c_share_of : Cal P w K mg base CX0 2 "share_of" p_share_of (sp_share_of K)) :
    FnOk P w K mg base CX0 5 f fd p_read_shares (sp_read_shares K) := by
  obtain ⟨a_SHARES, m_SHARES, g_SHARES⟩ := T.t_SHARES
  refine F.ok sc_read_shares (fun vs H Q E h => spD_len h (by rintro ds k d ⟨z, ps, rfl, _⟩; rfl)) (fun cdv A outer s H vs Q E hr h => ⟨_, (pss_cons (ps_set (i := 1) sc_read_shares.nd rfl (Or.inl rfl) (pe_cal c_scan (hr.mono (by decide)) rfl pass0 (pa_cons (pv 0) pa_nil)))
      (pss_cons (ps_expr (pe_cal c_place_after (hr.mono (by decide)) rfl pass0 (pa_cons (pe_glob (v := .ref a_SHARES) rfl m_SHARES rfl) (pa_cons (pv 1) pa_nil))))
      (pss_cons (ps_set (i := 2) sc_read_shares.nd rfl (Or.inl rfl) (pe_lst pa_nil))
      (pss_cons (ps_set (i := 3) sc_read_shares.nd rfl (Or.inl rfl) (pe_lst pa_nil))
      (pss_cons (ps_for PassesOwn.never rfl (k_seq (K := K) rfl (pe_cal c_parted_at_commas (hr.mono (by decide)) rfl pass0 (pa_cons (pe_slice (k_slU (K := K) rfl) (pv 1) po_none (po_some (pe_un un_neg pe_int))) pa_nil))) (pg_name (i := 4) sc_read_shares.nd rfl (Or.inl rfl)) (pss_cons (ps_expr (pe_cal c_check_share_name (hr.mono (by decide)) rfl pass0 (pa_cons (pe_ix (k_ix (K := K) rfl) (pv 4) pe_int (fun _ _ => rfl)) (pa_cons (pv 2) pa_nil))))
      (pss_cons (ps_expr (k_bm (K := K) rfl PySem.F.plainAttrs_list PySem.F.slot_list_append PySem.F.type_list_append mt_append (pv 2) (pa_cons (pe_ix (k_ix (K := K) rfl) (pe_ix (k_ix (K := K) rfl) (pv 4) pe_int (fun _ _ => rfl)) pe_int (fun _ _ => rfl)) pa_nil)))
      (pss_one (ps_expr (k_bm (K := K) rfl PySem.F.plainAttrs_list PySem.F.slot_list_append PySem.F.type_list_append mt_append (pv 3) (pa_cons (pe_cal c_share_of (hr.mono (by decide)) rfl pass0 (pa_cons (pe_slice (k_slU (K := K) rfl) (pv 4) (po_some pe_int) po_none) pa_nil)) pa_nil)))))))
      (pss_cons (ps_if (pt_not (pt_val (pe_cal c_are_the_whole (hr.mono (by decide)) rfl pass0 (pa_cons (pv 3) pa_nil)))) (pss_one ps_never) pss_nil)
      (pss_one (ps_ret (k_tupZip (K := K) rfl rfl rfl T.b_tuple rfl T.b_zip (pa_cons (pv 2) (pa_cons (pv 3) pa_nil))))))))))), run_pure (N := n_read_shares) (fun ds k d hp => ?_) h⟩)
  obtain ⟨z, ps, rfl, hb, hr', rfl, rfl⟩ := hp
  unfold rdS at hr'
  split at hr'
  · cases hr'
  · next ts hs =>
    split at hr'
    · cases hr'
    · next pl hpl =>
      split at hr'
      · cases hr'
      · next us hu =>
        split at hr'
        · next hw =>
          cases hr'
          obtain ⟨zl, tl, sc, ok, ne⟩ := scn_all hb hs
          have rows := sh_rowsT sc rfl hpl
          have ro := rdR_ok [] (prt ts) ps rows (by simp) hu
          refine q_asgO (d := .list ((ts ++ [endT z]).map tokD)) (Ev.to (d_call (k := .o) (a_cons (d_var rfl) a_nil) ⟨z, ts, rfl, hb, hs, rfl, rfl⟩) (by rw [List.map_append]; rfl)) ?_
          refine q_drop (d_call (k := .v) (a_cons (e_gT g_SHARES rfl) (a_cons (d_varO rfl) a_nil)) ⟨gSH, pl, ts ++ [endT z], rfl, .inl rfl, ok, by simp; omega, hpl, rfl, rfl⟩) ?_
          refine q_asgO (d := .list (([] : List (List Nat)).map nmD)) (d_lst (kv := false) (ds := []) a_nil rfl (by decide)) ?_
          refine q_asgO (d := .list (([] : List (Nat × Nat)).map qD)) (d_lst (kv := false) (ds := []) a_nil rfl (by decide)) ?_
          refine q_for (i_seqL (ds := (prt ts).map fun r => .list (r.map tokD)) (Ev.frz (d_call (k := .o) (a_cons (Ev.to (e_slL (d_varO rfl) o_none (o_some (e_neg d_int)) (fl_toks _)) (by rw [show (-(1 : Int)) = -1 from rfl, cutD_last, List.map_append]; simp)) a_nil) ⟨ts, rfl, by omega, rfl, rfl⟩)) kv_ne) (fun n Γ1 => ∃ kn qs rest t4, rdR kn ((prt ts).drop n) = .ok rest ∧ kn.length = qs.length ∧ kn.length ≤ 5 ∧ (∀ r ∈ kn, Asc r) ∧ kn.zip qs ++ rest = ps ∧ Γ1 = [some (.v (.str z)), some (.o (.list ((ts ++ [endT z]).map tokD))), some (.o (.list (kn.map nmD))), some (.o (.list (qs.map qD))), t4]) ⟨[], [], ps, none, hu, rfl, by simp, (fun _ m => nomatch m), rfl, rfl⟩ (fun n a Γ1 hn' hI => ?_) (fun Γ1 hI => ?_)
          · obtain ⟨kn, qs, rest, t4, h1, h2, h3, h4, h5, rfl⟩ := hI
            obtain ⟨r0, hrow, rfl⟩ := rowT_at hn'
            have dr : (prt ts).drop n = r0 :: (prt ts).drop (n + 1) := by rw [List.drop_eq_getElem?_toList_append, hrow]; rfl
            obtain ⟨n0, q0, rfl, hn0, hq0⟩ := rows r0 (List.mem_of_getElem? hrow)
            rw [dr] at h1
            unfold rdR at h1
            dsimp only at h1
            split at h1
            · cases h1
            · next c5 =>
              split at h1
              · cases h1
              · next cn =>
                split at h1
                · cases h1
                · next s hs2 =>
                  split at h1
                  · cases h1
                  · next vs hv =>
                    cases h1
                    refine ⟨_, _, g_name, ?_⟩
                    refine q_drop (d_call (k := .v) (d := .none) (a_cons (e_ixLv (d := tokD n0) (d_var rfl) d_int atI_zero) (a_cons (d_varO rfl) a_nil)) ⟨n0, kn, rfl, hn0, by omega, h4, cn, rfl, rfl⟩) ?_
                    refine q_app rfl (d := nmD n0.2.1) (e_ixT (d := nmD n0.2.1) (e_ixLv (d := tokD n0) (d_var rfl) d_int atI_zero) d_int rfl rfl) rfl (by rw [List.length_map]; omega) ?_
                    refine s_app rfl (d := qD s) (d_call (k := .v) (a_cons (Ev.to (e_slL (d_var rfl) (o_some d_int) o_none (fl_toks _)) (y := .list (q0.map tokD)) (by rw [show (1 : Int) = ((1 : Nat) : Int) from rfl, cutD_lo (by simp)]; rfl)) a_nil) ⟨q0, s, rfl, hq0, hs2, rfl, rfl⟩) rfl (by rw [List.length_map]; omega) (.inl ⟨_, .inl rfl, kn ++ [n0.2.1], qs ++ [s], vs, some (.v (.list ((n0 :: q0).map tokD))), hv, by simp [h2], by simp; omega, fun r m => ?_, by rw [zip_snoc h2]; simpa using h5, by simp only [List.map_append]; rfl⟩)
                    rcases List.mem_append.mp m with w | w
                    · exact h4 r w
                    · rw [List.mem_singleton.mp w]; exact hn0.2.2.2
          · obtain ⟨kn, qs, rest, t4, h1, h2, h3, h4, h5, rfl⟩ := hI
            rw [List.length_map, List.length_map, List.drop_length] at h1
            cases h1
            rw [List.append_nil] at h5
            have eq : ps.map (·.2) = qs := by rw [← h5]; exact List.map_snd_zip (by omega)
            have qok : QsOk qs := by
              refine ⟨by omega, fun q m => ?_⟩
              rw [← eq] at m
              obtain ⟨p, mp, rfl⟩ := List.mem_map.mp m
              exact ro.2.2.1 p mp
            rw [eq] at hw
            refine q_no (EvT.to (t_not (t_B (d_call (k := .v) (d := .bool (whoB qs)) (a_cons (d_varO rfl) a_nil) ⟨qs, rfl, qok, rfl, rfl⟩))) (by rw [hw]; rfl)) ?_
            refine s_ret (Ev.to (e_tupZipL (a_cons (d_varO rfl) (a_cons (d_varO rfl) a_nil)) (flatNms kn) (flatQs qs) (.inl (by simp [h2])) (by simp; omega)) (zip_shs h5)) (.inr ⟨rfl, flat_shs ps⟩) (.inl rfl)
        · cases hr'

theorem ok_parted_in_runs {P : Program} {w : World} {K : PySem.W.Frag} {mg : Str → Option Value} {base : Heap} {f : Addr} {fd : FuncData} (F : Fun K "parted_in_runs" "parted_in_runs" s_parted_in_runs f fd) (T : Txt K mg) :
    FnOk P w K mg base CX0 1 f fd p_parted_in_runs (sp_parted_in_runs K) := by
  refine F.ok sc_parted_in_runs (fun vs H Q E h => spD_len h (by rintro ds k d ⟨ts, rfl, _⟩; rfl)) (fun cdv A outer s H vs Q E hr h => ⟨_, (pss_cons (ps_set (i := 1) sc_parted_in_runs.nd rfl (Or.inl rfl) (pe_lst pa_nil))
      (pss_cons (ps_for PassesOwn.never rfl (k_seq (K := K) rfl (pv 0)) (pg_name (i := 2) sc_parted_in_runs.nd rfl (Or.inl rfl)) (pss_one (ps_if (PW.pt (pw_and (k_tru (K := K) rfl (pv 1)) (pw_and1 (PW.pt (pw_or (pt_cmpR (k_eq (K := K) rfl (rUnits hr)) (pe_ix (k_ix (K := K) rfl) (pv 2) pe_int (fun _ _ => rfl)) pe_str (nomark _)) (pw_or1 (pt_cmpR (k_eq (K := K) rfl (rUnits hr)) (pe_ix (k_ix (K := K) rfl) (pe_ix (k_ix (K := K) rfl) (pe_ix (k_ix (K := K) rfl) (pv 1) (pe_un un_neg pe_int) (fun _ _ => rfl)) (pe_un un_neg pe_int) (fun _ _ => rfl)) pe_int (fun _ _ => rfl)) pe_str (nomark _)))))))) (pss_one (ps_expr (k_bm (K := K) rfl PySem.F.plainAttrs_list PySem.F.slot_list_append PySem.F.type_list_append mt_append (pe_ix (k_ix (K := K) rfl) (pv 1) (pe_un un_neg pe_int) (fun _ _ => rfl)) (pa_cons (pv 2) pa_nil)))) (pss_one (ps_expr (k_bm (K := K) rfl PySem.F.plainAttrs_list PySem.F.slot_list_append PySem.F.type_list_append mt_append (pv 1) (pa_cons (pe_lst (pa_cons (pv 2) pa_nil)) pa_nil)))))))
      (pss_one (ps_ret (pv 1))))), run_pure (N := n_parted_in_runs) (fun ds k d hp => ?_) h⟩)
  obtain ⟨ts, rfl, hl, rfl, rfl⟩ := hp
  refine q_asgO (d := rowsD []) (d_lst (kv := false) (ds := []) a_nil rfl (by decide)) ?_
  refine q_for (i_seqL (d_var rfl) kv_ne) (fun n Γ1 => ∃ t0 t2, Γ1 = [t0, some (.o (rowsD ((ts.take n).foldl prRn []))), t2]) ⟨_, none, rfl⟩ (fun n a Γ1 hn' hI => ?_) (fun Γ1 hI => ?_)
  · obtain ⟨t0, t2, rfl⟩ := hI
    obtain ⟨t, hn, rfl⟩ := tok_at hn'
    have hlt := (List.getElem?_eq_some_iff.mp hn).1
    obtain ⟨R, eR⟩ : ∃ R, R = (ts.take n).foldl prRn [] := ⟨_, rfl⟩
    have e : (ts.take (n + 1)).foldl prRn [] = prRn R t := by
      rw [List.take_add_one, hn, List.foldl_append, eR]
      rfl
    have lR : R.length ≤ n := by
      have := prn_len (ts.take n) []
      rw [← eR, List.length_take] at this
      simp at this
      omega
    have rin : ∀ r ∈ R, r ≠ [] ∧ r.length ≤ n := fun r m => by
      have := prn_in (ts.take n) [] (B := 0) (fun _ m => nomatch m) r (by rw [← eR]; exact m)
      rw [List.length_take] at this
      exact ⟨this.1, by omega⟩
    rw [← eR]
    refine ⟨_, _, g_name, s_wk 0 ?_⟩
    have tst : EvT (pc K) (tAnd (fun σ H Q => tVar 1 σ H fun x H' => ∃ k, TruV K x H' k ∧ Q k H') (tOr (tTest (tOp (rEqA K) (tOp (rIx K) (tVar 2) (tC (.int 1))) (tC (.str (Str.ofString "*"))))) (tTest (tOp (rEqA K) (tOp (rIx K) (tOp (rIx K) (tOp (rIx K) (tVar 1) (tUn (rU fun i => .int (-i)) (tC (.int 1)))) (tUn (rU fun i => .int (-i)) (tC (.int 1)))) (tC (.int 1))) (tC (.str (Str.ofString "*"))))))) [none, some (.o (rowsD R)), some (.v (tokD t))] (decide (R ≠ [] ∧ (t.2.1 = [42] ∨ lastT R = [42]))) := by
      refine EvT.to (t_and (t_truL (d_varO rfl)) (b := decide (t.2.1 = [42]) || decide (lastT R = [42])) fun ne => t_or (EvT.to (t_eqSS (e_ixT (d := .str (strN t.2.1)) (d_var rfl) d_int rfl rfl) d_str) (strN_1 c42)) fun _ => ?_) ?_
      · obtain ⟨R', r, rfl⟩ : ∃ R' r, R = R' ++ [r] := by
          rcases List.eq_nil_or_concat R with e | ⟨R', r, e⟩
          · rw [e] at ne; cases ne
          · exact ⟨R', r, by rw [e, List.concat_eq_append]⟩
        obtain ⟨r', x, rfl⟩ : ∃ r' x, r = r' ++ [x] := by
          rcases List.eq_nil_or_concat r with e | ⟨r', x, e⟩
          · exact absurd e (rin r (by simp)).1
          · exact ⟨r', x, by rw [e, List.concat_eq_append]⟩
        have lt : lastT (R' ++ [r' ++ [x]]) = x.2.1 := by rw [lastT_app]; simp
        rw [lt]
        refine EvT.to (t_eqSS (e_ixT (d := .str (strN x.2.1)) (e_ixL (d := tokD x) (e_ixLb (d := .list ((r' ++ [x]).map tokD)) (d_varO rfl) (e_neg d_int) (by rw [List.map_append]; exact atI_end)) (e_neg d_int) (by rw [List.map_append]; exact atI_end) rfl) d_int rfl rfl) d_str) (strN_1 c42)
      · cases R with
        | nil => simp
        | cons a b => simp
    by_cases w : R ≠ [] ∧ (t.2.1 = [42] ∨ lastT R = [42])
    · have l0 : 0 < R.length := List.length_pos_iff.mpr w.1
      refine s_yes (EvT.to tst (decide_eq_true w)) ?_
      refine s_appI2 (i := R.length - 1) (es := (R.getD (R.length - 1) []).map tokD) rfl (e_neg d_int) (by rw [List.length_map]; exact ixN_last l0) (by rw [List.getElem?_map, List.getD_eq_getElem?_getD, List.getElem?_eq_getElem (by omega)]; rfl) (fl_toks _) (d_var rfl) (flatTok t) ?_ (.inl ⟨_, .inl rfl, none, some (.v (tokD t)), ?_⟩)
      · rw [List.length_map]
        have := (rin (R.getD (R.length - 1) []) (by rw [List.getD_eq_getElem?_getD, List.getElem?_eq_getElem (by omega)]; exact List.getElem_mem _)).2
        omega
      · rw [e]
        unfold prRn rowsD
        rw [if_pos w, List.map_set, List.map_append]
        rfl
    · refine s_no (EvT.to tst (decide_eq_false w)) ?_
      refine s_appO (m := 0) rfl rfl (d := .list [tokD t]) (d_lst (kv := false) (ds := [tokD t]) (a_cons (d_var rfl) a_nil) rfl (by simp)) (by rw [List.length_map]; omega) (.inl ⟨_, .inl rfl, none, some (.v (tokD t)), ?_⟩)
      rw [e]
      unfold prRn rowsD
      rw [if_neg w, List.map_append]
      rfl
  · obtain ⟨t0, t2, rfl⟩ := hI
    rw [List.length_map, List.length_map, List.take_length]
    exact s_retO rfl (.inl rfl)

theorem ok_run_of {P : Program} {w : World} {K : PySem.W.Frag} {mg : Str → Option Value} {base : Heap} {f : Addr} {fd : FuncData} (F : Fun K "run_of" "run_of" s_run_of f fd) (T : Txt K mg) :
    FnOk P w K mg base CX0 1 f fd p_run_of (sp_run_of K) := by
  refine F.ok sc_run_of (fun vs H Q E h => spD_len h (by rintro ds k d ⟨r, v, q, rfl, _⟩; rfl)) (fun cdv A outer s H vs Q E hr h => ⟨_, (pss_cons (ps_set (i := 2) sc_run_of.nd rfl (Or.inl rfl) (pe_callTy cr_intS rfl T.b_int (by decide +kernel) (pa_cons (pe_ix (k_ix (K := K) rfl) (pe_ix (k_ix (K := K) rfl) (pv 0) pe_int (fun _ _ => rfl)) pe_int (fun _ _ => rfl)) pa_nil)))
      (pss_cons (ps_if (pt_cmpR op_ge (pv 2) (pv 1) (nomark _)) (pss_one ps_never) pss_nil)
      (pss_cons (ps_set (i := 3) sc_run_of.nd rfl (Or.inl rfl) (pe_ifExp (pt_cmpR op_gt (pe_callB (k_len (K := K) rfl) rfl T.b_len (by decide +kernel) (pa_cons (pv 0) pa_nil)) pe_int (nomark _)) (pe_callTy cr_intS rfl T.b_int (by decide +kernel) (pa_cons (pe_ix (k_ix (K := K) rfl) (pe_ix (k_ix (K := K) rfl) (pv 0) pe_int (fun _ _ => rfl)) pe_int (fun _ _ => rfl)) pa_nil)) pe_int))
      (pss_cons (ps_if (pt_cmpR (k_eq (K := K) rfl (rUnits hr)) (pv 3) pe_int (nomark _)) (pss_one ps_never) pss_nil)
      (pss_one (ps_ret (pe_tupN (pa_cons (pv 2) (pa_cons (pv 3) pa_nil))))))))), run_pure (N := n_run_of) (fun ds k d hp => ?_) h⟩)
  obtain ⟨r, v, q, rfl, hr', hq, rfl, rfl⟩ := hp
  rcases hr' with ⟨n, rfl, hn⟩ | ⟨n, s, m, rfl, hn, hs, hm⟩
  · have hq : (if v ≤ vlN n.2.1 then Except.error (n.2.2, "there is no such variant") else Except.ok (vlN n.2.1, 1)) = Except.ok q := hq
    split at hq
    · cases hq
    · next w =>
      cases hq
      refine q_asg (d := .int ((vlN n.2.1 : Nat) : Int)) (e_num hn (e_ixT (d := .str (strN n.2.1)) (e_ixLv (d := tokD n) (d_var rfl) d_int atI_zero) d_int rfl rfl)) ?_
      refine q_no (EvT.to (t_test (d_ge (d_var rfl) (d_var rfl))) (decide_eq_false (by omega))) ?_
      refine q_asg (d := .int 1) (d_if (a := false) (EvT.to (t_test (d_gt (d_lenL (d_var rfl)) d_int)) rfl) (fun e => nomatch e) fun _ => d_int) ?_
      refine q_no (EvT.to (t_test (e_eqI (d_var rfl) d_int)) rfl) ?_
      exact s_ret (d_tup (a_consV (d_var rfl) (a_consV (d_var rfl) a_nil)) (by simp)) (.inr ⟨rfl, rfl⟩) (.inl rfl)
  · have hq : (if v ≤ vlN n.2.1 then Except.error (n.2.2, "there is no such variant") else if vlN m.2.1 = 0 then Except.error (m.2.2, "a run has at least one bucket") else Except.ok (vlN n.2.1, vlN m.2.1)) = Except.ok q := hq
    split at hq
    · cases hq
    · next w =>
      split at hq
      · cases hq
      · next w2 =>
        cases hq
        refine q_asg (d := .int ((vlN n.2.1 : Nat) : Int)) (e_num hn (e_ixT (d := .str (strN n.2.1)) (e_ixLv (d := tokD n) (d_var rfl) d_int atI_zero) d_int rfl rfl)) ?_
        refine q_no (EvT.to (t_test (d_ge (d_var rfl) (d_var rfl))) (decide_eq_false (by omega))) ?_
        refine q_asg (d := .int ((vlN m.2.1 : Nat) : Int)) (d_if (a := true) (EvT.to (t_test (d_gt (d_lenL (d_var rfl)) d_int)) rfl) (fun _ => e_num hm (e_ixT (d := .str (strN m.2.1)) (e_ixLv (d := tokD m) (d_var rfl) d_int rfl) d_int rfl rfl)) fun e => nomatch e) ?_
        refine q_no (EvT.to (t_test (e_eqI (d_var rfl) d_int)) (decide_eq_false (by omega))) ?_
        exact s_ret (d_tup (a_consV (d_var rfl) (a_consV (d_var rfl) a_nil)) (by simp)) (.inr ⟨rfl, rfl⟩) (.inl rfl)

theorem ok_read_assignment {P : Program} {w : World} {K : PySem.W.Frag} {mg : Str → Option Value} {base : Heap} {f : Addr} {fd : FuncData} (F : Fun K "read_assignment" "read_assignment" s_read_assignment f fd) (T : Txt K mg) (c_check_text : Cal P w K mg base CX0 2 "check_text" p_check_text (sp_check_text K)) (c_check_variants : Cal P w K mg base CX0 2 "check_variants" p_check_variants (sp_check_variants K)) (c_scan : Cal P w K mg base CX0 4 "scan" p_scan (sp_scan K)) (c_place_after : Cal P w K mg base CX0 3 "place_after" p_place_after (sp_place_after K)) (c_parted_in_runs : Cal P w K mg base CX0 1 "parted_in_runs" p_parted_in_runs (sp_parted_in_runs K)) (c_run_of : Cal P w K mg base CX0 1 "run_of" p_run_of (sp_run_of K)) :
    FnOk P w K mg base CX0 5 f fd p_read_assignment (sp_read_assignment K) := by
  obtain ⟨a_ASSIGNMENT, m_ASSIGNMENT, g_ASSIGNMENT⟩ := T.t_ASSIGNMENT
  refine F.ok sc_read_assignment (fun vs H Q E h => spD_len h (by rintro ds k d ⟨z, v, as, rfl, _⟩; rfl)) (fun cdv A outer s H vs Q E hr h => ⟨_, (pss_cons (ps_expr (pe_cal c_check_text (hr.mono (by decide)) rfl pass0 (pa_cons (pv 0) pa_nil)))
      (pss_cons (ps_expr (pe_cal c_check_variants (hr.mono (by decide)) rfl pass0 (pa_cons (pv 1) pa_nil)))
      (pss_cons (ps_set (i := 2) sc_read_assignment.nd rfl (Or.inl rfl) (pe_cal c_scan (hr.mono (by decide)) rfl pass0 (pa_cons (pv 0) pa_nil)))
      (pss_cons (ps_expr (pe_cal c_place_after (hr.mono (by decide)) rfl pass0 (pa_cons (pe_glob (v := .ref a_ASSIGNMENT) rfl m_ASSIGNMENT rfl) (pa_cons (pv 2) pa_nil))))
      (pss_cons (ps_set (i := 3) sc_read_assignment.nd rfl (Or.inl rfl) (pe_lst pa_nil))
      (pss_cons (ps_for PassesOwn.never rfl (k_seq (K := K) rfl (pe_cal c_parted_in_runs (hr.mono (by decide)) rfl pass0 (pa_cons (pe_slice (k_slU (K := K) rfl) (pv 2) po_none (po_some (pe_un un_neg pe_int))) pa_nil))) (pg_name (i := 4) sc_read_assignment.nd rfl (Or.inl rfl)) (pss_cons (ps_asg (pe_cal c_run_of (hr.mono (by decide)) rfl pass0 (pa_cons (pv 4) (pa_cons (pv 1) pa_nil))) (k_tupA (K := K) (n := 2) rfl rfl (pgs_cons (pg_name (i := 5) sc_read_assignment.nd rfl (Or.inl rfl)) (pgs_cons (pg_name (i := 6) sc_read_assignment.nd rfl (Or.inl rfl)) pgs_nil))))
      (pss_cons (ps_if (pt_cmpR op_gt (pe_op (k_add (K := K) rfl) (pe_callB (k_len (K := K) rfl) rfl T.b_len (by decide +kernel) (pa_cons (pv 3) pa_nil)) (pv 6)) (pe_const rfl T.k_MOST_BUCKETS) (nomark _)) (pss_one ps_never) pss_nil)
      (pss_one (ps_expr (k_bm (K := K) rfl PySem.F.plainAttrs_list PySem.F.slot_list_extend PySem.F.type_list_extend mt_extend (pv 3) (pa_cons (pe_op op_mulA (pe_lst (pa_cons (pv 5) pa_nil)) (pv 6)) pa_nil)))))))
      (pss_one (ps_ret (pe_callTy (k_tuple (K := K) rfl) rfl T.b_tuple (by decide +kernel) (pa_cons (pv 3) pa_nil)))))))))), run_pure (N := n_read_assignment) (fun ds k d hp => ?_) h⟩)
  obtain ⟨z, v, as, rfl, hb, h1, h5, hr', rfl, rfl⟩ := hp
  unfold rdA at hr'
  split at hr'
  · cases hr'
  · next ts hs =>
    split at hr'
    · cases hr'
    · next pl hpl =>
      obtain ⟨zl, tl, sc, ok, ne⟩ := scn_all hb hs
      have rows := as_rows sc rfl hpl
      refine q_drop (d_call (k := .v) (d := .none) (a_cons (d_var rfl) a_nil) ⟨z, rfl, hb, rfl, rfl⟩) ?_
      refine q_drop (d_call (k := .v) (d := .none) (a_cons (d_var rfl) a_nil) ⟨(v : Int), rfl, by omega, by omega, rfl, rfl⟩) ?_
      refine q_asgO (d := .list ((ts ++ [endT z]).map tokD)) (Ev.to (d_call (k := .o) (a_cons (d_var rfl) a_nil) ⟨z, ts, rfl, hb, hs, rfl, rfl⟩) (by rw [List.map_append]; rfl)) ?_
      refine q_drop (d_call (k := .v) (a_cons (e_gT g_ASSIGNMENT rfl) (a_cons (d_varO rfl) a_nil)) ⟨gAS, pl, ts ++ [endT z], rfl, .inr rfl, ok, by simp; omega, hpl, rfl, rfl⟩) ?_
      refine q_asgO (d := .list (ntL [])) (d_lst (kv := false) (ds := []) a_nil rfl (by decide)) ?_
      refine q_for (i_seqL (ds := (prn ts).map fun r => .list (r.map tokD)) (Ev.frz (d_call (k := .o) (a_cons (Ev.to (e_slL (d_varO rfl) o_none (o_some (e_neg d_int)) (fl_toks _)) (by rw [show (-(1 : Int)) = -1 from rfl, cutD_last, List.map_append]; simp)) a_nil) ⟨ts, rfl, by omega, rfl, rfl⟩)) kv_ne) (fun n Γ1 => ∃ f t4 t5 t6, rdF v f ((prn ts).drop n) = .ok as ∧ f.length ≤ 20 ∧ Γ1 = [some (.v (.str z)), some (.v (.int (v : Int))), some (.o (.list ((ts ++ [endT z]).map tokD))), some (.o (.list (ntL f))), t4, t5, t6]) ⟨[], none, none, none, hr', by simp, rfl⟩ (fun n a Γ1 hn' hI => ?_) (fun Γ1 hI => ?_)
      · obtain ⟨f, t4, t5, t6, h2, h3, rfl⟩ := hI
        obtain ⟨r0, hrow, rfl⟩ := rowT_at hn'
        have dr : (prn ts).drop n = r0 :: (prn ts).drop (n + 1) := by rw [List.drop_eq_getElem?_toList_append, hrow]; rfl
        rw [dr, rdF] at h2
        split at h2
        · cases h2
        · next q hq =>
          split at h2
          · cases h2
          · next w =>
            refine ⟨_, _, g_name, ?_⟩
            refine q_unp (fun d => d = qD q) (Ev.n (d_call (k := .v) (a_cons (d_var rfl) (a_cons (d_var rfl) a_nil)) ⟨r0, v, q, rfl, rows r0 (List.mem_of_getElem? hrow), hq, rfl, rfl⟩)) ?_
            rintro _ rfl
            refine ⟨_, _, _, .inl rfl, rfl, rfl, g_cons g_name (g_cons g_name g_nil), ?_⟩
            refine q_no (EvT.to (t_test (d_gt (e_add (d_lenL (d_varO rfl)) (d_var rfl)) d_int)) (decide_eq_false (by unfold ntL; simp; omega))) ?_
            refine s_ext rfl (Ev.to (e_rep (d_lst (kv := false) (ds := [.int (q.1 : Int)]) (a_cons (d_var rfl) a_nil) rfl (by simp)) rfl (d_var rfl) (by omega) (by omega) (by simp; omega)) (y := .list (ntL (List.replicate q.2 q.1))) (by unfold ntL; rw [Int.toNat_natCast, flat_rep, List.map_replicate, List.map_replicate])) (nat_flat _) (by unfold ntL; simp; omega) (.inl ⟨_, .inl rfl, f ++ List.replicate q.2 q.1, some (.v (.list (r0.map tokD))), some (.v (.int (q.1 : Int))), some (.v (.int (q.2 : Int))), h2, by simp; omega, by rw [nat_app]; rfl⟩)
      · obtain ⟨f, t4, t5, t6, h2, h3, rfl⟩ := hI
        rw [List.length_map, List.length_map, List.drop_length] at h2
        cases h2
        exact s_ret (d_tuple (d_varO rfl) (nat_flat _)) (.inr ⟨rfl, flatT _⟩) (.inl rfl)

theorem ok__law_stream {P : Program} {w : World} {K : PySem.W.Frag} {mg : Str → Option Value} {base : Heap} {f : Addr} {fd : FuncData} (F : Fun K "_law_stream" "_law_stream" s__law_stream f fd) (T : Txt K mg) :
    FnOk P w K mg base CX0 1 f fd p__law_stream (sp__law_stream K) := by
  refine F.ok sc__law_stream (fun vs H Q E h => by obtain ⟨a, ns, rfl, _⟩ := h; rfl) (fun cdv A outer s H vs Q E hr h => ⟨_, (pss_one (ps_ret (pe_lst (pa_cons (pe_callTy (k_list (K := K) rfl) rfl T.b_list (by decide +kernel) (pa_cons (pv 0) pa_nil)) (pa_cons pe_int (pa_cons pe_int pa_nil)))))), ?_⟩)
  obtain ⟨a, ns, rfl, hS, hl, k⟩ := h
  refine ⟨_, rfl, a, _, rfl, .inl hS, fun l hl => ⟨(by show 3 ≤ sizeLine; decide), fun st hst => ?_⟩⟩
  have nls : l ≠ st := fun z => by rw [z, upd_same] at hst; cases hst
  have hs0 : H st = none := by rw [← upd_ne (H := H) (o := .lst (ns.map V.int)) nls.symm]; exact hst
  refine k st l _ (fun b o z => ?_) hs0 ⟨ns, 0, 0, upd_same, by rw [upd_ne nls, upd_same], nls, by decide⟩
  rw [upd_ne (ne_of_none z hs0), upd_ne (ne_of_none z hl)]
  exact z

theorem ok__law_next {P : Program} {w : World} {K : PySem.W.Frag} {mg : Str → Option Value} {base : Heap} {f : Addr} {fd : FuncData} (F : Fun K "_law_next" "_law_next" s__law_next f fd) (T : Txt K mg) :
    FnOk P w K mg base CX0 1 f fd p__law_next (sp__law_next K) := by
  refine F.ok sc__law_next (fun vs H Q E h => spS_len h (by rintro ds k P ⟨m, rfl, _⟩; rfl)) (fun cdv A outer s H vs Q E hr h => ⟨_, (Evl.pss_cut (ps_if (pt_cmpR (k_eq (K := K) rfl (rUnits hr)) (pe_ix (k_ix (K := K) rfl) (pv 0) pe_int (fun _ _ => rfl)) pe_int (nomark _)) (pss_cons (ps_set (i := 2) sc__law_next.nd rfl (Or.inl rfl) (pe_ix (k_ix (K := K) rfl) (pv 0) pe_int (fun _ _ => rfl)))
      (pss_cons (ps_set (i := 3) sc__law_next.nd rfl (Or.inl rfl) (pe_op (k_add (K := K) rfl) pe_int (pv 2)))
      (Evl.pss_cut (ps_if (pt_cmpR op_lt (pv 2) (pe_callB (k_len (K := K) rfl) rfl T.b_len (by decide +kernel) (pa_cons (pe_ix (k_ix (K := K) rfl) (pv 0) pe_int (fun _ _ => rfl)) pa_nil)) (nomark _)) (pss_one (ps_set (i := 3) sc__law_next.nd rfl (Or.inl rfl) (pe_callB call_abs rfl T.b_abs (by decide +kernel) (pa_cons (pe_ix (k_ix (K := K) rfl) (pe_ix (k_ix (K := K) rfl) (pv 0) pe_int (fun _ _ => rfl)) (pv 2) (fun _ _ => rfl)) pa_nil)))) pss_nil)
      (Evl.pss_cut (ps_if (pt_cmpR op_lt (pv 3) (pe_op op_pow pe_int pe_int) (nomark _)) (pss_cons (ps_set (i := 3) sc__law_next.nd rfl (Or.inl rfl) (pe_op op_mod (pe_callTy call_int1 rfl T.b_int (by decide +kernel) (pa_cons (pe_op (k_add (K := K) rfl) (pe_op (k_add (K := K) rfl) (pe_op op_mulA (pv 3) pe_int) (pe_op op_mulA (pv 2) pe_int)) pe_int) pa_nil)) pe_int))
      (pss_one (ps_set (i := 3) sc__law_next.nd rfl (Or.inl rfl) (pe_op (k_add (K := K) rfl) (pe_op op_mulA (pe_op op_mod (pe_callTy call_int1 rfl T.b_int (by decide +kernel) (pa_cons (pe_op (k_add (K := K) rfl) (pe_op op_mulA (pv 3) pe_int) pe_int) pa_nil)) pe_int) pe_int) (pv 3))))) pss_nil)
      (pss_cons (ps_asg (pv 3) (pg_sub (pv 0) pe_int set_list))
      (pss_one (ps_asg (pe_op (k_add (K := K) rfl) (pv 2) pe_int) (pg_sub (pv 0) pe_int set_list)))))))) pss_nil)
      (pss_cons (ps_set (i := 4) sc__law_next.nd rfl (Or.inl rfl) (pe_op op_mod (pe_callTy call_int1 rfl T.b_int (by decide +kernel) (pa_cons (pe_ix (k_ix (K := K) rfl) (pv 0) pe_int (fun _ _ => rfl)) pa_nil)) (pv 1)))
      (pss_cons (ps_asg (pe_op op_fdiv (pe_ix (k_ix (K := K) rfl) (pv 0) pe_int (fun _ _ => rfl)) (pv 1)) (pg_sub (pv 0) pe_int set_list))
      (pss_one (ps_ret (pv 4)))))), ?_⟩)
  obtain ⟨st, l, vs', ds, kd, P', rfl, hst, hb, ⟨m, rfl, hm, hm2, rfl, rfl⟩, hq⟩ := h
  obtain ⟨mv, rfl, bm⟩ := hb.one
  have em := bm.int'
  subst em
  obtain ⟨ns, x, k, h1, h2, h3, h4⟩ := hst
  -- behind the first if the stream's cell is any int
  refine ⟨fun σ H1 => ∃ (a b c : Option V) (x k : Int), σ = [some (.ref st), some (.int m), a, b, c] ∧ H1 st = some (.lst [.ref l, .int x, .int k]) ∧ H1 l = some (.lst (ns.map V.int)) ∧ 0 ≤ k ∧ ∀ a o, a ≠ st → H a = some o → H1 a = some o, ?_, ?_⟩
  · refine ⟨_, rfl, .inl ⟨st, _, 1, .int x, rfl, rfl, .inl (.inl h1), rfl, .inl ⟨rfl, _, rfl, ?_⟩⟩⟩
    refine ite2 (fun _ => ?_) (fun _ => ⟨_, _, _, x, k, rfl, h1, h2, h4, fun _ _ _ z => z⟩)
    refine ⟨_, rfl, .inl ⟨st, _, 2, .int k, rfl, rfl, .inl (.inl h1), rfl, ?_⟩⟩
    refine ⟨_, rfl, .inl ⟨7, k, rfl, rfl, ?_⟩⟩
    refine ⟨fun σ H1 => H1 = H ∧ ∃ z : Int, σ = [some (.ref st), some (.int m), some (.int k), some (.int z), none], ?_, ?_⟩
    · refine ⟨_, rfl, _, rfl, .inl ⟨st, _, 0, .ref l, rfl, rfl, .inl (.inl h1), rfl, ⟨l, _, rfl, .inl (.inl (.inl h2)), k, _, rfl, rfl, _, rfl, ?_⟩⟩⟩
      refine ite2 (fun hk => ?_) (fun _ => ⟨rfl, _, rfl⟩)
      have hk' : k < (ns.length : Int) := by simpa using of_decide_eq_true hk
      obtain ⟨j, rfl⟩ := Int.eq_ofNat_of_zero_le h4
      have hj : j < ns.length := by omega
      have hat : atI (ns.map V.int) (j : Int) = some (.int ns[j]) := atI_nat (by simp [hj])
      exact ⟨_, rfl, .inl ⟨st, _, 0, .ref l, rfl, rfl, .inl (.inl h1), rfl, _, rfl, .inl ⟨l, _, (j : Int), _, rfl, rfl, .inl (.inl h2), hat, _, rfl, rfl, _, rfl⟩⟩⟩
    · rintro σ H1 ⟨rfl, z, rfl⟩
      refine ⟨fun σ H1' => H1' = H1 ∧ ∃ z : Int, σ = [some (.ref st), some (.int m), some (.int k), some (.int z), none], ?_, ?_⟩
      · refine ⟨_, rfl, 10, 18, rfl, rfl, ⟨by decide, by decide, by decide⟩, z, _, rfl, rfl, _, rfl, ?_⟩
        refine ite2 (fun _ => ?_) (fun _ => ⟨rfl, _, rfl⟩)
        refine ⟨_, rfl, .inl ⟨z, 48271, rfl, rfl, .inr ⟨by decide, by decide⟩, _, rfl, .inl ⟨k, 69621, rfl, rfl, .inr ⟨by decide, by decide⟩, .inl ⟨_, _, rfl, rfl, .inl ⟨_, _, rfl, rfl, .inl ⟨_, rfl, _, _, rfl, rfl, (by show (0 : Int) < 2147483647; decide), ?_⟩⟩⟩⟩⟩⟩
        refine ⟨_, rfl, .inl ⟨_, 16807, rfl, rfl, .inr ⟨by decide, by decide⟩, .inl ⟨_, _, rfl, rfl, .inl ⟨_, rfl, _, _, rfl, rfl, (by show (0 : Int) < 2147483647; decide), .inl ⟨_, 65537, rfl, rfl, .inr ⟨by decide, by decide⟩, _, rfl, .inl ⟨_, _, rfl, rfl, rfl, _, rfl⟩⟩⟩⟩⟩⟩
      · rintro σ H1' ⟨rfl, z, rfl⟩
        refine ⟨_, rfl, _, rfl, st, _, 1, 1, rfl, rfl, h1, rfl, ?_⟩
        refine ⟨_, rfl, .inl ⟨k, 1, rfl, rfl, _, rfl, st, _, 2, 2, rfl, rfl, upd_same, rfl, ?_⟩⟩
        refine ⟨_, _, _, z, k + 1, rfl, upd_same, by rw [upd_ne h3, upd_ne h3]; exact h2, by omega, fun a o na ha => by rw [upd_ne na, upd_ne na]; exact ha⟩
  · rintro σ H1 ⟨a, b, c, x, k, rfl, g1, g2, g4, g5⟩
    refine ⟨_, rfl, .inl ⟨st, _, 1, .int x, rfl, rfl, .inl (.inl g1), rfl, .inl ⟨x, rfl, _, rfl, x, m, rfl, rfl, hm, ?_⟩⟩⟩
    refine ⟨_, rfl, .inl ⟨st, _, 1, .int x, rfl, rfl, .inl (.inl g1), rfl, _, rfl, x, m, rfl, rfl, ⟨hm, hm2⟩, _, rfl, st, _, 1, 1, rfl, rfl, g1, rfl, ?_⟩⟩
    refine ⟨_, rfl, hq _ (.int (x % m)) _ ⟨x % m, rfl, Int.emod_nonneg _ (by omega), Int.emod_lt_of_pos _ hm⟩ ⟨fun a o na ha => ?_, fun _ st' l' e => ?_⟩ ⟨rfl, .int _⟩⟩
    · have : a ≠ st := na st l rfl
      rw [upd_ne this]
      exact g5 a o this ha
    · cases e
      exact Str1.put g2 h3 g4

theorem ok__law_is_integer {P : Program} {w : World} {K : PySem.W.Frag} {mg : Str → Option Value} {base : Heap} {f : Addr} {fd : FuncData} (F : Fun K "_law_is_integer" "_law_is_integer" s__law_is_integer f fd) (T : Txt K mg) :
    FnOk P w K mg base CX0 1 f fd p__law_is_integer (sp__law_is_integer K) := by
  refine F.ok sc__law_is_integer (fun vs H Q E h => spD_len h (by rintro ds k d ⟨x, rfl, _⟩; rfl)) (fun cdv A outer s H vs Q E hr h => ⟨_, (pss_one (ps_ret (pe_and (pe_callB (k_isi (K := K) rfl) rfl T.b_isinstance (by decide +kernel) (pa_cons (pv 0) (pa_cons (pe_ty (n := "int") rfl T.b_int (by decide +kernel)) pa_nil))) (pe_one (pe_not (pe_callB (k_isi (K := K) rfl) rfl T.b_isinstance (by decide +kernel) (pa_cons (pv 0) (pa_cons (pe_ty (n := "bool") rfl T.b_bool (by decide +kernel)) pa_nil)))))))), run_pure (N := n__law_is_integer) (fun ds k d hp => ?_) h⟩)
  obtain ⟨x, rfl, rfl, rfl⟩ := hp
  refine s_ret ((d_andV (e_isi (d_var rfl) (kit_int x)) fun _ => d_notV (e_isi (d_var rfl) (kit_bool x))).to ?_) (.inr ⟨rfl, rfl⟩) (.inl rfl)
  cases x <;> rfl

theorem ok_eq {P : Program} {w : World} {K : PySem.W.Frag} {mg : Str → Option Value} {base : Heap} {f : Addr} {fd : FuncData} (F : Fun K "_law_equal" "_law_equal" s__law_equal f fd) (T : Txt K mg) (c_int : Cal P w K mg base CX0 1 "_law_is_integer" p__law_is_integer (sp__law_is_integer K)) (n : Nat)
    (c_eq : Cal P w K mg base CX0 (n + 1) "_law_equal" p__law_equal (spEq K n)) : FnOk P w K mg base CX0 (n + 2) f fd p__law_equal (spEq K (n + 1)) := by
  refine F.ok sc__law_equal (fun vs H Q E h => spD_len (E := E) h (by rintro ds k d ⟨x, rfl, _⟩; rfl)) (fun cdv A outer s H vs Q E hr h => ⟨_, (pss_cons (ps_if (pt_cmpR op_isN (pv 1) pe_non (nomark _)) (pss_one (ps_ret (pe_cmpR op_isN (pv 0) pe_non (nomark _)))) pss_nil)
      (pss_cons (ps_if (pt_val (pe_callB (k_isi (K := K) rfl) rfl T.b_isinstance (by decide +kernel) (pa_cons (pv 1) (pa_cons (pe_ty (n := "bool") rfl T.b_bool (by decide +kernel)) pa_nil)))) (pss_one (ps_ret (pe_and (pe_callB (k_isi (K := K) rfl) rfl T.b_isinstance (by decide +kernel) (pa_cons (pv 0) (pa_cons (pe_ty (n := "bool") rfl T.b_bool (by decide +kernel)) pa_nil))) (pe_one (pe_cmpR (k_eq (K := K) rfl (rUnits hr)) (pv 0) (pv 1) (nomark _)))))) pss_nil)
      (pss_cons (ps_if (pt_val (pe_callB (k_isi (K := K) rfl) rfl T.b_isinstance (by decide +kernel) (pa_cons (pv 1) (pa_cons (pe_ty (n := "int") rfl T.b_int (by decide +kernel)) pa_nil)))) (pss_one (ps_ret (pe_and (pe_cal c_int (hr.mono (by omega)) rfl pass0 (pa_cons (pv 0) pa_nil)) (pe_one (pe_cmpR (k_eq (K := K) rfl (rUnits hr)) (pv 0) (pv 1) (nomark _)))))) pss_nil)
      (pss_cons (ps_if (pt_val (pe_callB (k_isi (K := K) rfl) rfl T.b_isinstance (by decide +kernel) (pa_cons (pv 1) (pa_cons (pe_ty (n := "str") rfl T.b_str (by decide +kernel)) pa_nil)))) (pss_one (ps_ret (pe_and (pe_callB (k_isi (K := K) rfl) rfl T.b_isinstance (by decide +kernel) (pa_cons (pv 0) (pa_cons (pe_ty (n := "str") rfl T.b_str (by decide +kernel)) pa_nil))) (pe_one (pe_cmpR (k_eq (K := K) rfl (rUnits hr)) (pv 0) (pv 1) (nomark _)))))) pss_nil)
      (pss_cons (ps_if (PW.pt (pw_and (pt_val (pe_callB (k_isi (K := K) rfl) rfl T.b_isinstance (by decide +kernel) (pa_cons (pv 1) (pa_cons (pe_ty (n := "tuple") rfl T.b_tuple (by decide +kernel)) pa_nil)))) (pw_and1 (pt_not (pt_val (pe_callB (k_isi (K := K) rfl) rfl T.b_isinstance (by decide +kernel) (pa_cons (pv 0) (pa_cons (pe_ty (n := "tuple") rfl T.b_tuple (by decide +kernel)) pa_nil)))))))) (pss_one (ps_ret pe_bl)) pss_nil)
      (pss_cons (ps_if (PW.pt (pw_and (pt_val (pe_callB (k_isi (K := K) rfl) rfl T.b_isinstance (by decide +kernel) (pa_cons (pv 1) (pa_cons (pe_ty (n := "list") rfl T.b_list (by decide +kernel)) pa_nil)))) (pw_and1 (pt_not (pt_val (pe_callB (k_isi (K := K) rfl) rfl T.b_isinstance (by decide +kernel) (pa_cons (pv 0) (pa_cons (pe_ty (n := "list") rfl T.b_list (by decide +kernel)) pa_nil)))))))) (pss_one (ps_ret pe_bl)) pss_nil)
      (pss_cons (ps_if (pt_cmpR (k_ne (K := K) rfl (rUnits hr)) (pe_callB (k_len (K := K) rfl) rfl T.b_len (by decide +kernel) (pa_cons (pv 0) pa_nil)) (pe_callB (k_len (K := K) rfl) rfl T.b_len (by decide +kernel) (pa_cons (pv 1) pa_nil)) (nomark _)) (pss_one (ps_ret pe_bl)) pss_nil)
      (pss_one (ps_ret (pe_callB (k_all (K := K) rfl rfl) rfl T.b_all (by decide +kernel) (pa_cons (pe_lc rfl sc__law_equal.nd (pi_range1 rfl T.b_range (pa_cons (pe_callB (k_len (K := K) rfl) rfl T.b_len (by decide +kernel) (pa_cons (pv 1) pa_nil)) pa_nil)) (blkOk_by (own := [("at", 2)]) (N := n__law_equal) (sc := defScope s__law_equal) (by decide +kernel)) (fun _ _ _ _ _ => by exact (pg_name (i := 2) sc__law_equal.nd rfl (Or.inl rfl))) (fun _ _ _ _ _ => by exact pts_nil) (fun _ _ _ _ _ => by exact (pe_cal c_eq hr rfl pass0 (pa_cons (pe_ix (k_ix (K := K) rfl) (pv 0) (pv 2) (fun _ _ => rfl)) (pa_cons (pe_ix (k_ix (K := K) rfl) (pv 1) (pv 2) (fun _ _ => rfl)) pa_nil))))) pa_nil))))))))))), run_pure (E := E) (N := n__law_equal) (fun ds k d hp => ?_) h⟩)
  obtain ⟨x, rfl, hx, rfl, rfl⟩ := hp
  have flatB : flatD (.bool true) = true := rfl
  have isN : ∀ (a : Bool), isNoneD x = a → EvT (pc K) (tTest (tOp (fun x y H Q => y = .non ∧ Q (.bl (decide (x = .non))) H) (tVar 1) (tC .non))) (argsG [x, x] n__law_equal.length) a := fun a h => (t_test (d_isN (d_var rfl))).to h
  cases hx with
  | non => exact q_if (isN true rfl) (fun _ => q_ret ((d_isN (d_var (d := .none) rfl)).to rfl) (.inr ⟨rfl, flatB⟩) (.inl rfl)) fun e => nomatch e
  | bl b =>
    refine q_no (isN false rfl) (q_if ((t_B (e_isi (d_var rfl) (kit_bool (.bool b)))).to (b := true) rfl) (fun _ => ?_) fun e => nomatch e)
    exact q_ret ((d_andV (b := true) (e_isi (d_var rfl) (kit_bool (.bool b))) fun _ => e_eqS (d_var rfl) (d_var rfl) rfl rfl rfl (decide_eq_true rfl)).to rfl) (.inr ⟨rfl, flatB⟩) (.inl rfl)
  | int i =>
    refine q_no (isN false rfl) (q_no ((t_B (e_isi (d_var rfl) (kit_bool (.int i)))).to rfl) (q_if ((t_B (e_isi (d_var rfl) (kit_int (.int i)))).to (b := true) rfl) (fun _ => ?_) fun e => nomatch e))
    exact q_ret ((d_andV (b := true) (d_call (a_cons (d_var rfl) a_nil) ⟨.int i, rfl, rfl, rfl⟩) fun _ => e_eqS (d_var rfl) (d_var rfl) rfl rfl rfl (decide_eq_true rfl)).to rfl) (.inr ⟨rfl, flatB⟩) (.inl rfl)
  | str z =>
    refine q_no (isN false rfl) (q_no ((t_B (e_isi (d_var rfl) (kit_bool (.str z)))).to rfl) (q_no ((t_B (e_isi (d_var rfl) (kit_int (.str z)))).to rfl) (q_if ((t_B (e_isi (d_var rfl) (kit_str (.str z)))).to (b := true) rfl) (fun _ => ?_) fun e => nomatch e)))
    exact q_ret ((d_andV (b := true) (e_isi (d_var rfl) (kit_str (.str z))) fun _ => e_eqS (d_var rfl) (d_var rfl) rfl rfl rfl (decide_eq_true rfl)).to rfl) (.inr ⟨rfl, flatB⟩) (.inl rfl)
  | @lst m xs hl hxs =>
    refine q_no (isN false rfl) (q_no ((t_B (e_isi (d_var rfl) (kit_bool (.list xs)))).to rfl) (q_no ((t_B (e_isi (d_var rfl) (kit_int (.list xs)))).to rfl) (q_no ((t_B (e_isi (d_var rfl) (kit_str (.list xs)))).to rfl) ?_)))
    refine q_no ((t_and (b := false) ((t_B (e_isi (d_var rfl) (kit_tuple (.list xs)))).to (b := false) rfl) fun e => nomatch e).to rfl) ?_
    refine q_no ((t_and (b := false) ((t_B (e_isi (d_var rfl) (kit_list (.list xs)))).to (b := true) rfl) fun _ => (t_not ((t_B (e_isi (d_var rfl) (kit_list (.list xs)))).to (b := true) rfl)).to rfl).to rfl) ?_
    refine q_no ((t_test (e_neI (d_lenL (d_var rfl)) (d_lenL (d_var rfl)))).to (by simp)) ?_
    refine s_ret ((d_all (d_lcB (fun _ => true) (i_rng1 (a_cons (d_lenL (d_var rfl)) a_nil) (by omega) (by omega)) (by simp [upI]; omega) fun i hi => ?_)).to (by simp)) (.inr ⟨rfl, flatB⟩) (.inl rfl)
    obtain ⟨j, hj, rfl⟩ := List.mem_map.mp hi
    have hj' : j < xs.length := by simpa using hj
    have hg : xs[j]? = some xs[j] := List.getElem?_eq_getElem hj'
    exact ⟨_, _, g_name, fun j hj => hj, _, d_call (a_cons (e_ixLv (d_var rfl) (d_var rfl) (atI_i hg)) (a_cons (e_ixLv (d_var rfl) (d_var rfl) (atI_i hg)) a_nil)) ⟨_, rfl, hxs _ (List.getElem_mem hj'), rfl, rfl⟩⟩
  | @tup m xs hl hxs =>
    refine q_no (isN false rfl) (q_no ((t_B (e_isi (d_var rfl) (kit_bool (.tuple xs)))).to rfl) (q_no ((t_B (e_isi (d_var rfl) (kit_int (.tuple xs)))).to rfl) (q_no ((t_B (e_isi (d_var rfl) (kit_str (.tuple xs)))).to rfl) ?_)))
    refine q_no ((t_and (b := false) ((t_B (e_isi (d_var rfl) (kit_tuple (.tuple xs)))).to (b := true) rfl) fun _ => (t_not ((t_B (e_isi (d_var rfl) (kit_tuple (.tuple xs)))).to (b := true) rfl)).to rfl).to rfl) ?_
    refine q_no ((t_and (b := false) ((t_B (e_isi (d_var rfl) (kit_list (.tuple xs)))).to (b := false) rfl) fun e => nomatch e).to rfl) ?_
    refine q_no ((t_test (e_neI (d_lenT (d_var rfl)) (d_lenT (d_var rfl)))).to (by simp)) ?_
    refine s_ret ((d_all (d_lcB (fun _ => true) (i_rng1 (a_cons (d_lenT (d_var rfl)) a_nil) (by omega) (by omega)) (by simp [upI]; omega) fun i hi => ?_)).to (by simp)) (.inr ⟨rfl, flatB⟩) (.inl rfl)
    obtain ⟨j, hj, rfl⟩ := List.mem_map.mp hi
    have hj' : j < xs.length := by simpa using hj
    have hg : xs[j]? = some xs[j] := List.getElem?_eq_getElem hj'
    exact ⟨_, _, g_name, fun j hj => hj, _, d_call (a_cons (e_ixTv (d_var rfl) (d_var rfl) (atI_i hg)) (a_cons (e_ixTv (d_var rfl) (d_var rfl) (atI_i hg)) a_nil)) ⟨_, rfl, hxs _ (List.getElem_mem hj'), rfl, rfl⟩⟩
theorem ok__law_equal {P : Program} {w : World} {K : PySem.W.Frag} {mg : Str → Option Value} {base : Heap} {f : Addr} {fd : FuncData} (F : Fun K "_law_equal" "_law_equal" s__law_equal f fd) (T : Txt K mg) (c_int : Cal P w K mg base CX0 1 "_law_is_integer" p__law_is_integer (sp__law_is_integer K))
    (mgf : mg "_law_equal" = some (.ref f)) (bd : Binds K fd p__law_equal []) : FnOk P w K mg base CX0 10 f fd p__law_equal (sp__law_equal K) := by
  have all : ∀ n, FnOk P w K mg base CX0 (n + 1) f fd p__law_equal (spEq K n) := by
    intro n
    induction n with
    | zero => exact ⟨fun _ _ _ _ h => h.elim, fun _ _ _ _ _ _ _ _ _ _ _ _ _ h => h.elim⟩
    | succ n ih => exact ok_eq F T c_int n ⟨f, fd, ih, mgf, F.kp, bd⟩
  exact (all 8).mono (by decide)

theorem ok__law_pick {P : Program} {w : World} {K : PySem.W.Frag} {mg : Str → Option Value} {base : Heap} {f : Addr} {fd : FuncData} (F : Fun K "_law_pick" "_law_pick" s__law_pick f fd) (T : Txt K mg) (c__law_next : Cal P w K mg base CX0 1 "_law_next" p__law_next (sp__law_next K)) :
    FnOk P w K mg base CX0 2 f fd p__law_pick (sp__law_pick K) := by
  refine F.ok sc__law_pick (fun vs H Q E h => by obtain ⟨st, l, p, xs, rfl, _⟩ := h; rfl) (fun cdv A outer s H vs Q E hr h => ⟨_, (pss_one (ps_ret (pe_ix (k_ix (K := K) rfl) (pv 1) (pe_cal c__law_next (hr.mono (by decide)) rfl pass0 (pa_cons (pv 0) (pa_cons (pe_callB (k_len (K := K) rfl) rfl T.b_len (by decide +kernel) (pa_cons (pv 1) pa_nil)) pa_nil))) (fun _ _ => rfl)))), ?_⟩)
  obtain ⟨st, l, p, xs, rfl, hst, sq, np, h1, h2, q⟩ := h
  refine ⟨.ref p, rfl, .ref st, rfl, .ref p, rfl, p, xs, rfl, .inl sq, ?_⟩
  refine ⟨st, l, [.int xs.length], [.int xs.length], .v, _, rfl, hst, .cons (.int _) .nil, ⟨_, rfl, by omega, by omega, rfl, rfl⟩, fun v d H' hd r rt => ?_⟩
  obtain ⟨n, rfl, n0, n1⟩ := hd
  obtain ⟨n, rfl⟩ := Int.eq_ofNat_of_zero_le n0
  have hv := rt.2.int'
  subst hv
  have hn : n < xs.length := by omega
  have hg : xs[n]? = some xs[n] := List.getElem?_eq_getElem hn
  exact .inl ⟨p, xs, n, xs[n], rfl, rfl, r.lst (fun st' l' e => by cases e; exact np) sq, atI_nat hg, q n xs[n] H' hg r⟩

theorem ok__law_share_rows {P : Program} {w : World} {K : PySem.W.Frag} {mg : Str → Option Value} {base : Heap} {f : Addr} {fd : FuncData} (F : Fun K "_law_share_rows" "_law_share_rows" s__law_share_rows f fd) (T : Txt K mg) :
    FnOk P w K mg base CX0 1 f fd p__law_share_rows (sp__law_share_rows K) := by
  refine F.ok sc__law_share_rows (fun vs H Q E h => spD_len h (by rintro ds k d ⟨rfl, _⟩; rfl)) (fun cdv A outer s H vs Q E hr h => ⟨_, (pss_cons (ps_set (i := 0) sc__law_share_rows.nd rfl (Or.inl rfl) pe_str)
      (pss_cons (ps_set (i := 1) sc__law_share_rows.nd rfl (Or.inl rfl) pe_str)
      (pss_cons (ps_set (i := 2) sc__law_share_rows.nd rfl (Or.inl rfl) pe_str)
      (pss_cons (ps_set (i := 3) sc__law_share_rows.nd rfl (Or.inl rfl) pe_str)
      (pss_cons (ps_set (i := 4) sc__law_share_rows.nd rfl (Or.inl rfl) pe_str)
      (pss_cons (ps_set (i := 5) sc__law_share_rows.nd rfl (Or.inl rfl) pe_str)
      (pss_one (ps_ret (pe_lst (pa_cons (pe_tupN (pa_cons pe_str (pa_cons (pv 2) pa_nil))) (pa_cons (pe_tupN (pa_cons pe_str (pa_cons (pv 5) pa_nil))) (pa_cons (pe_tupN (pa_cons pe_str (pa_cons (pv 5) pa_nil))) (pa_cons (pe_tupN (pa_cons pe_str (pa_cons (pv 4) pa_nil))) (pa_cons (pe_tupN (pa_cons pe_str (pa_cons (pv 4) pa_nil))) (pa_cons (pe_tupN (pa_cons pe_str (pa_cons (pv 3) pa_nil))) (pa_cons (pe_tupN (pa_cons pe_str (pa_cons (pv 3) pa_nil))) (pa_cons (pe_tupN (pa_cons pe_str (pa_cons (pv 3) pa_nil))) (pa_cons (pe_tupN (pa_cons pe_str (pa_cons (pv 1) pa_nil))) (pa_cons (pe_tupN (pa_cons pe_str (pa_cons (pv 1) pa_nil))) (pa_cons (pe_tupN (pa_cons pe_str (pa_cons (pv 1) pa_nil))) (pa_cons (pe_tupN (pa_cons pe_str (pa_cons (pv 1) pa_nil))) (pa_cons (pe_tupN (pa_cons pe_str (pa_cons (pv 0) pa_nil))) (pa_cons (pe_tupN (pa_cons pe_str (pa_cons (pv 0) pa_nil))) (pa_cons (pe_tupN (pa_cons pe_str (pa_cons (pv 0) pa_nil))) (pa_cons (pe_tupN (pa_cons pe_str (pa_cons (pv 0) pa_nil))) (pa_cons (pe_tupN (pa_cons pe_str (pa_cons (pv 2) pa_nil))) (pa_cons (pe_tupN (pa_cons pe_str (pa_cons (pv 2) pa_nil))) (pa_cons (pe_tupN (pa_cons pe_str (pa_cons (pv 4) pa_nil))) (pa_cons (pe_tupN (pa_cons pe_str (pa_cons (pv 3) pa_nil))) (pa_cons (pe_tupN (pa_cons pe_str (pa_cons (pv 1) pa_nil))) pa_nil)))))))))))))))))))))))))))))), run_pure (N := n__law_share_rows) (fun ds k d hp => ?_) h⟩)
  obtain ⟨rfl, rfl, rfl⟩ := hp
  refine q_asg (d := .str (Str.ofString "the total is not the whole")) d_str ?_
  refine q_asg (d := .str (Str.ofString "a share is at most the whole")) d_str ?_
  refine q_asg (d := .str (Str.ofString "this name stands already")) d_str ?_
  refine q_asg (d := .str (Str.ofString "a denominator is from 1 to 10000")) d_str ?_
  refine q_asg (d := .str (Str.ofString "at most two digits stand behind the point")) d_str ?_
  refine q_asg (d := .str (Str.ofString "there are at most 5 variants")) d_str ?_
  exact s_ret (d_lst (kv := false) (ds := rowsS.map prS) (a_cons (d := prS ("a 50, @a 50", "this name stands already")) (d_tup (a_consV d_str (a_consV (d_var rfl) a_nil)) (by simp)) (a_cons (d := prS ("a 1, b 2, c 3, d 4, e 5, @f 6", "there are at most 5 variants")) (d_tup (a_consV d_str (a_consV (d_var rfl) a_nil)) (by simp)) (a_cons (d := prS ("a 1, b 2, c 3, d 4, e 5, @a 6", "there are at most 5 variants")) (d_tup (a_consV d_str (a_consV (d_var rfl) a_nil)) (by simp)) (a_cons (d := prS ("a 50.@125", "at most two digits stand behind the point")) (d_tup (a_consV d_str (a_consV (d_var rfl) a_nil)) (by simp)) (a_cons (d := prS ("a 12.50, b 0.@000", "at most two digits stand behind the point")) (d_tup (a_consV d_str (a_consV (d_var rfl) a_nil)) (by simp)) (a_cons (d := prS ("a 1/@0", "a denominator is from 1 to 10000")) (d_tup (a_consV d_str (a_consV (d_var rfl) a_nil)) (by simp)) (a_cons (d := prS ("a 1/@10001", "a denominator is from 1 to 10000")) (d_tup (a_consV d_str (a_consV (d_var rfl) a_nil)) (by simp)) (a_cons (d := prS ("a 2/@000, a 3", "a denominator is from 1 to 10000")) (d_tup (a_consV d_str (a_consV (d_var rfl) a_nil)) (by simp)) (a_cons (d := prS ("a @101", "a share is at most the whole")) (d_tup (a_consV d_str (a_consV (d_var rfl) a_nil)) (by simp)) (a_cons (d := prS ("a @100.01", "a share is at most the whole")) (d_tup (a_consV d_str (a_consV (d_var rfl) a_nil)) (by simp)) (a_cons (d := prS ("a @3/2", "a share is at most the whole")) (d_tup (a_consV d_str (a_consV (d_var rfl) a_nil)) (by simp)) (a_cons (d := prS ("a 40, b @10001/10000, b 1", "a share is at most the whole")) (d_tup (a_consV d_str (a_consV (d_var rfl) a_nil)) (by simp)) (a_cons (d := prS ("a 50, b 49.99@", "the total is not the whole")) (d_tup (a_consV d_str (a_consV (d_var rfl) a_nil)) (by simp)) (a_cons (d := prS ("a 1/2, b 1/3, c 1/7@", "the total is not the whole")) (d_tup (a_consV d_str (a_consV (d_var rfl) a_nil)) (by simp)) (a_cons (d := prS ("a 0@", "the total is not the whole")) (d_tup (a_consV d_str (a_consV (d_var rfl) a_nil)) (by simp)) (a_cons (d := prS ("a 100, b 0.01@", "the total is not the whole")) (d_tup (a_consV d_str (a_consV (d_var rfl) a_nil)) (by simp)) (a_cons (d := prS ("a 60, b 50, @b 1", "this name stands already")) (d_tup (a_consV d_str (a_consV (d_var rfl) a_nil)) (by simp)) (a_cons (d := prS ("a 50, b 25, @a 25", "this name stands already")) (d_tup (a_consV d_str (a_consV (d_var rfl) a_nil)) (by simp)) (a_cons (d := prS ("a 50, b 200.@123", "at most two digits stand behind the point")) (d_tup (a_consV d_str (a_consV (d_var rfl) a_nil)) (by simp)) (a_cons (d := prS ("a 5/@0, b 200", "a denominator is from 1 to 10000")) (d_tup (a_consV d_str (a_consV (d_var rfl) a_nil)) (by simp)) (a_cons (d := prS ("a @999999, a 1/0", "a share is at most the whole")) (d_tup (a_consV d_str (a_consV (d_var rfl) a_nil)) (by simp)) a_nil))))))))))))))))))))) rfl (by decide)) (.inl rfl) (.inl rfl)

theorem ok__law_run_rows {P : Program} {w : World} {K : PySem.W.Frag} {mg : Str → Option Value} {base : Heap} {f : Addr} {fd : FuncData} (F : Fun K "_law_run_rows" "_law_run_rows" s__law_run_rows f fd) (T : Txt K mg) :
    FnOk P w K mg base CX0 1 f fd p__law_run_rows (sp__law_run_rows K) := by
  refine F.ok sc__law_run_rows (fun vs H Q E h => spD_len h (by rintro ds k d ⟨rfl, _⟩; rfl)) (fun cdv A outer s H vs Q E hr h => ⟨_, (pss_cons (ps_set (i := 0) sc__law_run_rows.nd rfl (Or.inl rfl) pe_str)
      (pss_cons (ps_set (i := 1) sc__law_run_rows.nd rfl (Or.inl rfl) pe_str)
      (pss_cons (ps_set (i := 2) sc__law_run_rows.nd rfl (Or.inl rfl) pe_str)
      (pss_one (ps_ret (pe_lst (pa_cons (pe_tupN (pa_cons pe_str (pa_cons (pv 0) pa_nil))) (pa_cons (pe_tupN (pa_cons pe_str (pa_cons (pv 0) pa_nil))) (pa_cons (pe_tupN (pa_cons pe_str (pa_cons (pv 1) pa_nil))) (pa_cons (pe_tupN (pa_cons pe_str (pa_cons (pv 1) pa_nil))) (pa_cons (pe_tupN (pa_cons pe_str (pa_cons (pv 2) pa_nil))) (pa_cons (pe_tupN (pa_cons pe_str (pa_cons (pv 2) pa_nil))) (pa_cons (pe_tupN (pa_cons pe_str (pa_cons (pv 2) pa_nil))) (pa_cons (pe_tupN (pa_cons pe_str (pa_cons (pv 0) pa_nil))) (pa_cons (pe_tupN (pa_cons pe_str (pa_cons (pv 0) pa_nil))) (pa_cons (pe_tupN (pa_cons pe_str (pa_cons (pv 2) pa_nil))) (pa_cons (pe_tupN (pa_cons pe_str (pa_cons (pv 0) pa_nil))) (pa_cons (pe_tupN (pa_cons pe_str (pa_cons (pv 1) pa_nil))) pa_nil)))))))))))))))))), run_pure (N := n__law_run_rows) (fun ds k d hp => ?_) h⟩)
  obtain ⟨rfl, rfl, rfl⟩ := hp
  refine q_asg (d := .str (Str.ofString "there is no such variant")) d_str ?_
  refine q_asg (d := .str (Str.ofString "a run has at least one bucket")) d_str ?_
  refine q_asg (d := .str (Str.ofString "there are at most 20 buckets")) d_str ?_
  exact s_ret (d_lst (kv := false) (ds := rowsR.map prS) (a_cons (d := prS ("@#", "there is no such variant")) (d_tup (a_consV d_str (a_consV (d_var rfl) a_nil)) (by simp)) (a_cons (d := prS ("0 1 1 @#", "there is no such variant")) (d_tup (a_consV d_str (a_consV (d_var rfl) a_nil)) (by simp)) (a_cons (d := prS ("0*@0", "a run has at least one bucket")) (d_tup (a_consV d_str (a_consV (d_var rfl) a_nil)) (by simp)) (a_cons (d := prS ("1*2 1*@000 #", "a run has at least one bucket")) (d_tup (a_consV d_str (a_consV (d_var rfl) a_nil)) (by simp)) (a_cons (d := prS ("0*20 @1", "there are at most 20 buckets")) (d_tup (a_consV d_str (a_consV (d_var rfl) a_nil)) (by simp)) (a_cons (d := prS ("@0*21", "there are at most 20 buckets")) (d_tup (a_consV d_str (a_consV (d_var rfl) a_nil)) (by simp)) (a_cons (d := prS ("0*19 1 @1", "there are at most 20 buckets")) (d_tup (a_consV d_str (a_consV (d_var rfl) a_nil)) (by simp)) (a_cons (d := prS ("0*3 @#*0", "there is no such variant")) (d_tup (a_consV d_str (a_consV (d_var rfl) a_nil)) (by simp)) (a_cons (d := prS ("@00000#*0", "there is no such variant")) (d_tup (a_consV d_str (a_consV (d_var rfl) a_nil)) (by simp)) (a_cons (d := prS ("0*10 @1*11 7", "there are at most 20 buckets")) (d_tup (a_consV d_str (a_consV (d_var rfl) a_nil)) (by simp)) (a_cons (d := prS ("@999999", "there is no such variant")) (d_tup (a_consV d_str (a_consV (d_var rfl) a_nil)) (by simp)) (a_cons (d := prS ("0*@000000", "a run has at least one bucket")) (d_tup (a_consV d_str (a_consV (d_var rfl) a_nil)) (by simp)) a_nil)))))))))))) rfl (by decide)) (.inl rfl) (.inl rfl)

theorem ok_ini_BadValue {P : Program} {w : World} {K : PySem.W.Frag} {mg : Str → Option Value} {base : Heap} {f C cc cda : Addr} {kV doc pm ct oc cl ccl : Value} {an od cdd cld : Option Addr} {osl csl ccs : Array (Option Value)} {vs : Array Value} {file : Str} {tf : Tok}
    (lk : K.lookup f = some ⟨oc, od, .func (PySem.W.ksFn "__init__" "BadValue.__init__" (defArgs s_ini_BadValue) (defBody s_ini_BadValue) (defScope s_ini_BadValue) .none kV doc pm an (.ref cda) ct cc), osl⟩)
    (hcd : PySem.W.codeIn K (.ref cda) "BadValue.__init__" = true) (hcode : K.lookup cda = some ⟨ccl, cdd, .fields vs, ccs⟩) (hvs : vs[2]? = some (.str file tf)) (hfile : ((P.main.file : Str) == file) = true) (hcell : K.lookup cc = some ⟨cl, cld, .cell (some (.ref C)), csl⟩)
    (O : OexC K C) (hno : PySem.W.findIn K (.ref C) "name" = some none) (hsuper : mg "super" = none) (hsub : PySem.W.subIn K (.ref C) (.type "ValueError") = some true) (hop : PySem.W.nsIn K cStatics "thirdparty.any" = some none)
    (hm : PySem.W.ks_superIn K C C "__init__" = some (some (.builtin "ValueError.__init__"))) (htop : (P.main.scope.names.lookup ("super" : Str)).isSome = false) :
    FnOk P w K mg base (L2.CX P w) 1 f (PySem.W.ksFn "__init__" "BadValue.__init__" (defArgs s_ini_BadValue) (defBody s_ini_BadValue) (defScope s_ini_BadValue) .none kV doc pm an (.ref cda) ct cc) ["self", "name"] (spIni C "name") :=
  fn_super (k := 0) (N := ["self", "name"]) (ps := ["self", "name"]) lk hcd ⟨rfl, rfl, rfl, by decide +kernel, rfl, by decide +kernel, by decide +kernel, by decide +kernel, rfl, rfl⟩ rfl rfl hcode hvs hfile hcell O hsuper hsub hop hm htop (fun vs H Q E h => by obtain ⟨a, nm, rfl, _⟩ := h; rfl)
    (fun A outer s H vs Q E hr h => by
      obtain ⟨a, nm, rfl, hz, ha, hq⟩ := h
      exact ⟨a, [.str nm], _, _, rfl, ha, pe_joined (PJ.cons pe_str (PJ.cons (pe_fmt (pv 1)) PJ.nil)), pss_one (ps_ost (pv 0) (pv 1)), run_ini (Q := Q) (by decide) hz O hno rfl rfl ha hq⟩)

theorem ok_ini_TextError {P : Program} {w : World} {K : PySem.W.Frag} {mg : Str → Option Value} {base : Heap} {f C cc cda : Addr} {kV doc pm ct oc cl ccl : Value} {an od cdd cld : Option Addr} {osl csl ccs : Array (Option Value)} {vs : Array Value} {file : Str} {tf : Tok}
    (lk : K.lookup f = some ⟨oc, od, .func (PySem.W.ksFn "__init__" "TextError.__init__" (defArgs s_ini_TextError) (defBody s_ini_TextError) (defScope s_ini_TextError) .none kV doc pm an (.ref cda) ct cc), osl⟩)
    (hcd : PySem.W.codeIn K (.ref cda) "TextError.__init__" = true) (hcode : K.lookup cda = some ⟨ccl, cdd, .fields vs, ccs⟩) (hvs : vs[2]? = some (.str file tf)) (hfile : ((P.main.file : Str) == file) = true) (hcell : K.lookup cc = some ⟨cl, cld, .cell (some (.ref C)), csl⟩)
    (O : OexC K C) (n1 : PySem.W.findIn K (.ref C) "column" = some none) (n2 : PySem.W.findIn K (.ref C) "words" = some none) (hsuper : mg "super" = none) (hsub : PySem.W.subIn K (.ref C) (.type "ValueError") = some true) (hop : PySem.W.nsIn K cStatics "thirdparty.any" = some none)
    (hm : PySem.W.ks_superIn K C C "__init__" = some (some (.builtin "ValueError.__init__"))) (htop : (P.main.scope.names.lookup ("super" : Str)).isSome = false) :
    FnOk P w K mg base (L2.CX P w) 1 f (PySem.W.ksFn "__init__" "TextError.__init__" (defArgs s_ini_TextError) (defBody s_ini_TextError) (defScope s_ini_TextError) .none kV doc pm an (.ref cda) ct cc) ["self", "column", "words"] (spIniT C) :=
  fn_super (k := 0) (N := ["self", "column", "words"]) (ps := ["self", "column", "words"]) lk hcd ⟨rfl, rfl, rfl, by decide +kernel, rfl, by decide +kernel, by decide +kernel, by decide +kernel, rfl, rfl⟩ rfl rfl hcode hvs hfile hcell O hsuper hsub hop hm htop (fun vs H Q E h => by obtain ⟨a, col, wd, rfl, _⟩ := h; rfl)
    (fun A outer s H vs Q E hr h => by
      obtain ⟨a, col, wd, rfl, h0, h1, hz, ha, hq⟩ := h
      exact ⟨a, [.int col, .str wd], _, _, rfl, ha, pe_joined (PJ.cons pe_str (PJ.cons (pe_fmt (pv 1)) (PJ.cons pe_str (PJ.cons (pe_fmt (pv 2)) PJ.nil)))), pss_cons (ps_ost (pv 0) (pv 1)) (pss_one (ps_ost (pv 0) (pv 2))), run_iniT (by decide +kernel) (by decide +kernel) h0 h1 hz O n1 n2 rfl rfl rfl ha hq⟩)
end W

namespace W
open PySem PySem.Spec PyProof.Rows L2 Lm CwR
theorem ok_requireX {P : Program} {w : World} {K : PySem.W.Frag} {mg : Str → Option Value} {base : Heap} {f C : Addr} {fd : FuncData} (F : Fun K "require" "require" s_require f fd) (T : Txt K mg) (X : Exc1 P w K mg base "BadValue" "name" C) :
    FnOk P w K mg base (L2.CX P w) 4 f fd p_require (spReq C) := by
  obtain ⟨fI, fdI, iC, tI, F1, hb⟩ := X.ini
  refine F.okX sc_require (fun vs H Q E h => by obtain ⟨b, nm, rfl, _⟩ := h; rfl) (fun cdv A outer s H vs Q E hr h => ⟨_, (pss_one (ps_if (pt_not (pt_val (pv 0))) (pss_one (ps_raise rfl (takes_of rfl rfl rfl rfl) (pmk_oex X.O iC tI F1 (hr.mono (by decide)) hb .nil passL rfl X.hC (pa_cons (pv 1) pa_nil)))) pss_nil)), ?_⟩)
  obtain ⟨b, nm, rfl, hz, h1, h2⟩ := h
  cases b with
  | true => exact ⟨.bl true, rfl, true, rfl, h1 rfl⟩
  | false => exact ⟨.bl false, rfl, false, rfl, mkO_req hz (fun Q' q => ⟨_, rfl, q⟩) (h2 rfl)⟩

theorem ok_check_textX {P : Program} {w : World} {K : PySem.W.Frag} {mg : Str → Option Value} {base : Heap} {f C CT : Addr} {fd : FuncData} (F : Fun K "check_text" "check_text" s_check_text f fd) (T : Txt K mg) {fx_require : Addr} {fdx_require : FuncData} (X_require : FnOk P w K mg base (L2.CX P w) 4 fx_require fdx_require p_require (spReq C)) (m_require : mg "require" = some (.ref fx_require)) (k_require : PySem.W.keepIn K (.ref fx_require) = true) (b_require : Binds K fdx_require p_require []) :
    FnOk P w K mg base (L2.CX P w) 5 f fd p_check_text (spRef K C RcTx) := by
  refine F.okX sc_check_text (fun vs H Q E h => by obtain ⟨ds, nm, hb, hd, _⟩ := h; rw [hb.len, RcTx_len hd]; rfl) (fun cdv A outer s H vs Q E hr h => ⟨_, (pss_one (ps_expr (pe_call X_require (hr.mono (by decide)) rfl m_require k_require b_require .nil (passes_call (E := E) (takes_of rfl rfl rfl rfl) (fun _ _ _ _ h => h)) (pa_cons (pe_and (pe_callB (k_isi (K := K) rfl) rfl T.b_isinstance (by decide +kernel) (pa_cons (pv 0) (pa_cons (pe_ty (n := "str") rfl T.b_str (by decide +kernel)) pa_nil))) (pe_and (pe_cmpR op_le (pe_callB (k_lenU (K := K) rfl) rfl T.b_len (by decide +kernel) (pa_cons (pv 0) pa_nil)) (pe_const rfl T.k_MOST_CHARACTERS) (nomark _)) (pe_one (pe_cmpR op_notInS pe_str (pv 0) (by with_unfolding_all rfl))))) (pa_cons pe_str pa_nil))))), run_ref (N := n_check_text) (C := C) (fun ds nm hd hE => ?_) h⟩)
  obtain ⟨x, rfl, hl, hx, rfl⟩ := hd
  refine xl_req (by decide +kernel) hE (Ev.to (d_andV (a := isStrTy x) (b := false) (e_isi (d_var rfl) (kit_str x)) fun hs => ?_) (by simp))
  cases x with
  | str z =>
    have hl := hl z rfl
    by_cases q : z.length ≤ 400
    · have hn : 10 ∈ sgL z := by
        simp [txtB, q] at hx
        simpa using hx
      exact Ev.to (d_andV (a := true) (b := false) (Ev.to (d_le (e_lenS (d_var rfl) (by omega)) d_int) (congrArg PyData.bool (decide_eq_true (by omega)))) fun _ => Ev.to (e_notInS (ch := 10) d_str (d_var rfl)) (by rw [decide_eq_true hn]; rfl)) rfl
    · exact Ev.to (d_andV (a := false) (b := false) (Ev.to (d_le (e_lenS (d_var rfl) (by omega)) d_int) (congrArg PyData.bool (decide_eq_false (by omega)))) fun w => nomatch w) rfl
  | _ => cases hs

theorem ok_name_atT {P : Program} {w : World} {K : PySem.W.Frag} {mg : Str → Option Value} {base : Heap} {f C CT : Addr} {fd : FuncData} (F : Fun K "name_at" "name_at" s_name_at f fd) (T : Txt K mg) (X : ExcT P w K mg base CT) (c_run_at : Cal P w K mg base CX0 1 "run_at" p_run_at (sp_run_at K)) :
    FnOk P w K mg base (L2.CX P w) 4 f fd p_name_at (spRefT K CT RtNm) := by
  obtain ⟨fI, fdI, iC, tI, F1, hb⟩ := X.ini
  refine F.okX sc_name_at (fun vs H Q E h => by obtain ⟨ds, cw, hb, hd, _⟩ := h; rw [hb.len, RtNm_len hd]; rfl) (fun cdv A outer s H vs Q E hr h => ⟨_, (pss_cons (ps_set (i := 2) sc_name_at.nd rfl (Or.inl rfl) (pe_cal (cal_up0 c_run_at) (hr.mono (by decide)) rfl passL (pa_cons (pv 0) (pa_cons (pv 1) (pa_cons (pe_constS rfl T.k_IN_NAMES) pa_nil)))))
      (pss_cons (ps_if (pt_cmpR op_gt (pe_callB (k_lenU (K := K) rfl) rfl T.b_len (by decide +kernel) (pa_cons (pv 2) pa_nil)) (pe_const rfl T.k_LONGEST_NAME) (nomark _)) (pss_one (ps_raise rfl (takes_of rfl rfl rfl rfl) (pmk_oex X.O iC tI F1 (hr.mono (by decide)) hb .nil passL rfl X.hC (pa_cons (pe_op (k_add (K := K) rfl) (pv 1) pe_int) (pa_cons pe_str pa_nil))))) pss_nil)
      (pss_one (ps_ret (pe_tupN (pa_cons pe_str (pa_cons (pv 2) (pa_cons (pe_op (k_add (K := K) rfl) (pv 1) pe_int) pa_nil)))))))), run_refT (N := n_name_at) (C := CT) (fun ds cw hd hE => ?_) h⟩)
  obtain ⟨z, a, rfl, ha, hz, hl, rfl⟩ := hd
  refine x_asg (d := .str (strN (runS ((sgL z).drop a) (sgL sNAM)))) (d_call (k := .v) (a_cons (d_var rfl) (a_cons (d_var rfl) (a_cons d_str a_nil))) ⟨z, sNAM, a, rfl, ha, hz, rfl, rfl⟩) ?_
  have rl := run_len ((sgL z).drop a) (sgL sNAM)
  rw [List.length_drop, sg_len] at rl
  refine x_take (EvT.to (t_test (d_gt (e_lenS (d_var rfl) (by rw [strN_len]; omega)) d_int)) (decide_eq_true (by rw [strN_len]; omega))) ?_
  exact x_raiseT (by omega) (by omega) (by decide +kernel) (a_consV (e_add (d_var rfl) d_int) (a_consV d_str a_nil)) hE

theorem ok_number_atT {P : Program} {w : World} {K : PySem.W.Frag} {mg : Str → Option Value} {base : Heap} {f C CT : Addr} {fd : FuncData} (F : Fun K "number_at" "number_at" s_number_at f fd) (T : Txt K mg) (X : ExcT P w K mg base CT) (c_run_at : Cal P w K mg base CX0 1 "run_at" p_run_at (sp_run_at K)) :
    FnOk P w K mg base (L2.CX P w) 4 f fd p_number_at (spRefT K CT RtNu) := by
  obtain ⟨fI, fdI, iC, tI, F1, hb⟩ := X.ini
  refine F.okX sc_number_at (fun vs H Q E h => by obtain ⟨ds, cw, hb, hd, _⟩ := h; rw [hb.len, RtNu_len hd]; rfl) (fun cdv A outer s H vs Q E hr h => ⟨_, (pss_cons (ps_set (i := 2) sc_number_at.nd rfl (Or.inl rfl) (pe_cal (cal_up0 c_run_at) (hr.mono (by decide)) rfl passL (pa_cons (pv 0) (pa_cons (pv 1) (pa_cons (pe_constS rfl T.k_DIGITS) pa_nil)))))
      (pss_cons (ps_if (pt_cmpR op_gt (pe_callB (k_lenU (K := K) rfl) rfl T.b_len (by decide +kernel) (pa_cons (pv 2) pa_nil)) (pe_const rfl T.k_LONGEST_NUMBER) (nomark _)) (pss_one (ps_raise rfl (takes_of rfl rfl rfl rfl) (pmk_oex X.O iC tI F1 (hr.mono (by decide)) hb .nil passL rfl X.hC (pa_cons (pe_op (k_add (K := K) rfl) (pv 1) pe_int) (pa_cons pe_str pa_nil))))) pss_nil)
      (pss_one (ps_ret (pe_tupN (pa_cons pe_str (pa_cons (pv 2) (pa_cons (pe_op (k_add (K := K) rfl) (pv 1) pe_int) pa_nil)))))))), run_refT (N := n_number_at) (C := CT) (fun ds cw hd hE => ?_) h⟩)
  obtain ⟨z, a, rfl, ha, hz, hl, rfl⟩ := hd
  refine x_asg (d := .str (strN (runS ((sgL z).drop a) (sgL sDIG)))) (d_call (k := .v) (a_cons (d_var rfl) (a_cons (d_var rfl) (a_cons d_str a_nil))) ⟨z, sDIG, a, rfl, ha, hz, rfl, rfl⟩) ?_
  have rl := run_len ((sgL z).drop a) (sgL sDIG)
  rw [List.length_drop, sg_len] at rl
  refine x_take (EvT.to (t_test (d_gt (e_lenS (d_var rfl) (by rw [strN_len]; omega)) d_int)) (decide_eq_true (by rw [strN_len]; omega))) ?_
  exact x_raiseT (by omega) (by omega) (by decide +kernel) (a_consV (e_add (d_var rfl) d_int) (a_consV d_str a_nil)) hE

theorem ok_token_atT {P : Program} {w : World} {K : PySem.W.Frag} {mg : Str → Option Value} {base : Heap} {f C CT : Addr} {fd : FuncData} (F : Fun K "token_at" "token_at" s_token_at f fd) (T : Txt K mg) (X : ExcT P w K mg base CT) {fx_name_at : Addr} {fdx_name_at : FuncData} (X_name_at : FnOk P w K mg base (L2.CX P w) 4 fx_name_at fdx_name_at p_name_at (spDT K CT (sp_name_at K) RtNm)) (m_name_at : mg "name_at" = some (.ref fx_name_at)) (k_name_at : PySem.W.keepIn K (.ref fx_name_at) = true) (b_name_at : Binds K fdx_name_at p_name_at []) {fx_number_at : Addr} {fdx_number_at : FuncData} (X_number_at : FnOk P w K mg base (L2.CX P w) 4 fx_number_at fdx_number_at p_number_at (spDT K CT (sp_number_at K) RtNu)) (m_number_at : mg "number_at" = some (.ref fx_number_at)) (k_number_at : PySem.W.keepIn K (.ref fx_number_at) = true) (b_number_at : Binds K fdx_number_at p_number_at []) :
    FnOk P w K mg base (L2.CX P w) 5 f fd p_token_at (spRefT K CT RtTk) := by
  obtain ⟨fI, fdI, iC, tI, F1, hb⟩ := X.ini
  refine F.okX sc_token_at (fun vs H Q E h => by obtain ⟨ds, cw, hb, hd, _⟩ := h; rw [hb.len, RtTk_len hd]; rfl) (fun cdv A outer s H vs Q E hr h => ⟨_, (pss_cons (ps_if (pt_cmpR op_inS (pe_ix (k_ix (K := K) rfl) (pv 0) (pv 1) (fun _ _ => rfl)) (pe_constS rfl T.k_LETTERS) (by with_unfolding_all rfl)) (pss_one (ps_ret (pe_call X_name_at (hr.mono (by decide)) rfl m_name_at k_name_at b_name_at .nil (passes_call (E := E) (takes_of rfl rfl rfl rfl) (fun _ _ _ _ h => h)) (pa_cons (pv 0) (pa_cons (pv 1) pa_nil))))) pss_nil)
      (pss_cons (ps_if (pt_cmpR op_inS (pe_ix (k_ix (K := K) rfl) (pv 0) (pv 1) (fun _ _ => rfl)) (pe_constS rfl T.k_DIGITS) (by with_unfolding_all rfl)) (pss_one (ps_ret (pe_call X_number_at (hr.mono (by decide)) rfl m_number_at k_number_at b_number_at .nil (passes_call (E := E) (takes_of rfl rfl rfl rfl) (fun _ _ _ _ h => h)) (pa_cons (pv 0) (pa_cons (pv 1) pa_nil))))) pss_nil)
      (pss_cons (ps_if (pt_cmpR op_inS (pe_ix (k_ix (K := K) rfl) (pv 0) (pv 1) (fun _ _ => rfl)) (pe_constS rfl T.k_SIGNS) (by with_unfolding_all rfl)) (pss_one (ps_ret (pe_tupN (pa_cons pe_str (pa_cons (pe_ix (k_ix (K := K) rfl) (pv 0) (pv 1) (fun _ _ => rfl)) (pa_cons (pe_op (k_add (K := K) rfl) (pv 1) pe_int) pa_nil)))))) pss_nil)
      (pss_one (ps_raise rfl (takes_of rfl rfl rfl rfl) (pmk_oex X.O iC tI F1 (hr.mono (by decide)) hb .nil passL rfl X.hC (pa_cons (pe_op (k_add (K := K) rfl) (pv 1) pe_int) (pa_cons pe_str pa_nil)))))))), run_refT (N := n_token_at) (C := CT) (fun ds cw hd hE => ?_) h⟩)
  obtain ⟨z, a, wd, rfl, ha, hz, ht, rfl⟩ := hd
  have g : (sgL z)[a]? = some ((sgL z).getD a 0) := by rw [List.getD_eq_getElem?_getD, List.getElem?_eq_getElem (by rw [sg_len]; exact ha)]; rfl
  have ix : ∀ {Γ : List (Option Rs)}, Γ[0]? = some (some (.v (.str z))) → Γ[1]? = some (some (.v (.int (a : Int)))) → Ev (pc K) (tOp (rIx K) (tVar 0) (tVar 1)) Γ .v (.str ⟨#[(sgL z).getD a 0]⟩) := fun h0 h1 => e_ixS (d_var h0) (d_var h1) (by omega) (atI_nat g)
  have ml := msg_len ht
  unfold tokA at ht
  by_cases m1 : (sgL z).getD a 0 ∈ sgL sLET
  · rw [if_pos m1] at ht
    split at ht
    · next q =>
      cases ht
      exact x_take (EvT.to (t_test (e_inS (ix rfl rfl) d_str)) (decide_eq_true m1)) (x_retE (x_refT (cw := (a + 1, "a name has at most 12 characters")) (a_cons (d_var rfl) (a_cons (d_var rfl) a_nil)) ⟨z, a, rfl, by omega, hz, q, rfl⟩ hE))
    · cases ht
  rw [if_neg m1] at ht
  refine x_skip (EvT.to (t_test (e_inS (ix rfl rfl) d_str)) (decide_eq_false m1)) ?_
  by_cases m2 : (sgL z).getD a 0 ∈ sgL sDIG
  · rw [if_pos m2] at ht
    split at ht
    · next q =>
      cases ht
      exact x_take (EvT.to (t_test (e_inS (ix rfl rfl) d_str)) (decide_eq_true m2)) (x_retE (x_refT (cw := (a + 1, "a number has at most 6 digits")) (a_cons (d_var rfl) (a_cons (d_var rfl) a_nil)) ⟨z, a, rfl, by omega, hz, q, rfl⟩ hE))
    · cases ht
  rw [if_neg m2] at ht
  refine x_skip (EvT.to (t_test (e_inS (ix rfl rfl) d_str)) (decide_eq_false m2)) ?_
  by_cases m3 : (sgL z).getD a 0 ∈ sgL sSIG
  · rw [if_pos m3] at ht
    cases ht
  · rw [if_neg m3] at ht
    cases ht
    refine x_skip (EvT.to (t_test (e_inS (ix rfl rfl) d_str)) (decide_eq_false m3)) ?_
    exact x_raiseT (by omega) (by omega) ml (a_consV (e_add (d_var rfl) d_int) (a_consV d_str a_nil)) hE

theorem ok_scanX {P : Program} {w : World} {K : PySem.W.Frag} {mg : Str → Option Value} {base : Heap} {f C CT : Addr} {fd : FuncData} (F : Fun K "scan" "scan" s_scan f fd) (T : Txt K mg) {fx_check_text : Addr} {fdx_check_text : FuncData} (X_check_text : FnOk P w K mg base (L2.CX P w) 5 fx_check_text fdx_check_text p_check_text (spDR K C (sp_check_text K) RcTx)) (m_check_text : mg "check_text" = some (.ref fx_check_text)) (k_check_text : PySem.W.keepIn K (.ref fx_check_text) = true) (b_check_text : Binds K fdx_check_text p_check_text []) {fx_token_at : Addr} {fdx_token_at : FuncData} (X_token_at : FnOk P w K mg base (L2.CX P w) 5 fx_token_at fdx_token_at p_token_at (spDT K CT (sp_token_at K) RtTk)) (m_token_at : mg "token_at" = some (.ref fx_token_at)) (k_token_at : PySem.W.keepIn K (.ref fx_token_at) = true) (b_token_at : Binds K fdx_token_at p_token_at []) :
    FnOk P w K mg base (L2.CX P w) 6 f fd p_scan (spRef K C RcTx) := by
  refine F.okX sc_scan (fun vs H Q E h => by obtain ⟨ds, nm, hb, hd, _⟩ := h; rw [hb.len, RcTx_len hd]; rfl) (fun cdv A outer s H vs Q E hr h => ⟨_, (pss_cons (ps_expr (pe_call X_check_text (hr.mono (by decide)) rfl m_check_text k_check_text b_check_text .nil (passes_call (E := E) (takes_of rfl rfl rfl rfl) (fun _ _ _ _ h => h)) (pa_cons (pv 0) pa_nil)))
      (pss_cons (ps_set (i := 1) sc_scan.nd rfl (Or.inl rfl) (pe_lst pa_nil))
      (pss_cons (ps_set (i := 2) sc_scan.nd rfl (Or.inl rfl) pe_int)
      (pss_cons (ps_while (passes_of rfl) (pt_cmpR op_lt (pv 2) (pe_callB (k_lenU (K := K) rfl) rfl T.b_len (by decide +kernel) (pa_cons (pv 0) pa_nil)) (nomark _)) (pss_one (ps_if (pt_cmpR (k_eq (K := K) rfl (rUnits hr)) (pe_ix (k_ix (K := K) rfl) (pv 0) (pv 2) (fun _ _ => rfl)) pe_str (nomark _)) (pss_one (ps_aug (i := 2) sc_scan.nd rfl (Or.inl rfl) pe_int ip_add)) (pss_cons (ps_set (i := 3) sc_scan.nd rfl (Or.inl rfl) (pe_call X_token_at (hr.mono (by decide)) rfl m_token_at k_token_at b_token_at .nil (passes_call (E := E) (takes_of rfl rfl rfl rfl) (fun _ _ _ _ h => h)) (pa_cons (pv 0) (pa_cons (pv 2) pa_nil))))
      (pss_cons (ps_expr (k_bm (K := K) rfl PySem.F.plainAttrs_list PySem.F.slot_list_append PySem.F.type_list_append mt_append (pv 1) (pa_cons (pv 3) pa_nil)))
      (pss_one (ps_aug (i := 2) sc_scan.nd rfl (Or.inl rfl) (pe_callB (k_lenU (K := K) rfl) rfl T.b_len (by decide +kernel) (pa_cons (pe_ix (k_ix (K := K) rfl) (pv 3) pe_int (fun _ _ => rfl)) pa_nil)) ip_add)))))))
      (pss_cons (ps_expr (k_bm (K := K) rfl PySem.F.plainAttrs_list PySem.F.slot_list_append PySem.F.type_list_append mt_append (pv 1) (pa_cons (pe_tupN (pa_cons pe_str (pa_cons pe_str (pa_cons (pe_op (k_add (K := K) rfl) (pe_callB (k_lenU (K := K) rfl) rfl T.b_len (by decide +kernel) (pa_cons (pv 0) pa_nil)) pe_int) pa_nil)))) pa_nil)))
      (pss_one (ps_ret (pv 1)))))))), run_ref (N := n_scan) (C := C) (fun ds nm hd hE => ?_) h⟩)
  obtain ⟨x, rfl, hl, hx, rfl⟩ := hd
  exact x_seq (x_dropE (x_ref (ds := [x]) (nm := "text") (a_cons (d_var rfl) a_nil) ⟨x, rfl, hl, hx, rfl⟩ hE))

theorem ok_scanT {P : Program} {w : World} {K : PySem.W.Frag} {mg : Str → Option Value} {base : Heap} {f C CT : Addr} {fd : FuncData} (F : Fun K "scan" "scan" s_scan f fd) (T : Txt K mg) (X : ExcT P w K mg base CT) {fx_check_text : Addr} {fdx_check_text : FuncData} (X_check_text : FnOk P w K mg base (L2.CX P w) 5 fx_check_text fdx_check_text p_check_text (spDR K C (sp_check_text K) RcTx)) (m_check_text : mg "check_text" = some (.ref fx_check_text)) (k_check_text : PySem.W.keepIn K (.ref fx_check_text) = true) (b_check_text : Binds K fdx_check_text p_check_text []) {fx_token_at : Addr} {fdx_token_at : FuncData} (X_token_at : FnOk P w K mg base (L2.CX P w) 5 fx_token_at fdx_token_at p_token_at (spDT K CT (sp_token_at K) RtTk)) (m_token_at : mg "token_at" = some (.ref fx_token_at)) (k_token_at : PySem.W.keepIn K (.ref fx_token_at) = true) (b_token_at : Binds K fdx_token_at p_token_at []) :
    FnOk P w K mg base (L2.CX P w) 6 f fd p_scan (spRefT K CT RtSc) := by
  obtain ⟨fI, fdI, iC, tI, F1, hb⟩ := X.ini
  refine F.okX sc_scan (fun vs H Q E h => by obtain ⟨ds, cw, hb, hd, _⟩ := h; rw [hb.len, RtSc_len hd]; rfl) (fun cdv A outer s H vs Q E hr h => ⟨_, (pss_cons (ps_expr (pe_call X_check_text (hr.mono (by decide)) rfl m_check_text k_check_text b_check_text .nil (passes_call (E := E) (takes_of rfl rfl rfl rfl) (fun _ _ _ _ h => h)) (pa_cons (pv 0) pa_nil)))
      (pss_cons (ps_set (i := 1) sc_scan.nd rfl (Or.inl rfl) (pe_lst pa_nil))
      (pss_cons (ps_set (i := 2) sc_scan.nd rfl (Or.inl rfl) pe_int)
      (pss_cons (ps_while (passes_of rfl) (pt_cmpR op_lt (pv 2) (pe_callB (k_lenU (K := K) rfl) rfl T.b_len (by decide +kernel) (pa_cons (pv 0) pa_nil)) (nomark _)) (pss_one (ps_if (pt_cmpR (k_eq (K := K) rfl (rUnits hr)) (pe_ix (k_ix (K := K) rfl) (pv 0) (pv 2) (fun _ _ => rfl)) pe_str (nomark _)) (pss_one (ps_aug (i := 2) sc_scan.nd rfl (Or.inl rfl) pe_int ip_add)) (pss_cons (ps_set (i := 3) sc_scan.nd rfl (Or.inl rfl) (pe_call X_token_at (hr.mono (by decide)) rfl m_token_at k_token_at b_token_at .nil (passes_call (E := E) (takes_of rfl rfl rfl rfl) (fun _ _ _ _ h => h)) (pa_cons (pv 0) (pa_cons (pv 2) pa_nil))))
      (pss_cons (ps_expr (k_bm (K := K) rfl PySem.F.plainAttrs_list PySem.F.slot_list_append PySem.F.type_list_append mt_append (pv 1) (pa_cons (pv 3) pa_nil)))
      (pss_one (ps_aug (i := 2) sc_scan.nd rfl (Or.inl rfl) (pe_callB (k_lenU (K := K) rfl) rfl T.b_len (by decide +kernel) (pa_cons (pe_ix (k_ix (K := K) rfl) (pv 3) pe_int (fun _ _ => rfl)) pa_nil)) ip_add)))))))
      (pss_cons (ps_expr (k_bm (K := K) rfl PySem.F.plainAttrs_list PySem.F.slot_list_append PySem.F.type_list_append mt_append (pv 1) (pa_cons (pe_tupN (pa_cons pe_str (pa_cons pe_str (pa_cons (pe_op (k_add (K := K) rfl) (pe_callB (k_lenU (K := K) rfl) rfl T.b_len (by decide +kernel) (pa_cons (pv 0) pa_nil)) pe_int) pa_nil)))) pa_nil)))
      (pss_one (ps_ret (pv 1)))))))), run_refT (N := n_scan) (C := CT) (fun ds cw hd hE => ?_) h⟩)
  obtain ⟨z, rfl, hb', hs⟩ := hd
  have hz : z.length ≤ 400 := by
    have h := hb'
    unfold txtB at h
    rw [Bool.and_eq_true, decide_eq_true_eq] at h
    exact h.1
  refine x_drop (x_goodO (k := .v) (d := .none) (a_cons (d_var rfl) a_nil) ⟨z, rfl, hb', rfl, rfl⟩) ?_
  refine x_asgO (d := .list (([] : List Tok9).map tokD)) (d_lst (kv := false) (ds := []) a_nil rfl (by decide)) ?_
  refine x_asg (d := .int ((0 : Nat) : Int)) d_int ?_
  refine x_seq (x_while (fun N Γ1 => ∃ (a : Nat) (acc : List Tok9) (t3 : Option Rs), a ≤ z.length ∧ z.length ≤ a + N ∧ acc.length ≤ a ∧ scn (sgL z) N a = .error cw ∧ Γ1 = [some (.v (.str z)), some (.o (.list (acc.map tokD))), some (.v (.int (a : Int))), t3]) (n0 := z.length) ⟨0, [], _, by omega, by omega, by simp, hs, rfl⟩ fun N Γ1 hI => ?_)
  obtain ⟨a, acc, t3, ha, hn, hac, hr', rfl⟩ := hI
  cases N with
  | zero => cases hr'
  | succ M =>
    unfold scn at hr'
    have q : a < z.length := by
      by_cases q : a < z.length
      · exact q
      · rw [if_neg (by rw [sg_len]; exact q)] at hr'; cases hr'
    rw [if_pos (by rw [sg_len]; exact q)] at hr'
    refine ⟨EvT.to (t_test (d_lt (d_var rfl) (e_lenS (d_var rfl) (by omega)))) (decide_eq_true (by omega)), ?_⟩
    have g : (sgL z)[a]? = some ((sgL z).getD a 0) := by rw [List.getD_eq_getElem?_getD, List.getElem?_eq_getElem (by rw [sg_len]; exact q)]; rfl
    have tst : EvT (pc K) (tTest (tOp (rEqA K) (tOp (rIx K) (tVar 0) (tVar 2)) (tC (.str (Str.ofString " "))))) [some (.v (.str z)), some (.o (.list (acc.map tokD))), some (.v (.int (a : Int))), t3] (decide ((sgL z).getD a 0 = 32)) := by
      refine EvT.to (t_test (e_eqS (v := .str ⟨#[(sgL z).getD a 0]⟩) (w := .str ⟨#[32]⟩) (e_ixS (d_var rfl) (d_var rfl) (by omega) (atI_nat g)) d_str rfl rfl rfl rfl)) ?_
      by_cases e : (sgL z).getD a 0 = 32
      · rw [e]; simp
      · rw [decide_eq_false e]
        exact decide_eq_false fun w => e (by simpa using w)
    by_cases w : (sgL z).getD a 0 = 32
    · rw [if_pos w] at hr'
      exact .inr (s_yes (EvT.to tst (decide_eq_true w)) (s_aug (f := fun a b => a + b) rfl d_int ⟨_, M, .inl rfl, by omega, a + 1, acc, _, by omega, by omega, by omega, hr', rfl⟩))
    · rw [if_neg w] at hr'
      cases ht : tokA (sgL z) a with
      | error x =>
        rw [ht] at hr'
        cases hr'
        exact .inl (x_no (EvT.to tst (decide_eq_false w)) (x_seq (x_asgE (x_refT (cw := (a + 1, x)) (a_cons (d_var rfl) (a_cons (d_var rfl) a_nil)) ⟨z, a, x, rfl, q, by omega, ht, rfl⟩ hE))))
      | ok p =>
        obtain ⟨kd, r⟩ := p
        rw [ht] at hr'
        obtain ⟨l1, l2⟩ := tok_len ht (by rw [sg_len]; exact q)
        rw [sg_len] at l2
        dsimp only at hr'
        cases hu : scn (sgL z) M (a + r.length) with
        | ok us => rw [hu] at hr'; cases hr'
        | error y =>
          rw [hu] at hr'
          cases hr'
          refine .inr (s_no (EvT.to tst (decide_eq_false w)) ?_)
          refine q_asg (d := tokD (kd, r, a + 1)) (x_goodO (a_cons (d_var rfl) (a_cons (d_var rfl) a_nil)) ⟨z, a, kd, r, rfl, q, by omega, ht, rfl, rfl⟩) ?_
          refine q_app rfl (d := tokD (kd, r, a + 1)) (d_var rfl) rfl (by simp; omega) ?_
          exact s_aug (f := fun a b => a + b) rfl (e_lenS (e_ixT (d := .str (strN r)) (d_var rfl) d_int rfl rfl) (by rw [strN_len]; omega)) ⟨_, M, .inl rfl, by omega, a + r.length, acc ++ [(kd, r, a + 1)], some (.v (tokD (kd, r, a + 1))), by omega, by omega, by simp; omega, hu, by rw [strN_len, List.map_append]; simp⟩

theorem ok_place_behindT {P : Program} {w : World} {K : PySem.W.Frag} {mg : Str → Option Value} {base : Heap} {f C CT : Addr} {fd : FuncData} (F : Fun K "place_behind" "place_behind" s_place_behind f fd) (T : Txt K mg) (X : ExcT P w K mg base CT) (c_word_of : Cal P w K mg base CX0 1 "word_of" p_word_of (sp_word_of K)) (c_either : Cal P w K mg base CX0 1 "either" p_either (sp_either K)) (c_words_at : Cal P w K mg base CX0 1 "words_at" p_words_at (sp_words_at K)) :
    FnOk P w K mg base (L2.CX P w) 4 f fd p_place_behind (spRefT K CT RtPb) := by
  obtain ⟨fI, fdI, iC, tI, F1, hb⟩ := X.ini
  refine F.okX sc_place_behind (fun vs H Q E h => by obtain ⟨ds, cw, hb, hd, _⟩ := h; rw [hb.len, RtPb_len hd]; rfl) (fun cdv A outer s H vs Q E hr h => ⟨_, (pss_cons (ps_setLc (i := 3) rfl sc_place_behind.nd rfl rfl (sw_true rfl rfl rfl (by decide +kernel)) (k_seq (K := K) rfl (pv 0)) (blkOk_by (own := [("here", 4), ("word", 5), ("after", 6)]) (N := n_place_behind) (sc := defScope s_place_behind) (by decide +kernel)) (fun _ _ _ _ _ => by exact (k_tup (K := K) (n := 3) rfl rfl (pgs_cons (pg_name (i := 4) sc_place_behind.nd rfl (Or.inl rfl)) (pgs_cons (pg_name (i := 5) sc_place_behind.nd rfl (Or.inl rfl)) (pgs_cons (pg_name (i := 6) sc_place_behind.nd rfl (Or.inl rfl)) pgs_nil))))) (fun _ _ _ _ _ => by exact (pts_one (PW.pt (pw_and (pt_cmpR (k_eq (K := K) rfl (rUnits hr)) (pv 4) (pv 1) (nomark _)) (pw_and1 (pt_cmpR (k_eq (K := K) rfl (rUnits hr)) (pv 5) (pe_cal (cal_up0 c_word_of) (hr.mono (by decide)) rfl passL (pa_cons (pv 2) pa_nil)) (nomark _))))))) (fun _ _ _ _ _ => by exact (pv 6)))
      (pss_cons (ps_if (pt_not (k_tru (K := K) rfl (pv 3))) (pss_one (ps_raise rfl (takes_of rfl rfl rfl rfl) (pmk_oex X.O iC tI F1 (hr.mono (by decide)) hb .nil passL rfl X.hC (pa_cons (pe_ix (k_ix (K := K) rfl) (pv 2) pe_int (fun _ _ => rfl)) (pa_cons (pe_joined (PJ.cons pe_str (PJ.cons (pe_fmt (pe_cal (cal_up0 c_either) (hr.mono (by decide)) rfl passL (pa_cons (pe_cal (cal_up0 c_words_at) (hr.mono (by decide)) rfl passL (pa_cons (pv 0) (pa_cons (pv 1) pa_nil))) pa_nil))) PJ.nil))) pa_nil))))) pss_nil)
      (pss_one (ps_ret (pe_ix (k_ix (K := K) rfl) (pv 3) pe_int (fun _ _ => rfl)))))), run_refT (N := n_place_behind) (C := CT) (fun ds cw hd hE => ?_) h⟩)
  obtain ⟨g, p, t, rfl, hg, hw, ht, hb, rfl⟩ := hd
  refine x_asgO (d := .list (strL (plB g p t))) (Ev.to (d_lc (l := g) (en := fun e => Im.d (.tuple [.str (Str.ofString e.1), .str (Str.ofString e.2.1), .str (Str.ofString e.2.2)])) (fun e => decide (Str.ofString e.1 = Str.ofString p) && decide (Str.ofString e.2.1 = wordS t)) (fun e => .str (Str.ofString e.2.2)) (by have h := i_seqT (c := pc K) (Γ := argsG [grD g, .str (Str.ofString p), tokD t] 7) (tl := tVar 0) (d_var rfl) kv_ne; rw [List.map_map] at h; exact h) (by have := gr_le hg; omega) fun e he => ⟨_, _, g_tupD rfl (g_cons g_name (g_cons g_name (g_cons g_name g_nil))), fun j hj => hj, t_and (t_eqSS (d_var rfl) (d_var rfl)) fun _ => t_eqSS (d_var rfl) (d_call (k := .v) (d := .str (wordS t)) (a_cons (d_var rfl) a_nil) ⟨t, rfl, ht, rfl, rfl⟩), fun _ => (d_var rfl).fo rfl⟩) (by unfold strL plB; rw [List.map_map]; rfl)) ?_
  rw [hb]
  refine x_take (EvT.to (t_not (t_truL (d_varO rfl))) rfl) ?_
  have l1 := exp_len p hg
  rw [ofS_app, PySem.Str.length_append] at l1
  have ew : wAt g p ≠ [] := hw
  refine x_raiseT (col := (t.2.2 : Int)) (wd := Str.ofString ("expected " ++ eiS (wAt g p))) (by omega) (by have := ht.2.2; omega) (by rw [ofS_app, PySem.Str.length_append]; omega) (a_consV (e_ixT (d := .int (t.2.2 : Int)) (d_var rfl) d_int rfl rfl) (a_consV (e_js (.cons d_str (.cons (e_fmt (d_call (k := .v) (d := .str (Str.ofString (eiS (wAt g p)))) (a_cons (d_call (k := .o) (d := .list (strL (wAt g p))) (a_cons (d_var rfl) (a_cons (d_var rfl) a_nil)) ⟨g, p, rfl, hg, rfl, rfl⟩) a_nil) ⟨wAt g p, rfl, hw, by have := wAt_le p hg; omega, wAt_words hg, rfl, rfl⟩) (by omega)) .nil)) (by show 0 + (Str.ofString "expected ").length + (Str.ofString (eiS (wAt g p))).length ≤ _; omega) (by rw [ofS_app]; show (Str.empty ++ _) ++ _ = _; rw [emp_app])) a_nil)) hE

theorem ok_place_afterT {P : Program} {w : World} {K : PySem.W.Frag} {mg : Str → Option Value} {base : Heap} {f C CT : Addr} {fd : FuncData} (F : Fun K "place_after" "place_after" s_place_after f fd) (T : Txt K mg) (X : ExcT P w K mg base CT) {fx_place_behind : Addr} {fdx_place_behind : FuncData} (X_place_behind : FnOk P w K mg base (L2.CX P w) 4 fx_place_behind fdx_place_behind p_place_behind (spDT K CT (sp_place_behind K) RtPb)) (m_place_behind : mg "place_behind" = some (.ref fx_place_behind)) (k_place_behind : PySem.W.keepIn K (.ref fx_place_behind) = true) (b_place_behind : Binds K fdx_place_behind p_place_behind []) :
    FnOk P w K mg base (L2.CX P w) 5 f fd p_place_after (spRefT K CT RtPa) := by
  obtain ⟨fI, fdI, iC, tI, F1, hb⟩ := X.ini
  refine F.okX sc_place_after (fun vs H Q E h => by obtain ⟨ds, cw, hb, hd, _⟩ := h; rw [hb.len, RtPa_len hd]; rfl) (fun cdv A outer s H vs Q E hr h => ⟨_, (pss_cons (ps_set (i := 2) sc_place_after.nd rfl (Or.inl rfl) pe_str)
      (pss_cons (ps_for (passes_of rfl) rfl (k_seq (K := K) rfl (pv 1)) (pg_name (i := 3) sc_place_after.nd rfl (Or.inl rfl)) (pss_one (ps_set (i := 2) sc_place_after.nd rfl (Or.inl rfl) (pe_call X_place_behind (hr.mono (by decide)) rfl m_place_behind k_place_behind b_place_behind .nil (passes_call (E := E) (takes_of rfl rfl rfl rfl) (fun _ _ _ _ h => h)) (pa_cons (pv 0) (pa_cons (pv 2) (pa_cons (pv 3) pa_nil)))))))
      (pss_one (ps_ret (pv 2))))), run_refT (N := n_place_after) (C := CT) (fun ds cw hd hE => ?_) h⟩)
  obtain ⟨g, ts, rfl, hg, ht, he, hl, hpl⟩ := hd
  refine x_asg (d := .str (Str.ofString "start")) d_str ?_
  refine x_for (i_seqL (d_var rfl) kv_ne) (fun n Γ1 => ∃ p t3, plA g p (ts.drop n) = .error cw ∧ wAt g p ≠ [] ∧ Γ1 = [some (.v (grD g)), some (.v (.list (ts.map tokD))), some (.v (.str (Str.ofString p))), t3]) ⟨"start", none, hpl, gr_start hg, rfl⟩ (fun n a Γ1 hn' hI => ?_) (fun Γ1 hI => ?_)
  · obtain ⟨p, t3, h, hw, rfl⟩ := hI
    obtain ⟨t, hn, rfl⟩ := tok_at hn'
    have hlt := (List.getElem?_eq_some_iff.mp hn).1
    rw [List.drop_eq_getElem?_toList_append, hn] at h
    have tm := ht t (List.mem_of_getElem? hn)
    simp only [Option.toList, List.singleton_append] at h
    unfold plA at h
    refine ⟨_, _, g_name, ?_⟩
    cases hb : plB g p t with
    | nil =>
      rw [hb] at h
      cases h
      exact .inl (x_asgE (x_refT (a_cons (d_var rfl) (a_cons (d_var rfl) (a_cons (d_var rfl) a_nil))) ⟨g, p, t, rfl, hg, hw, tm, hb, rfl⟩ hE))
    | cons q' r =>
      rw [hb] at h
      have h : plA g q' (ts.drop (n + 1)) = .error cw := h
      have l2 : n + 1 < ts.length := by
        by_cases z : n + 1 < ts.length
        · exact z
        · rw [List.drop_eq_nil_of_le (by omega)] at h; cases h
      have ne : t.1 ≠ "end" := he t (List.mem_iff_getElem?.mpr ⟨n, by rw [List.getElem?_dropLast, if_pos (by omega)]; exact hn⟩)
      exact .inr (s_asg (d := .str (Str.ofString q')) (x_goodO (k := .v) (a_cons (d_var rfl) (a_cons (d_var rfl) (a_cons (d_var rfl) a_nil))) ⟨g, p, q', t, r, rfl, hg, tm, hb, rfl, rfl⟩) ⟨_, rfl, q', _, h, pl_next hg hb tm ne, rfl⟩)
  · obtain ⟨p, t3, h, hw, rfl⟩ := hI
    rw [List.length_map, List.length_map, List.drop_length] at h
    cases h

theorem ok_check_share_nameT {P : Program} {w : World} {K : PySem.W.Frag} {mg : Str → Option Value} {base : Heap} {f C CT : Addr} {fd : FuncData} (F : Fun K "check_share_name" "check_share_name" s_check_share_name f fd) (T : Txt K mg) (X : ExcT P w K mg base CT) :
    FnOk P w K mg base (L2.CX P w) 4 f fd p_check_share_name (spRefT K CT RtCn) := by
  obtain ⟨fI, fdI, iC, tI, F1, hb⟩ := X.ini
  refine F.okX sc_check_share_name (fun vs H Q E h => by obtain ⟨ds, cw, hb, hd, _⟩ := h; rw [hb.len, RtCn_len hd]; rfl) (fun cdv A outer s H vs Q E hr h => ⟨_, (pss_cons (ps_asg (pv 0) (k_tupA (K := K) (n := 3) rfl rfl (pgs_cons (pg_name (i := 2) sc_check_share_name.nd rfl (Or.inl rfl)) (pgs_cons (pg_name (i := 3) sc_check_share_name.nd rfl (Or.inl rfl)) (pgs_cons (pg_name (i := 4) sc_check_share_name.nd rfl (Or.inl rfl)) pgs_nil)))))
      (pss_cons (ps_if (pt_cmpR (k_eq (K := K) rfl (rUnits hr)) (pe_callB (k_len (K := K) rfl) rfl T.b_len (by decide +kernel) (pa_cons (pv 1) pa_nil)) (pe_const rfl T.k_MOST_VARIANTS) (nomark _)) (pss_one (ps_raise rfl (takes_of rfl rfl rfl rfl) (pmk_oex X.O iC tI F1 (hr.mono (by decide)) hb .nil passL rfl X.hC (pa_cons (pv 4) (pa_cons pe_str pa_nil))))) pss_nil)
      (pss_one (ps_if (pt_cmpR (k_inU (K := K) rfl (rUnits5 hr)) (pv 3) (pv 1) (by with_unfolding_all rfl)) (pss_one (ps_raise rfl (takes_of rfl rfl rfl rfl) (pmk_oex X.O iC tI F1 (hr.mono (by decide)) hb .nil passL rfl X.hC (pa_cons (pv 4) (pa_cons pe_str pa_nil))))) pss_nil)))), run_refT (N := n_check_share_name) (C := CT) (fun ds cw hd hE => ?_) h⟩)
  obtain ⟨t, kn, rfl, ht, hk, ha, hc⟩ := hd
  refine x_unp (ds := [.str (Str.ofString t.1), .str (strN t.2.1), .int (t.2.2 : Int)]) (d_var rfl) rfl rfl (g_cons g_name (g_cons g_name (g_cons g_name g_nil))) ?_
  have c1 := ht.2.2.1
  rcases hc with ⟨h, rfl⟩ | ⟨h, m, rfl⟩
  · exact x_take (EvT.to (t_test (e_eqI (d_lenL (d_var rfl)) d_int)) (decide_eq_true (by rw [List.length_map]; omega))) (x_raiseT (by omega) (by omega) (by decide +kernel) (a_consV (d_var rfl) (a_consV d_str a_nil)) hE)
  · refine x_skip (EvT.to (t_test (e_eqI (d_lenL (d_var rfl)) d_int)) (decide_eq_false (by rw [List.length_map]; omega))) ?_
    refine x_yes (EvT.to (t_test (e_inUL (neg := false) (d := nmD t.2.1) (d_var rfl) (d_var rfl) (shaped_nm ht.2.2.2) (shaped_nms ha))) ?_) (x_raiseT (by omega) (by omega) (by decide +kernel) (a_consV (d_var rfl) (a_consV d_str a_nil)) hE)
    rw [if_neg (by decide), in_nms]
    exact decide_eq_true m

theorem ok_quotient_ofT {P : Program} {w : World} {K : PySem.W.Frag} {mg : Str → Option Value} {base : Heap} {f C CT : Addr} {fd : FuncData} (F : Fun K "quotient_of" "quotient_of" s_quotient_of f fd) (T : Txt K mg) (X : ExcT P w K mg base CT) :
    FnOk P w K mg base (L2.CX P w) 4 f fd p_quotient_of (spRefT K CT RtQu) := by
  obtain ⟨fI, fdI, iC, tI, F1, hb⟩ := X.ini
  refine F.okX sc_quotient_of (fun vs H Q E h => by obtain ⟨ds, cw, hb, hd, _⟩ := h; rw [hb.len, RtQu_len hd]; rfl) (fun cdv A outer s H vs Q E hr h => ⟨_, (pss_cons (ps_set (i := 1) sc_quotient_of.nd rfl (Or.inl rfl) (pe_callTy cr_intS rfl T.b_int (by decide +kernel) (pa_cons (pe_ix (k_ix (K := K) rfl) (pe_ix (k_ix (K := K) rfl) (pv 0) pe_int (fun _ _ => rfl)) pe_int (fun _ _ => rfl)) pa_nil)))
      (pss_cons (ps_if (pt_cmpR (k_eq (K := K) rfl (rUnits hr)) (pe_callB (k_len (K := K) rfl) rfl T.b_len (by decide +kernel) (pa_cons (pv 0) pa_nil)) pe_int (nomark _)) (pss_one (ps_ret (pe_tupN (pa_cons (pv 1) (pa_cons pe_int pa_nil))))) pss_nil)
      (pss_cons (ps_asg (pe_ix (k_ix (K := K) rfl) (pv 0) pe_int (fun _ _ => rfl)) (k_tupA (K := K) (n := 3) rfl rfl (pgs_cons (pg_name (i := 2) sc_quotient_of.nd rfl (Or.inl rfl)) (pgs_cons (pg_name (i := 3) sc_quotient_of.nd rfl (Or.inl rfl)) (pgs_cons (pg_name (i := 4) sc_quotient_of.nd rfl (Or.inl rfl)) pgs_nil)))))
      (pss_cons (ps_if (pt_cmpR (k_eq (K := K) rfl (rUnits hr)) (pe_ix (k_ix (K := K) rfl) (pe_ix (k_ix (K := K) rfl) (pv 0) pe_int (fun _ _ => rfl)) pe_int (fun _ _ => rfl)) pe_str (nomark _)) (pss_cons (ps_if (pt_not (pt_chain op_le op_le pe_int (pe_callTy cr_intS rfl T.b_int (by decide +kernel) (pa_cons (pv 3) pa_nil)) (pe_const rfl T.k_GREATEST_DIVISOR))) (pss_one (ps_raise rfl (takes_of rfl rfl rfl rfl) (pmk_oex X.O iC tI F1 (hr.mono (by decide)) hb .nil passL rfl X.hC (pa_cons (pv 4) (pa_cons pe_str pa_nil))))) pss_nil)
      (pss_one (ps_ret (pe_tupN (pa_cons (pv 1) (pa_cons (pe_callTy cr_intS rfl T.b_int (by decide +kernel) (pa_cons (pv 3) pa_nil)) pa_nil)))))) pss_nil)
      (pss_cons (ps_if (pt_cmpR op_gt (pe_callB (k_lenU (K := K) rfl) rfl T.b_len (by decide +kernel) (pa_cons (pv 3) pa_nil)) pe_int (nomark _)) (pss_one (ps_raise rfl (takes_of rfl rfl rfl rfl) (pmk_oex X.O iC tI F1 (hr.mono (by decide)) hb .nil passL rfl X.hC (pa_cons (pv 4) (pa_cons pe_str pa_nil))))) pss_nil)
      (pss_one (ps_ret (pe_tupN (pa_cons (pe_op (k_add (K := K) rfl) (pe_op op_mulA pe_int (pv 1)) (pe_callTy cr_intS rfl T.b_int (by decide +kernel) (pa_cons (pe_sm PySem.F.slot_str_ljust PySem.F.type_str_ljust mt_lj (pv 3) (pa_cons pe_int (pa_cons pe_str pa_nil))) pa_nil))) (pa_cons pe_int pa_nil)))))))))), run_refT (N := n_quotient_of) (C := CT) (fun ds cw hd hE => ?_) h⟩)
  obtain ⟨r, rfl, hr', hq⟩ := hd
  rcases hr' with ⟨a, rfl, ha⟩ | ⟨a, s, b, rfl, ha, hb, hs⟩
  · cases hq
  · have hq : (if s.2.1 = [47] then (if 1 ≤ vlN b.2.1 ∧ vlN b.2.1 ≤ 10000 then Except.ok (vlN a.2.1, vlN b.2.1) else .error (b.2.2, "a denominator is from 1 to 10000")) else if 2 < b.2.1.length then .error (b.2.2, "at most two digits stand behind the point") else .ok (100 * vlN a.2.1 + vlN (lj2 b.2.1), 10000)) = Except.error cw := hq
    refine x_asg (d := .int ((vlN a.2.1 : Nat) : Int)) (e_num ha (e_ixT (d := .str (strN a.2.1)) (e_ixLv (d := tokD a) (d_var rfl) d_int rfl) d_int rfl rfl)) ?_
    refine x_skip (EvT.to (t_test (e_eqI (d_lenL (d_var rfl)) d_int)) rfl) ?_
    refine x_unp (ds := [.str (Str.ofString b.1), .str (strN b.2.1), .int (b.2.2 : Int)]) (e_ixLv (d := tokD b) (d_var rfl) d_int rfl) rfl rfl (g_cons g_name (g_cons g_name (g_cons g_name g_nil))) ?_
    have c1 := hb.2.2.2.2
    have tst : ∀ {Γ : List (Option Rs)}, Γ[0]? = some (some (.v (.list ([a, s, b].map tokD)))) → EvT (pc K) (tTest (tOp (rEqA K) (tOp (rIx K) (tOp (rIx K) (tVar 0) (tC (.int 1))) (tC (.int 1))) (tC (.str (Str.ofString "/"))))) Γ (decide (s.2.1 = [47])) := fun h => EvT.to (t_eqSS (e_ixT (d := .str (strN s.2.1)) (e_ixLv (d := tokD s) (d_var h) d_int rfl) d_int rfl rfl) d_str) (strN_1 c47)
    by_cases w : s.2.1 = [47]
    · rw [if_pos w] at hq
      split at hq
      · cases hq
      · next v =>
        cases hq
        refine x_take (EvT.to (tst rfl) (decide_eq_true w)) ?_
        refine x_take (EvT.to (t_not (t_chainI d_int (e_num hb (d_var rfl)) d_int)) ?_) (x_raiseT (by omega) (by omega) (by decide +kernel) (a_consV (d_var rfl) (a_consV d_str a_nil)) hE)
        rw [Bool.not_eq_true', Bool.and_eq_false_iff]
        by_cases v1 : 1 ≤ vlN b.2.1
        · exact .inr (decide_eq_false (by omega))
        · exact .inl (decide_eq_false (by omega))
    · rw [if_neg w] at hq
      split at hq
      · next v =>
        cases hq
        refine x_skip (EvT.to (tst rfl) (decide_eq_false w)) ?_
        exact x_take (EvT.to (t_test (d_gt (e_lenS (d_var rfl) (by rw [strN_len]; have := hb.2.2.1; omega)) d_int)) (decide_eq_true (by rw [strN_len]; omega))) (x_raiseT (by omega) (by omega) (by decide +kernel) (a_consV (d_var rfl) (a_consV d_str a_nil)) hE)
      · cases hq

theorem ok_share_ofT {P : Program} {w : World} {K : PySem.W.Frag} {mg : Str → Option Value} {base : Heap} {f C CT : Addr} {fd : FuncData} (F : Fun K "share_of" "share_of" s_share_of f fd) (T : Txt K mg) (X : ExcT P w K mg base CT) (c_in_lowest_terms : Cal P w K mg base CX0 1 "in_lowest_terms" p_in_lowest_terms (sp_in_lowest_terms K)) {fx_quotient_of : Addr} {fdx_quotient_of : FuncData} (X_quotient_of : FnOk P w K mg base (L2.CX P w) 4 fx_quotient_of fdx_quotient_of p_quotient_of (spDT K CT (sp_quotient_of K) RtQu)) (m_quotient_of : mg "quotient_of" = some (.ref fx_quotient_of)) (k_quotient_of : PySem.W.keepIn K (.ref fx_quotient_of) = true) (b_quotient_of : Binds K fdx_quotient_of p_quotient_of []) :
    FnOk P w K mg base (L2.CX P w) 5 f fd p_share_of (spRefT K CT RtSh) := by
  obtain ⟨fI, fdI, iC, tI, F1, hb⟩ := X.ini
  refine F.okX sc_share_of (fun vs H Q E h => by obtain ⟨ds, cw, hb, hd, _⟩ := h; rw [hb.len, RtSh_len hd]; rfl) (fun cdv A outer s H vs Q E hr h => ⟨_, (pss_cons (ps_asg (pe_call X_quotient_of (hr.mono (by decide)) rfl m_quotient_of k_quotient_of b_quotient_of .nil (passes_call (E := E) (takes_of rfl rfl rfl rfl) (fun _ _ _ _ h => h)) (pa_cons (pv 0) pa_nil)) (k_tupA (K := K) (n := 2) rfl rfl (pgs_cons (pg_name (i := 1) sc_share_of.nd rfl (Or.inl rfl)) (pgs_cons (pg_name (i := 2) sc_share_of.nd rfl (Or.inl rfl)) pgs_nil))))
      (pss_cons (ps_if (pt_cmpR op_gt (pv 1) (pv 2) (nomark _)) (pss_one (ps_raise rfl (takes_of rfl rfl rfl rfl) (pmk_oex X.O iC tI F1 (hr.mono (by decide)) hb .nil passL rfl X.hC (pa_cons (pe_ix (k_ix (K := K) rfl) (pe_ix (k_ix (K := K) rfl) (pv 0) pe_int (fun _ _ => rfl)) pe_int (fun _ _ => rfl)) (pa_cons pe_str pa_nil))))) pss_nil)
      (pss_one (ps_ret (pe_cal (cal_up0 c_in_lowest_terms) (hr.mono (by decide)) rfl passL (pa_cons (pv 1) (pa_cons (pv 2) pa_nil))))))), run_refT (N := n_share_of) (C := CT) (fun ds cw hd hE => ?_) h⟩)
  obtain ⟨r, rfl, hr', hq⟩ := hd
  unfold shO at hq
  split at hq
  · next e he =>
    cases hq
    exact x_seq (x_asgE (x_refT (a_cons (d_var rfl) a_nil) ⟨r, rfl, hr', he⟩ hE))
  · next p hp' =>
    have rg := qO_rng hr' hp'
    split at hq
    · next v =>
      cases hq
      refine x_unp (ds := [.int (p.1 : Int), .int (p.2 : Int)]) (x_goodO (k := .v) (d := qD p) (a_cons (d_var rfl) a_nil) ⟨r, p, rfl, hr', hp', rfl, rfl⟩) rfl rfl (g_cons g_name (g_cons g_name g_nil)) ?_
      refine x_take (EvT.to (t_test (d_gt (d_var rfl) (d_var rfl))) (decide_eq_true (by omega))) ?_
      obtain ⟨a, r2, rfl, ha⟩ : ∃ a r2, r = a :: r2 ∧ NuT a := by
        rcases hr' with ⟨a, rfl, ha⟩ | ⟨a, s, b, rfl, ha, hb, hs⟩
        · exact ⟨a, [], rfl, ha⟩
        · exact ⟨a, [s, b], rfl, ha⟩
      have c1 := ha.2.2.2.2
      exact x_raiseT (col := (a.2.2 : Int)) (by omega) (by omega) (by decide +kernel) (a_consV (e_ixT (d := .int (a.2.2 : Int)) (e_ixLv (d := tokD a) (d_var rfl) d_int atI_zero) d_int rfl rfl) (a_consV d_str a_nil)) hE
    · cases hq

theorem ok_read_sharesX {P : Program} {w : World} {K : PySem.W.Frag} {mg : Str → Option Value} {base : Heap} {f C CT : Addr} {fd : FuncData} (F : Fun K "read_shares" "read_shares" s_read_shares f fd) (T : Txt K mg) (X : ExcT P w K mg base CT) (c_parted_at_commas : Cal P w K mg base CX0 1 "parted_at_commas" p_parted_at_commas (sp_parted_at_commas K)) (c_are_the_whole : Cal P w K mg base CX0 3 "are_the_whole" p_are_the_whole (sp_are_the_whole K)) {fx_scan : Addr} {fdx_scan : FuncData} (X_scan : FnOk P w K mg base (L2.CX P w) 6 fx_scan fdx_scan p_scan (spDT K CT (spDR K C (sp_scan K) RcTx) RtSc)) (m_scan : mg "scan" = some (.ref fx_scan)) (k_scan : PySem.W.keepIn K (.ref fx_scan) = true) (b_scan : Binds K fdx_scan p_scan []) {fx_place_after : Addr} {fdx_place_after : FuncData} (X_place_after : FnOk P w K mg base (L2.CX P w) 5 fx_place_after fdx_place_after p_place_after (spDT K CT (sp_place_after K) RtPa)) (m_place_after : mg "place_after" = some (.ref fx_place_after)) (k_place_after : PySem.W.keepIn K (.ref fx_place_after) = true) (b_place_after : Binds K fdx_place_after p_place_after []) {fx_check_share_name : Addr} {fdx_check_share_name : FuncData} (X_check_share_name : FnOk P w K mg base (L2.CX P w) 4 fx_check_share_name fdx_check_share_name p_check_share_name (spDT K CT (sp_check_share_name K) RtCn)) (m_check_share_name : mg "check_share_name" = some (.ref fx_check_share_name)) (k_check_share_name : PySem.W.keepIn K (.ref fx_check_share_name) = true) (b_check_share_name : Binds K fdx_check_share_name p_check_share_name []) {fx_share_of : Addr} {fdx_share_of : FuncData} (X_share_of : FnOk P w K mg base (L2.CX P w) 5 fx_share_of fdx_share_of p_share_of (spDT K CT (sp_share_of K) RtSh)) (m_share_of : mg "share_of" = some (.ref fx_share_of)) (k_share_of : PySem.W.keepIn K (.ref fx_share_of) = true) (b_share_of : Binds K fdx_share_of p_share_of []) :
    FnOk P w K mg base (L2.CX P w) 7 f fd p_read_shares (spRef K C RcTx) := by
  obtain ⟨fI, fdI, iC, tI, F1, hb⟩ := X.ini
  obtain ⟨a_SHARES, m_SHARES, g_SHARES⟩ := T.t_SHARES
  refine F.okX sc_read_shares (fun vs H Q E h => by obtain ⟨ds, nm, hb, hd, _⟩ := h; rw [hb.len, RcTx_len hd]; rfl) (fun cdv A outer s H vs Q E hr h => ⟨_, (pss_cons (ps_set (i := 1) sc_read_shares.nd rfl (Or.inl rfl) (pe_call X_scan (hr.mono (by decide)) rfl m_scan k_scan b_scan .nil (passes_call (E := E) (takes_of rfl rfl rfl rfl) (fun _ _ _ _ h => h)) (pa_cons (pv 0) pa_nil)))
      (pss_cons (ps_expr (pe_call X_place_after (hr.mono (by decide)) rfl m_place_after k_place_after b_place_after .nil (passes_call (E := E) (takes_of rfl rfl rfl rfl) (fun _ _ _ _ h => h)) (pa_cons (pe_glob (v := .ref a_SHARES) rfl m_SHARES rfl) (pa_cons (pv 1) pa_nil))))
      (pss_cons (ps_set (i := 2) sc_read_shares.nd rfl (Or.inl rfl) (pe_lst pa_nil))
      (pss_cons (ps_set (i := 3) sc_read_shares.nd rfl (Or.inl rfl) (pe_lst pa_nil))
      (pss_cons (ps_for (passes_of rfl) rfl (k_seq (K := K) rfl (pe_cal (cal_up0 c_parted_at_commas) (hr.mono (by decide)) rfl passL (pa_cons (pe_slice (k_slU (K := K) rfl) (pv 1) po_none (po_some (pe_un un_neg pe_int))) pa_nil))) (pg_name (i := 4) sc_read_shares.nd rfl (Or.inl rfl)) (pss_cons (ps_expr (pe_call X_check_share_name (hr.mono (by decide)) rfl m_check_share_name k_check_share_name b_check_share_name .nil (passes_call (E := E) (takes_of rfl rfl rfl rfl) (fun _ _ _ _ h => h)) (pa_cons (pe_ix (k_ix (K := K) rfl) (pv 4) pe_int (fun _ _ => rfl)) (pa_cons (pv 2) pa_nil))))
      (pss_cons (ps_expr (k_bm (K := K) rfl PySem.F.plainAttrs_list PySem.F.slot_list_append PySem.F.type_list_append mt_append (pv 2) (pa_cons (pe_ix (k_ix (K := K) rfl) (pe_ix (k_ix (K := K) rfl) (pv 4) pe_int (fun _ _ => rfl)) pe_int (fun _ _ => rfl)) pa_nil)))
      (pss_one (ps_expr (k_bm (K := K) rfl PySem.F.plainAttrs_list PySem.F.slot_list_append PySem.F.type_list_append mt_append (pv 3) (pa_cons (pe_call X_share_of (hr.mono (by decide)) rfl m_share_of k_share_of b_share_of .nil (passes_call (E := E) (takes_of rfl rfl rfl rfl) (fun _ _ _ _ h => h)) (pa_cons (pe_slice (k_slU (K := K) rfl) (pv 4) (po_some pe_int) po_none) pa_nil)) pa_nil)))))))
      (pss_cons (ps_if (pt_not (pt_val (pe_cal (cal_up0 c_are_the_whole) (hr.mono (by decide)) rfl passL (pa_cons (pv 3) pa_nil)))) (pss_one (ps_raise rfl (takes_of rfl rfl rfl rfl) (pmk_oex X.O iC tI F1 (hr.mono (by decide)) hb .nil passL rfl X.hC (pa_cons (pe_ix (k_ix (K := K) rfl) (pe_ix (k_ix (K := K) rfl) (pv 1) (pe_un un_neg pe_int) (fun _ _ => rfl)) pe_int (fun _ _ => rfl)) (pa_cons pe_str pa_nil))))) pss_nil)
      (pss_one (ps_ret (k_tupZip (K := K) rfl rfl rfl T.b_tuple rfl T.b_zip (pa_cons (pv 2) (pa_cons (pv 3) pa_nil))))))))))), run_ref (N := n_read_shares) (C := C) (fun ds nm hd hE => ?_) h⟩)
  obtain ⟨x, rfl, hl, hx, rfl⟩ := hd
  exact x_seq (x_asgE (x_ref2 (ds := [x]) (nm := "text") (a_cons (d_var rfl) a_nil) ⟨x, rfl, hl, hx, rfl⟩ hE))

theorem ok_read_sharesT {P : Program} {w : World} {K : PySem.W.Frag} {mg : Str → Option Value} {base : Heap} {f C CT : Addr} {fd : FuncData} (F : Fun K "read_shares" "read_shares" s_read_shares f fd) (T : Txt K mg) (X : ExcT P w K mg base CT) (c_parted_at_commas : Cal P w K mg base CX0 1 "parted_at_commas" p_parted_at_commas (sp_parted_at_commas K)) (c_are_the_whole : Cal P w K mg base CX0 3 "are_the_whole" p_are_the_whole (sp_are_the_whole K)) {fx_scan : Addr} {fdx_scan : FuncData} (X_scan : FnOk P w K mg base (L2.CX P w) 6 fx_scan fdx_scan p_scan (spDT K CT (spDR K C (sp_scan K) RcTx) RtSc)) (m_scan : mg "scan" = some (.ref fx_scan)) (k_scan : PySem.W.keepIn K (.ref fx_scan) = true) (b_scan : Binds K fdx_scan p_scan []) {fx_place_after : Addr} {fdx_place_after : FuncData} (X_place_after : FnOk P w K mg base (L2.CX P w) 5 fx_place_after fdx_place_after p_place_after (spDT K CT (sp_place_after K) RtPa)) (m_place_after : mg "place_after" = some (.ref fx_place_after)) (k_place_after : PySem.W.keepIn K (.ref fx_place_after) = true) (b_place_after : Binds K fdx_place_after p_place_after []) {fx_check_share_name : Addr} {fdx_check_share_name : FuncData} (X_check_share_name : FnOk P w K mg base (L2.CX P w) 4 fx_check_share_name fdx_check_share_name p_check_share_name (spDT K CT (sp_check_share_name K) RtCn)) (m_check_share_name : mg "check_share_name" = some (.ref fx_check_share_name)) (k_check_share_name : PySem.W.keepIn K (.ref fx_check_share_name) = true) (b_check_share_name : Binds K fdx_check_share_name p_check_share_name []) {fx_share_of : Addr} {fdx_share_of : FuncData} (X_share_of : FnOk P w K mg base (L2.CX P w) 5 fx_share_of fdx_share_of p_share_of (spDT K CT (sp_share_of K) RtSh)) (m_share_of : mg "share_of" = some (.ref fx_share_of)) (k_share_of : PySem.W.keepIn K (.ref fx_share_of) = true) (b_share_of : Binds K fdx_share_of p_share_of []) :
    FnOk P w K mg base (L2.CX P w) 7 f fd p_read_shares (spRefT K CT RtRs) := by
  obtain ⟨fI, fdI, iC, tI, F1, hb⟩ := X.ini
  obtain ⟨a_SHARES, m_SHARES, g_SHARES⟩ := T.t_SHARES
  refine F.okX sc_read_shares (fun vs H Q E h => by obtain ⟨ds, cw, hb, hd, _⟩ := h; rw [hb.len, RtRs_len hd]; rfl) (fun cdv A outer s H vs Q E hr h => ⟨_, (pss_cons (ps_set (i := 1) sc_read_shares.nd rfl (Or.inl rfl) (pe_call X_scan (hr.mono (by decide)) rfl m_scan k_scan b_scan .nil (passes_call (E := E) (takes_of rfl rfl rfl rfl) (fun _ _ _ _ h => h)) (pa_cons (pv 0) pa_nil)))
      (pss_cons (ps_expr (pe_call X_place_after (hr.mono (by decide)) rfl m_place_after k_place_after b_place_after .nil (passes_call (E := E) (takes_of rfl rfl rfl rfl) (fun _ _ _ _ h => h)) (pa_cons (pe_glob (v := .ref a_SHARES) rfl m_SHARES rfl) (pa_cons (pv 1) pa_nil))))
      (pss_cons (ps_set (i := 2) sc_read_shares.nd rfl (Or.inl rfl) (pe_lst pa_nil))
      (pss_cons (ps_set (i := 3) sc_read_shares.nd rfl (Or.inl rfl) (pe_lst pa_nil))
      (pss_cons (ps_for (passes_of rfl) rfl (k_seq (K := K) rfl (pe_cal (cal_up0 c_parted_at_commas) (hr.mono (by decide)) rfl passL (pa_cons (pe_slice (k_slU (K := K) rfl) (pv 1) po_none (po_some (pe_un un_neg pe_int))) pa_nil))) (pg_name (i := 4) sc_read_shares.nd rfl (Or.inl rfl)) (pss_cons (ps_expr (pe_call X_check_share_name (hr.mono (by decide)) rfl m_check_share_name k_check_share_name b_check_share_name .nil (passes_call (E := E) (takes_of rfl rfl rfl rfl) (fun _ _ _ _ h => h)) (pa_cons (pe_ix (k_ix (K := K) rfl) (pv 4) pe_int (fun _ _ => rfl)) (pa_cons (pv 2) pa_nil))))
      (pss_cons (ps_expr (k_bm (K := K) rfl PySem.F.plainAttrs_list PySem.F.slot_list_append PySem.F.type_list_append mt_append (pv 2) (pa_cons (pe_ix (k_ix (K := K) rfl) (pe_ix (k_ix (K := K) rfl) (pv 4) pe_int (fun _ _ => rfl)) pe_int (fun _ _ => rfl)) pa_nil)))
      (pss_one (ps_expr (k_bm (K := K) rfl PySem.F.plainAttrs_list PySem.F.slot_list_append PySem.F.type_list_append mt_append (pv 3) (pa_cons (pe_call X_share_of (hr.mono (by decide)) rfl m_share_of k_share_of b_share_of .nil (passes_call (E := E) (takes_of rfl rfl rfl rfl) (fun _ _ _ _ h => h)) (pa_cons (pe_slice (k_slU (K := K) rfl) (pv 4) (po_some pe_int) po_none) pa_nil)) pa_nil)))))))
      (pss_cons (ps_if (pt_not (pt_val (pe_cal (cal_up0 c_are_the_whole) (hr.mono (by decide)) rfl passL (pa_cons (pv 3) pa_nil)))) (pss_one (ps_raise rfl (takes_of rfl rfl rfl rfl) (pmk_oex X.O iC tI F1 (hr.mono (by decide)) hb .nil passL rfl X.hC (pa_cons (pe_ix (k_ix (K := K) rfl) (pe_ix (k_ix (K := K) rfl) (pv 1) (pe_un un_neg pe_int) (fun _ _ => rfl)) pe_int (fun _ _ => rfl)) (pa_cons pe_str pa_nil))))) pss_nil)
      (pss_one (ps_ret (k_tupZip (K := K) rfl rfl rfl T.b_tuple rfl T.b_zip (pa_cons (pv 2) (pa_cons (pv 3) pa_nil))))))))))), run_refT (N := n_read_shares) (C := CT) (fun ds cw hd hE => ?_) h⟩)
  obtain ⟨z, rfl, hb, hr'⟩ := hd
  unfold rdS at hr'
  split at hr'
  · next e hs =>
    cases hr'
    exact x_seq (x_asgE (x_refT (a_cons (d_var rfl) a_nil) ⟨z, rfl, hb, hs⟩ hE))
  · next ts hs =>
    obtain ⟨zl, tl, sc, ok, ne⟩ := scn_all hb hs
    split at hr'
    · next e hpl =>
      cases hr'
      refine x_asgO (d := .list ((ts ++ [endT z]).map tokD)) (Ev.to (x_good2 (k := .o) (a_cons (d_var rfl) a_nil) ⟨z, ts, rfl, hb, hs, rfl, rfl⟩) (by rw [List.map_append]; rfl)) ?_
      exact x_seq (x_dropE (x_refT (a_cons (e_gT g_SHARES rfl) (a_cons (d_varO rfl) a_nil)) ⟨gSH, ts ++ [endT z], rfl, .inl rfl, ok, ne, by simp; omega, hpl⟩ hE))
    · next pl hpl =>
      have rows := sh_rowsT sc rfl hpl
      refine x_asgO (d := .list ((ts ++ [endT z]).map tokD)) (Ev.to (x_good2 (k := .o) (a_cons (d_var rfl) a_nil) ⟨z, ts, rfl, hb, hs, rfl, rfl⟩) (by rw [List.map_append]; rfl)) ?_
      refine x_drop (x_goodO (k := .v) (a_cons (e_gT g_SHARES rfl) (a_cons (d_varO rfl) a_nil)) ⟨gSH, pl, ts ++ [endT z], rfl, .inl rfl, ok, by simp; omega, hpl, rfl, rfl⟩) ?_
      refine x_asgO (d := .list (([] : List (List Nat)).map nmD)) (d_lst (kv := false) (ds := []) a_nil rfl (by decide)) ?_
      refine x_asgO (d := .list (([] : List (Nat × Nat)).map qD)) (d_lst (kv := false) (ds := []) a_nil rfl (by decide)) ?_
      have key : ∃ F, rdR [] (prt ts) = F ∧ (F = .error cw ∨ ∃ us, F = .ok us ∧ whoB (us.map (·.2)) = false ∧ cw = (z.length + 1, "the total is not the whole")) := by
        refine ⟨_, rfl, ?_⟩
        split at hr'
        · next e he => cases hr'; exact .inl he
        · next us hu =>
          split at hr'
          · cases hr'
          · next hw => cases hr'; exact .inr ⟨us, hu, by simpa using hw, rfl⟩
      obtain ⟨F, hF, hc⟩ := key
      refine x_for (i_seqL (ds := (prt ts).map fun r => .list (r.map tokD)) (Ev.frz (d_call (k := .o) (a_cons (Ev.to (e_slL (d_varO rfl) o_none (o_some (e_neg d_int)) (fl_toks _)) (by rw [show (-(1 : Int)) = -1 from rfl, cutD_last, List.map_append]; simp)) a_nil) ⟨ts, rfl, by omega, rfl, rfl⟩)) kv_ne) (fun n Γ1 => ∃ kn qs t4, (∀ us, F = .ok us → ∃ rest, rdR kn ((prt ts).drop n) = .ok rest ∧ kn.zip qs ++ rest = us) ∧ (∀ e, F = .error e → rdR kn ((prt ts).drop n) = .error e) ∧ kn.length = qs.length ∧ kn.length ≤ 5 ∧ (∀ r ∈ kn, Asc r) ∧ Γ1 = [some (.v (.str z)), some (.o (.list ((ts ++ [endT z]).map tokD))), some (.o (.list (kn.map nmD))), some (.o (.list (qs.map qD))), t4]) ⟨[], [], none, fun us w => ⟨us, by rw [List.drop_zero, hF, w], rfl⟩, fun e w => by rw [List.drop_zero, hF, w], rfl, by simp, (fun _ m => nomatch m), rfl⟩ (fun n a Γ1 hn' hI => ?_) (fun Γ1 hI => ?_)
      · obtain ⟨kn, qs, t4, h1, h1e, h2, h3, h4, rfl⟩ := hI
        obtain ⟨r0, hrow, rfl⟩ := rowT_at hn'
        have dr : (prt ts).drop n = r0 :: (prt ts).drop (n + 1) := by rw [List.drop_eq_getElem?_toList_append, hrow]; rfl
        obtain ⟨n0, q0, rfl, hn0, hq0⟩ := rows r0 (List.mem_of_getElem? hrow)
        refine ⟨_, _, g_name, ?_⟩
        have cn0 := hn0.2.2.1
        -- what this row gives
        by_cases c5 : kn.length = 5
        · refine .inl ?_
          have er : rdR kn ((prt ts).drop n) = .error (n0.2.2, "there are at most 5 variants") := by rw [dr]; unfold rdR; dsimp only; rw [if_pos c5]
          obtain rfl : cw = (n0.2.2, "there are at most 5 variants") := by
            rcases hc with w | ⟨us, w, _⟩
            · have := h1e cw w; rw [er] at this; cases this; rfl
            · obtain ⟨rest, e, _⟩ := h1 us w; rw [er] at e; cases e
          exact x_seq (x_dropE (x_refT (a_cons (e_ixLv (d := tokD n0) (d_var rfl) d_int atI_zero) (a_cons (d_varO rfl) a_nil)) ⟨n0, kn, rfl, hn0, h3, h4, .inl ⟨c5, rfl⟩⟩ hE))
        by_cases cn : n0.2.1 ∈ kn
        · refine .inl ?_
          have er : rdR kn ((prt ts).drop n) = .error (n0.2.2, "this name stands already") := by rw [dr]; unfold rdR; dsimp only; rw [if_neg c5, if_pos cn]
          obtain rfl : cw = (n0.2.2, "this name stands already") := by
            rcases hc with w | ⟨us, w, _⟩
            · have := h1e cw w; rw [er] at this; cases this; rfl
            · obtain ⟨rest, e, _⟩ := h1 us w; rw [er] at e; cases e
          exact x_seq (x_dropE (x_refT (a_cons (e_ixLv (d := tokD n0) (d_var rfl) d_int atI_zero) (a_cons (d_varO rfl) a_nil)) ⟨n0, kn, rfl, hn0, h3, h4, .inr ⟨by omega, cn, rfl⟩⟩ hE))
        have chk : ∀ {Γ : List (Option Rs)}, Γ[4]? = some (some (.v (.list ((n0 :: q0).map tokD)))) → Γ[2]? = some (some (.o (.list (kn.map nmD)))) → Ev (pc K) (tCall (spDT K CT (sp_check_share_name K) RtCn) [] E (tCons (tOp (rIx K) (tVar 4) (tC (.int 0))) (tCons (tVar 2) tNil))) Γ .v .none := fun e4 e2 => x_goodO (k := .v) (d := .none) (a_cons (e_ixLv (d := tokD n0) (d_var e4) d_int atI_zero) (a_cons (d_varO e2) a_nil)) ⟨n0, kn, rfl, hn0, by omega, h4, cn, rfl, rfl⟩
        have row1 : ∀ {Γ : List (Option Rs)}, Γ[4]? = some (some (.v (.list ((n0 :: q0).map tokD)))) → Ev (pc K) (tSl (rSlU K) (tVar 4) (tPart (tC (.int 1))) tNoPart) Γ .o (.list (q0.map tokD)) := fun e4 => Ev.to (e_slL (d_var e4) (o_some d_int) o_none (fl_toks _)) (by rw [show (1 : Int) = ((1 : Nat) : Int) from rfl, cutD_lo (by simp)]; rfl)
        have nm : ∀ {Γ : List (Option Rs)}, Γ[4]? = some (some (.v (.list ((n0 :: q0).map tokD)))) → Ev (pc K) (tOp (rIx K) (tOp (rIx K) (tVar 4) (tC (.int 0))) (tC (.int 1))) Γ .v (nmD n0.2.1) := fun e4 => e_ixT (d := nmD n0.2.1) (e_ixLv (d := tokD n0) (d_var e4) d_int atI_zero) d_int rfl rfl
        cases hs2 : shO q0 with
        | error e =>
          refine .inl ?_
          have er : rdR kn ((prt ts).drop n) = .error e := by rw [dr]; unfold rdR; dsimp only; rw [if_neg c5, if_neg cn, hs2]
          obtain rfl : cw = e := by
            rcases hc with w | ⟨us, w, _⟩
            · have := h1e cw w; rw [er] at this; cases this; rfl
            · obtain ⟨rest, e, _⟩ := h1 us w; rw [er] at e; cases e
          refine x_drop (chk rfl rfl) ?_
          refine x_app rfl (d := nmD n0.2.1) (nm rfl) rfl (by rw [List.length_map]; omega) ?_
          exact x_dropE (x_bmA rfl (x_refT (a_cons (row1 rfl) a_nil) ⟨q0, rfl, hq0, hs2⟩ hE))
        | ok s =>
          refine .inr ?_
          have er : rdR kn ((prt ts).drop n) = match rdR (kn ++ [n0.2.1]) ((prt ts).drop (n + 1)) with | .error e => .error e | .ok ps => .ok ((n0.2.1, s) :: ps) := by rw [dr, rdR, if_neg c5, if_neg cn, hs2] <;> cases rdR (kn ++ [n0.2.1]) ((prt ts).drop (n + 1)) <;> rfl
          refine q_drop (chk rfl rfl) ?_
          refine q_app rfl (d := nmD n0.2.1) (nm rfl) rfl (by rw [List.length_map]; omega) ?_
          refine s_app rfl (d := qD s) (x_goodO (k := .v) (a_cons (row1 rfl) a_nil) ⟨q0, s, rfl, hq0, hs2, rfl, rfl⟩) rfl (by rw [List.length_map]; omega) ⟨_, rfl, kn ++ [n0.2.1], qs ++ [s], some (.v (.list ((n0 :: q0).map tokD))), fun us w => ?_, fun e w => ?_, by simp [h2], by simp; omega, fun r m => ?_, by simp only [List.map_append]; rfl⟩
          · obtain ⟨rest, e1, e2⟩ := h1 us w
            rw [er] at e1
            split at e1
            · cases e1
            · next vs hv => cases e1; exact ⟨vs, hv, by rw [zip_snoc h2]; simpa using e2⟩
          · have e1 := h1e e w
            rw [er] at e1
            split at e1
            · next e' hv => cases e1; exact hv
            · cases e1
          · rcases List.mem_append.mp m with w | w
            · exact h4 r w
            · rw [List.mem_singleton.mp w]; exact hn0.2.2.2
      · obtain ⟨kn, qs, t4, h1, h1e, h2, h3, h4, rfl⟩ := hI
        rw [List.length_map, List.length_map] at h1 h1e
        rw [List.drop_length] at h1 h1e
        rcases hc with w | ⟨us, w, hw, rfl⟩
        · have := h1e cw w; cases this
        · obtain ⟨rest, e1, e2⟩ := h1 us w
          cases e1
          rw [List.append_nil] at e2
          have eq : us.map (·.2) = qs := by rw [← e2]; exact List.map_snd_zip (by omega)
          have ro := rdR_ok [] (prt ts) us rows (by simp) (by rw [hF, w])
          have qok : QsOk qs := by
            refine ⟨by omega, fun q m => ?_⟩
            rw [← eq] at m
            obtain ⟨p, mp, rfl⟩ := List.mem_map.mp m
            exact ro.2.2.1 p mp
          rw [eq] at hw
          refine x_take (EvT.to (t_not (t_B (d_call (k := .v) (d := .bool (whoB qs)) (a_cons (d_varO rfl) a_nil) ⟨qs, rfl, qok, rfl, rfl⟩))) (by rw [hw]; rfl)) ?_
          exact x_raiseT (col := ((z.length + 1 : Nat) : Int)) (by omega) (by omega) (by decide +kernel) (a_consV (e_ixT (d := .int ((z.length + 1 : Nat) : Int)) (e_ixL (d := tokD (endT z)) (d_varO rfl) (e_neg d_int) (by rw [List.map_append]; exact atI_end) rfl) d_int rfl rfl) (a_consV d_str a_nil)) hE

theorem ok_check_variantsX {P : Program} {w : World} {K : PySem.W.Frag} {mg : Str → Option Value} {base : Heap} {f C CT : Addr} {fd : FuncData} (F : Fun K "check_variants" "check_variants" s_check_variants f fd) (T : Txt K mg) (c_is_integer : Cal P w K mg base CX0 1 "is_integer" p_is_integer (sp_is_integer K)) {fx_require : Addr} {fdx_require : FuncData} (X_require : FnOk P w K mg base (L2.CX P w) 4 fx_require fdx_require p_require (spReq C)) (m_require : mg "require" = some (.ref fx_require)) (k_require : PySem.W.keepIn K (.ref fx_require) = true) (b_require : Binds K fdx_require p_require []) :
    FnOk P w K mg base (L2.CX P w) 5 f fd p_check_variants (spRef K C RcV) := by
  refine F.okX sc_check_variants (fun vs H Q E h => by obtain ⟨ds, nm, hb, hd, _⟩ := h; rw [hb.len, RcV_len hd]; rfl) (fun cdv A outer s H vs Q E hr h => ⟨_, (pss_one (ps_expr (pe_call X_require (hr.mono (by decide)) rfl m_require k_require b_require .nil (passes_call (E := E) (takes_of rfl rfl rfl rfl) (fun _ _ _ _ h => h)) (pa_cons (pe_cal (cal_up0 c_is_integer) (hr.mono (by decide)) rfl passL (pa_cons (pv 0) (pa_cons pe_int (pa_cons (pe_const rfl T.k_MOST_VARIANTS) pa_nil)))) (pa_cons pe_str pa_nil))))), run_ref (N := n_check_variants) (C := C) (fun ds nm hd hE => ?_) h⟩)
  obtain ⟨x, rfl, hx, rfl⟩ := hd
  exact xl_req (by decide) hE (d_call (k := .v) (d := .bool false) (a_cons (d_var rfl) (a_cons d_int (a_cons d_int a_nil))) ⟨x, 1, 5, rfl, rfl, by rw [hx]⟩)

theorem ok_run_ofT {P : Program} {w : World} {K : PySem.W.Frag} {mg : Str → Option Value} {base : Heap} {f C CT : Addr} {fd : FuncData} (F : Fun K "run_of" "run_of" s_run_of f fd) (T : Txt K mg) (X : ExcT P w K mg base CT) :
    FnOk P w K mg base (L2.CX P w) 4 f fd p_run_of (spRefT K CT RtRn) := by
  obtain ⟨fI, fdI, iC, tI, F1, hb⟩ := X.ini
  refine F.okX sc_run_of (fun vs H Q E h => by obtain ⟨ds, cw, hb, hd, _⟩ := h; rw [hb.len, RtRn_len hd]; rfl) (fun cdv A outer s H vs Q E hr h => ⟨_, (pss_cons (ps_set (i := 2) sc_run_of.nd rfl (Or.inl rfl) (pe_callTy cr_intS rfl T.b_int (by decide +kernel) (pa_cons (pe_ix (k_ix (K := K) rfl) (pe_ix (k_ix (K := K) rfl) (pv 0) pe_int (fun _ _ => rfl)) pe_int (fun _ _ => rfl)) pa_nil)))
      (pss_cons (ps_if (pt_cmpR op_ge (pv 2) (pv 1) (nomark _)) (pss_one (ps_raise rfl (takes_of rfl rfl rfl rfl) (pmk_oex X.O iC tI F1 (hr.mono (by decide)) hb .nil passL rfl X.hC (pa_cons (pe_ix (k_ix (K := K) rfl) (pe_ix (k_ix (K := K) rfl) (pv 0) pe_int (fun _ _ => rfl)) pe_int (fun _ _ => rfl)) (pa_cons pe_str pa_nil))))) pss_nil)
      (pss_cons (ps_set (i := 3) sc_run_of.nd rfl (Or.inl rfl) (pe_ifExp (pt_cmpR op_gt (pe_callB (k_len (K := K) rfl) rfl T.b_len (by decide +kernel) (pa_cons (pv 0) pa_nil)) pe_int (nomark _)) (pe_callTy cr_intS rfl T.b_int (by decide +kernel) (pa_cons (pe_ix (k_ix (K := K) rfl) (pe_ix (k_ix (K := K) rfl) (pv 0) pe_int (fun _ _ => rfl)) pe_int (fun _ _ => rfl)) pa_nil)) pe_int))
      (pss_cons (ps_if (pt_cmpR (k_eq (K := K) rfl (rUnits hr)) (pv 3) pe_int (nomark _)) (pss_one (ps_raise rfl (takes_of rfl rfl rfl rfl) (pmk_oex X.O iC tI F1 (hr.mono (by decide)) hb .nil passL rfl X.hC (pa_cons (pe_ix (k_ix (K := K) rfl) (pe_ix (k_ix (K := K) rfl) (pv 0) pe_int (fun _ _ => rfl)) pe_int (fun _ _ => rfl)) (pa_cons pe_str pa_nil))))) pss_nil)
      (pss_one (ps_ret (pe_tupN (pa_cons (pv 2) (pa_cons (pv 3) pa_nil))))))))), run_refT (N := n_run_of) (C := CT) (fun ds cw hd hE => ?_) h⟩)
  obtain ⟨r, v, rfl, hr', hq⟩ := hd
  obtain ⟨n, r2, er, hn⟩ : ∃ n r2, r = n :: r2 ∧ NuT n := by
    rcases hr' with ⟨n, rfl, hn⟩ | ⟨n, s, m, rfl, hn, hs, hm⟩
    · exact ⟨n, [], rfl, hn⟩
    · exact ⟨n, [s, m], rfl, hn⟩
  have c1 := hn.2.2.2.2
  have hd : (r.headD ("", [], 0)) = n := by rw [er]; rfl
  unfold rnO at hq
  rw [hd] at hq
  refine x_asg (d := .int ((vlN n.2.1 : Nat) : Int)) (e_num hn (e_ixT (d := .str (strN n.2.1)) (e_ixLv (d := tokD n) (d_var rfl) d_int (by rw [er]; exact atI_zero)) d_int rfl rfl)) ?_
  split at hq
  · next w =>
    cases hq
    exact x_take (EvT.to (t_test (d_ge (d_var rfl) (d_var rfl))) (decide_eq_true (by omega))) (x_raiseT (col := (n.2.2 : Int)) (by omega) (by omega) (by decide +kernel) (a_consV (e_ixT (d := .int (n.2.2 : Int)) (e_ixLv (d := tokD n) (d_var rfl) d_int (by rw [er]; exact atI_zero)) d_int rfl rfl) (a_consV d_str a_nil)) hE)
  · next w =>
    refine x_skip (EvT.to (t_test (d_ge (d_var rfl) (d_var rfl))) (decide_eq_false (by omega))) ?_
    rcases hr' with ⟨n', rfl, hn'⟩ | ⟨n', s, m, rfl, hn', hs, hm⟩
    · rw [if_pos (show [n'].length = 1 from rfl)] at hq; cases hq
    · rw [if_neg (by simp)] at hq
      have hq : (if vlN m.2.1 = 0 then Except.error (m.2.2, "a run has at least one bucket") else Except.ok (vlN n.2.1, vlN m.2.1)) = Except.error cw := hq
      split at hq
      · next w2 =>
        cases hq
        have c2 := hm.2.2.2.2
        refine x_asg (d := .int ((vlN m.2.1 : Nat) : Int)) (d_if (a := true) (EvT.to (t_test (d_gt (d_lenL (d_var rfl)) d_int)) rfl) (fun _ => e_num hm (e_ixT (d := .str (strN m.2.1)) (e_ixLv (d := tokD m) (d_var rfl) d_int rfl) d_int rfl rfl)) fun e => nomatch e) ?_
        exact x_take (EvT.to (t_test (e_eqI (d_var rfl) d_int)) (decide_eq_true (by omega))) (x_raiseT (col := (m.2.2 : Int)) (by omega) (by omega) (by decide +kernel) (a_consV (e_ixT (d := .int (m.2.2 : Int)) (e_ixLv (d := tokD m) (d_var rfl) d_int rfl) d_int rfl rfl) (a_consV d_str a_nil)) hE)
      · cases hq

theorem ok_read_assignmentX {P : Program} {w : World} {K : PySem.W.Frag} {mg : Str → Option Value} {base : Heap} {f C CT : Addr} {fd : FuncData} (F : Fun K "read_assignment" "read_assignment" s_read_assignment f fd) (T : Txt K mg) (X : ExcT P w K mg base CT) (c_parted_in_runs : Cal P w K mg base CX0 1 "parted_in_runs" p_parted_in_runs (sp_parted_in_runs K)) {fx_check_text : Addr} {fdx_check_text : FuncData} (X_check_text : FnOk P w K mg base (L2.CX P w) 5 fx_check_text fdx_check_text p_check_text (spDR K C (sp_check_text K) RcTx)) (m_check_text : mg "check_text" = some (.ref fx_check_text)) (k_check_text : PySem.W.keepIn K (.ref fx_check_text) = true) (b_check_text : Binds K fdx_check_text p_check_text []) {fx_check_variants : Addr} {fdx_check_variants : FuncData} (X_check_variants : FnOk P w K mg base (L2.CX P w) 5 fx_check_variants fdx_check_variants p_check_variants (spDR K C (sp_check_variants K) RcV)) (m_check_variants : mg "check_variants" = some (.ref fx_check_variants)) (k_check_variants : PySem.W.keepIn K (.ref fx_check_variants) = true) (b_check_variants : Binds K fdx_check_variants p_check_variants []) {fx_scan : Addr} {fdx_scan : FuncData} (X_scan : FnOk P w K mg base (L2.CX P w) 6 fx_scan fdx_scan p_scan (spDT K CT (spDR K C (sp_scan K) RcTx) RtSc)) (m_scan : mg "scan" = some (.ref fx_scan)) (k_scan : PySem.W.keepIn K (.ref fx_scan) = true) (b_scan : Binds K fdx_scan p_scan []) {fx_place_after : Addr} {fdx_place_after : FuncData} (X_place_after : FnOk P w K mg base (L2.CX P w) 5 fx_place_after fdx_place_after p_place_after (spDT K CT (sp_place_after K) RtPa)) (m_place_after : mg "place_after" = some (.ref fx_place_after)) (k_place_after : PySem.W.keepIn K (.ref fx_place_after) = true) (b_place_after : Binds K fdx_place_after p_place_after []) {fx_run_of : Addr} {fdx_run_of : FuncData} (X_run_of : FnOk P w K mg base (L2.CX P w) 4 fx_run_of fdx_run_of p_run_of (spDT K CT (sp_run_of K) RtRn)) (m_run_of : mg "run_of" = some (.ref fx_run_of)) (k_run_of : PySem.W.keepIn K (.ref fx_run_of) = true) (b_run_of : Binds K fdx_run_of p_run_of []) :
    FnOk P w K mg base (L2.CX P w) 7 f fd p_read_assignment (spRef K C RcRa) := by
  obtain ⟨fI, fdI, iC, tI, F1, hb⟩ := X.ini
  obtain ⟨a_ASSIGNMENT, m_ASSIGNMENT, g_ASSIGNMENT⟩ := T.t_ASSIGNMENT
  refine F.okX sc_read_assignment (fun vs H Q E h => by obtain ⟨ds, nm, hb, hd, _⟩ := h; rw [hb.len, RcRa_len hd]; rfl) (fun cdv A outer s H vs Q E hr h => ⟨_, (pss_cons (ps_expr (pe_call X_check_text (hr.mono (by decide)) rfl m_check_text k_check_text b_check_text .nil (passes_call (E := E) (takes_of rfl rfl rfl rfl) (fun _ _ _ _ h => h)) (pa_cons (pv 0) pa_nil)))
      (pss_cons (ps_expr (pe_call X_check_variants (hr.mono (by decide)) rfl m_check_variants k_check_variants b_check_variants .nil (passes_call (E := E) (takes_of rfl rfl rfl rfl) (fun _ _ _ _ h => h)) (pa_cons (pv 1) pa_nil)))
      (pss_cons (ps_set (i := 2) sc_read_assignment.nd rfl (Or.inl rfl) (pe_call X_scan (hr.mono (by decide)) rfl m_scan k_scan b_scan .nil (passes_call (E := E) (takes_of rfl rfl rfl rfl) (fun _ _ _ _ h => h)) (pa_cons (pv 0) pa_nil)))
      (pss_cons (ps_expr (pe_call X_place_after (hr.mono (by decide)) rfl m_place_after k_place_after b_place_after .nil (passes_call (E := E) (takes_of rfl rfl rfl rfl) (fun _ _ _ _ h => h)) (pa_cons (pe_glob (v := .ref a_ASSIGNMENT) rfl m_ASSIGNMENT rfl) (pa_cons (pv 2) pa_nil))))
      (pss_cons (ps_set (i := 3) sc_read_assignment.nd rfl (Or.inl rfl) (pe_lst pa_nil))
      (pss_cons (ps_for (passes_of rfl) rfl (k_seq (K := K) rfl (pe_cal (cal_up0 c_parted_in_runs) (hr.mono (by decide)) rfl passL (pa_cons (pe_slice (k_slU (K := K) rfl) (pv 2) po_none (po_some (pe_un un_neg pe_int))) pa_nil))) (pg_name (i := 4) sc_read_assignment.nd rfl (Or.inl rfl)) (pss_cons (ps_asg (pe_call X_run_of (hr.mono (by decide)) rfl m_run_of k_run_of b_run_of .nil (passes_call (E := E) (takes_of rfl rfl rfl rfl) (fun _ _ _ _ h => h)) (pa_cons (pv 4) (pa_cons (pv 1) pa_nil))) (k_tupA (K := K) (n := 2) rfl rfl (pgs_cons (pg_name (i := 5) sc_read_assignment.nd rfl (Or.inl rfl)) (pgs_cons (pg_name (i := 6) sc_read_assignment.nd rfl (Or.inl rfl)) pgs_nil))))
      (pss_cons (ps_if (pt_cmpR op_gt (pe_op (k_add (K := K) rfl) (pe_callB (k_len (K := K) rfl) rfl T.b_len (by decide +kernel) (pa_cons (pv 3) pa_nil)) (pv 6)) (pe_const rfl T.k_MOST_BUCKETS) (nomark _)) (pss_one (ps_raise rfl (takes_of rfl rfl rfl rfl) (pmk_oex X.O iC tI F1 (hr.mono (by decide)) hb .nil passL rfl X.hC (pa_cons (pe_ix (k_ix (K := K) rfl) (pe_ix (k_ix (K := K) rfl) (pv 4) pe_int (fun _ _ => rfl)) pe_int (fun _ _ => rfl)) (pa_cons pe_str pa_nil))))) pss_nil)
      (pss_one (ps_expr (k_bm (K := K) rfl PySem.F.plainAttrs_list PySem.F.slot_list_extend PySem.F.type_list_extend mt_extend (pv 3) (pa_cons (pe_op op_mulA (pe_lst (pa_cons (pv 5) pa_nil)) (pv 6)) pa_nil)))))))
      (pss_one (ps_ret (pe_callTy (k_tuple (K := K) rfl) rfl T.b_tuple (by decide +kernel) (pa_cons (pv 3) pa_nil)))))))))), run_ref (N := n_read_assignment) (C := C) (fun ds nm hd hE => ?_) h⟩)
  obtain ⟨x, y, rfl, hl, hc⟩ := hd
  rcases hc with ⟨hx, rfl⟩ | ⟨hx, hy, rfl⟩
  · exact x_seq (x_dropE (x_ref (ds := [x]) (nm := "text") (a_cons (d_var rfl) a_nil) ⟨x, rfl, hl, hx, rfl⟩ hE))
  · obtain ⟨z, rfl⟩ : ∃ z, x = .str z := by cases x <;> first | exact ⟨_, rfl⟩ | cases hx
    refine x_drop (x_good (k := .v) (d := .none) (a_cons (d_var rfl) a_nil) ⟨z, rfl, hx, rfl, rfl⟩) ?_
    exact x_seq (x_dropE (x_ref (ds := [y]) (nm := "variants") (a_cons (d_var rfl) a_nil) ⟨y, rfl, hy, rfl⟩ hE))

theorem ok_read_assignmentT {P : Program} {w : World} {K : PySem.W.Frag} {mg : Str → Option Value} {base : Heap} {f C CT : Addr} {fd : FuncData} (F : Fun K "read_assignment" "read_assignment" s_read_assignment f fd) (T : Txt K mg) (X : ExcT P w K mg base CT) (c_parted_in_runs : Cal P w K mg base CX0 1 "parted_in_runs" p_parted_in_runs (sp_parted_in_runs K)) {fx_check_text : Addr} {fdx_check_text : FuncData} (X_check_text : FnOk P w K mg base (L2.CX P w) 5 fx_check_text fdx_check_text p_check_text (spDR K C (sp_check_text K) RcTx)) (m_check_text : mg "check_text" = some (.ref fx_check_text)) (k_check_text : PySem.W.keepIn K (.ref fx_check_text) = true) (b_check_text : Binds K fdx_check_text p_check_text []) {fx_check_variants : Addr} {fdx_check_variants : FuncData} (X_check_variants : FnOk P w K mg base (L2.CX P w) 5 fx_check_variants fdx_check_variants p_check_variants (spDR K C (sp_check_variants K) RcV)) (m_check_variants : mg "check_variants" = some (.ref fx_check_variants)) (k_check_variants : PySem.W.keepIn K (.ref fx_check_variants) = true) (b_check_variants : Binds K fdx_check_variants p_check_variants []) {fx_scan : Addr} {fdx_scan : FuncData} (X_scan : FnOk P w K mg base (L2.CX P w) 6 fx_scan fdx_scan p_scan (spDT K CT (spDR K C (sp_scan K) RcTx) RtSc)) (m_scan : mg "scan" = some (.ref fx_scan)) (k_scan : PySem.W.keepIn K (.ref fx_scan) = true) (b_scan : Binds K fdx_scan p_scan []) {fx_place_after : Addr} {fdx_place_after : FuncData} (X_place_after : FnOk P w K mg base (L2.CX P w) 5 fx_place_after fdx_place_after p_place_after (spDT K CT (sp_place_after K) RtPa)) (m_place_after : mg "place_after" = some (.ref fx_place_after)) (k_place_after : PySem.W.keepIn K (.ref fx_place_after) = true) (b_place_after : Binds K fdx_place_after p_place_after []) {fx_run_of : Addr} {fdx_run_of : FuncData} (X_run_of : FnOk P w K mg base (L2.CX P w) 4 fx_run_of fdx_run_of p_run_of (spDT K CT (sp_run_of K) RtRn)) (m_run_of : mg "run_of" = some (.ref fx_run_of)) (k_run_of : PySem.W.keepIn K (.ref fx_run_of) = true) (b_run_of : Binds K fdx_run_of p_run_of []) :
    FnOk P w K mg base (L2.CX P w) 7 f fd p_read_assignment (spRefT K CT RtRa) := by
  obtain ⟨fI, fdI, iC, tI, F1, hb⟩ := X.ini
  obtain ⟨a_ASSIGNMENT, m_ASSIGNMENT, g_ASSIGNMENT⟩ := T.t_ASSIGNMENT
  refine F.okX sc_read_assignment (fun vs H Q E h => by obtain ⟨ds, cw, hb, hd, _⟩ := h; rw [hb.len, RtRa_len hd]; rfl) (fun cdv A outer s H vs Q E hr h => ⟨_, (pss_cons (ps_expr (pe_call X_check_text (hr.mono (by decide)) rfl m_check_text k_check_text b_check_text .nil (passes_call (E := E) (takes_of rfl rfl rfl rfl) (fun _ _ _ _ h => h)) (pa_cons (pv 0) pa_nil)))
      (pss_cons (ps_expr (pe_call X_check_variants (hr.mono (by decide)) rfl m_check_variants k_check_variants b_check_variants .nil (passes_call (E := E) (takes_of rfl rfl rfl rfl) (fun _ _ _ _ h => h)) (pa_cons (pv 1) pa_nil)))
      (pss_cons (ps_set (i := 2) sc_read_assignment.nd rfl (Or.inl rfl) (pe_call X_scan (hr.mono (by decide)) rfl m_scan k_scan b_scan .nil (passes_call (E := E) (takes_of rfl rfl rfl rfl) (fun _ _ _ _ h => h)) (pa_cons (pv 0) pa_nil)))
      (pss_cons (ps_expr (pe_call X_place_after (hr.mono (by decide)) rfl m_place_after k_place_after b_place_after .nil (passes_call (E := E) (takes_of rfl rfl rfl rfl) (fun _ _ _ _ h => h)) (pa_cons (pe_glob (v := .ref a_ASSIGNMENT) rfl m_ASSIGNMENT rfl) (pa_cons (pv 2) pa_nil))))
      (pss_cons (ps_set (i := 3) sc_read_assignment.nd rfl (Or.inl rfl) (pe_lst pa_nil))
      (pss_cons (ps_for (passes_of rfl) rfl (k_seq (K := K) rfl (pe_cal (cal_up0 c_parted_in_runs) (hr.mono (by decide)) rfl passL (pa_cons (pe_slice (k_slU (K := K) rfl) (pv 2) po_none (po_some (pe_un un_neg pe_int))) pa_nil))) (pg_name (i := 4) sc_read_assignment.nd rfl (Or.inl rfl)) (pss_cons (ps_asg (pe_call X_run_of (hr.mono (by decide)) rfl m_run_of k_run_of b_run_of .nil (passes_call (E := E) (takes_of rfl rfl rfl rfl) (fun _ _ _ _ h => h)) (pa_cons (pv 4) (pa_cons (pv 1) pa_nil))) (k_tupA (K := K) (n := 2) rfl rfl (pgs_cons (pg_name (i := 5) sc_read_assignment.nd rfl (Or.inl rfl)) (pgs_cons (pg_name (i := 6) sc_read_assignment.nd rfl (Or.inl rfl)) pgs_nil))))
      (pss_cons (ps_if (pt_cmpR op_gt (pe_op (k_add (K := K) rfl) (pe_callB (k_len (K := K) rfl) rfl T.b_len (by decide +kernel) (pa_cons (pv 3) pa_nil)) (pv 6)) (pe_const rfl T.k_MOST_BUCKETS) (nomark _)) (pss_one (ps_raise rfl (takes_of rfl rfl rfl rfl) (pmk_oex X.O iC tI F1 (hr.mono (by decide)) hb .nil passL rfl X.hC (pa_cons (pe_ix (k_ix (K := K) rfl) (pe_ix (k_ix (K := K) rfl) (pv 4) pe_int (fun _ _ => rfl)) pe_int (fun _ _ => rfl)) (pa_cons pe_str pa_nil))))) pss_nil)
      (pss_one (ps_expr (k_bm (K := K) rfl PySem.F.plainAttrs_list PySem.F.slot_list_extend PySem.F.type_list_extend mt_extend (pv 3) (pa_cons (pe_op op_mulA (pe_lst (pa_cons (pv 5) pa_nil)) (pv 6)) pa_nil)))))))
      (pss_one (ps_ret (pe_callTy (k_tuple (K := K) rfl) rfl T.b_tuple (by decide +kernel) (pa_cons (pv 3) pa_nil)))))))))), run_refT (N := n_read_assignment) (C := CT) (fun ds cw hd hE => ?_) h⟩)
  obtain ⟨z, v, rfl, hb, h1, h5, hr'⟩ := hd
  refine x_drop (x_good (k := .v) (d := .none) (a_cons (d_var rfl) a_nil) ⟨z, rfl, hb, rfl, rfl⟩) ?_
  refine x_drop (x_good (k := .v) (d := .none) (a_cons (d_var rfl) a_nil) ⟨(v : Int), rfl, by omega, by omega, rfl, rfl⟩) ?_
  unfold rdA at hr'
  split at hr'
  · next e hs =>
    cases hr'
    exact x_seq (x_asgE (x_refT (a_cons (d_var rfl) a_nil) ⟨z, rfl, hb, hs⟩ hE))
  · next ts hs =>
    obtain ⟨zl, tl, sc, ok, ne⟩ := scn_all hb hs
    refine x_asgO (d := .list ((ts ++ [endT z]).map tokD)) (Ev.to (x_good2 (k := .o) (a_cons (d_var rfl) a_nil) ⟨z, ts, rfl, hb, hs, rfl, rfl⟩) (by rw [List.map_append]; rfl)) ?_
    split at hr'
    · next e hpl =>
      cases hr'
      exact x_seq (x_dropE (x_refT (a_cons (e_gT g_ASSIGNMENT rfl) (a_cons (d_varO rfl) a_nil)) ⟨gAS, ts ++ [endT z], rfl, .inr rfl, ok, ne, by simp; omega, hpl⟩ hE))
    · next pl hpl =>
      have rows := as_rows sc rfl hpl
      refine x_drop (x_goodO (k := .v) (a_cons (e_gT g_ASSIGNMENT rfl) (a_cons (d_varO rfl) a_nil)) ⟨gAS, pl, ts ++ [endT z], rfl, .inr rfl, ok, by simp; omega, hpl, rfl, rfl⟩) ?_
      refine x_asgO (d := .list (ntL [])) (d_lst (kv := false) (ds := []) a_nil rfl (by decide)) ?_
      refine x_for (i_seqL (ds := (prn ts).map fun r => .list (r.map tokD)) (Ev.frz (d_call (k := .o) (a_cons (Ev.to (e_slL (d_varO rfl) o_none (o_some (e_neg d_int)) (fl_toks _)) (by rw [show (-(1 : Int)) = -1 from rfl, cutD_last, List.map_append]; simp)) a_nil) ⟨ts, rfl, by omega, rfl, rfl⟩)) kv_ne) (fun n Γ1 => ∃ f t4 t5 t6, rdF v f ((prn ts).drop n) = .error cw ∧ f.length ≤ 20 ∧ Γ1 = [some (.v (.str z)), some (.v (.int (v : Int))), some (.o (.list ((ts ++ [endT z]).map tokD))), some (.o (.list (ntL f))), t4, t5, t6]) ⟨[], none, none, none, hr', by simp, rfl⟩ (fun n a Γ1 hn' hI => ?_) (fun Γ1 hI => ?_)
      · obtain ⟨f, t4, t5, t6, h2, h3, rfl⟩ := hI
        obtain ⟨r0, hrow, rfl⟩ := rowT_at hn'
        have dr : (prn ts).drop n = r0 :: (prn ts).drop (n + 1) := by rw [List.drop_eq_getElem?_toList_append, hrow]; rfl
        have rr := rows r0 (List.mem_of_getElem? hrow)
        rw [dr, rdF] at h2
        refine ⟨_, _, g_name, ?_⟩
        split at h2
        · next e he =>
          cases h2
          exact .inl (x_seq (x_asgE (x_refT (a_cons (d_var rfl) (a_cons (d_var rfl) a_nil)) ⟨r0, v, rfl, rr, he⟩ hE)))
        · next q hq =>
          split at h2
          · next w =>
            cases h2
            obtain ⟨m0, r2, rfl, hm⟩ : ∃ m0 r2, r0 = m0 :: r2 ∧ NuT m0 := by
              rcases rr with ⟨n, rfl, hn⟩ | ⟨n, s, m, rfl, hn, hs, hm⟩
              · exact ⟨n, [], rfl, hn⟩
              · exact ⟨n, [s, m], rfl, hn⟩
            have c1 := hm.2.2.2.2
            refine .inl (x_unp (ds := [.int (q.1 : Int), .int (q.2 : Int)]) (x_goodO (k := .v) (d := qD q) (a_cons (d_var rfl) (a_cons (d_var rfl) a_nil)) ⟨m0 :: r2, v, q, rfl, rr, hq, rfl, rfl⟩) rfl rfl (g_cons g_name (g_cons g_name g_nil)) ?_)
            refine x_take (EvT.to (t_test (d_gt (e_add (d_lenL (d_varO rfl)) (d_var rfl)) d_int)) (decide_eq_true (by unfold ntL; simp; omega))) ?_
            exact x_raiseT (col := (m0.2.2 : Int)) (by omega) (by omega) (by decide +kernel) (a_consV (e_ixT (d := .int (m0.2.2 : Int)) (e_ixLv (d := tokD m0) (d_var rfl) d_int atI_zero) d_int rfl rfl) (a_consV d_str a_nil)) hE
          · next w =>
            refine .inr (q_unp (fun d => d = qD q) (Ev.n (x_goodO (k := .v) (a_cons (d_var rfl) (a_cons (d_var rfl) a_nil)) ⟨r0, v, q, rfl, rr, hq, rfl, rfl⟩)) ?_)
            rintro _ rfl
            refine ⟨_, _, _, .inl rfl, rfl, rfl, g_cons g_name (g_cons g_name g_nil), ?_⟩
            refine q_no (EvT.to (t_test (d_gt (e_add (d_lenL (d_varO rfl)) (d_var rfl)) d_int)) (decide_eq_false (by unfold ntL; simp; omega))) ?_
            refine s_ext rfl (Ev.to (e_rep (d_lst (kv := false) (ds := [.int (q.1 : Int)]) (a_cons (d_var rfl) a_nil) rfl (by simp)) rfl (d_var rfl) (by omega) (by omega) (by simp; omega)) (y := .list (ntL (List.replicate q.2 q.1))) (by unfold ntL; rw [Int.toNat_natCast, flat_rep, List.map_replicate, List.map_replicate])) (nat_flat _) (by unfold ntL; simp; omega) ⟨_, rfl, f ++ List.replicate q.2 q.1, some (.v (.list (r0.map tokD))), some (.v (.int (q.1 : Int))), some (.v (.int (q.2 : Int))), h2, by simp; omega, by rw [nat_app]; rfl⟩
      · obtain ⟨f, t4, t5, t6, h2, h3, rfl⟩ := hI
        rw [List.length_map, List.length_map, List.drop_length] at h2
        cases h2

theorem ok_next_tokensX {P : Program} {w : World} {K : PySem.W.Frag} {mg : Str → Option Value} {base : Heap} {f C CT : Addr} {fd : FuncData} (F : Fun K "next_tokens" "next_tokens" s_next_tokens f fd) (T : Txt K mg) (c_words_at : Cal P w K mg base CX0 1 "words_at" p_words_at (sp_words_at K)) {fx_check_text : Addr} {fdx_check_text : FuncData} (X_check_text : FnOk P w K mg base (L2.CX P w) 5 fx_check_text fdx_check_text p_check_text (spDR K C (sp_check_text K) RcTx)) (m_check_text : mg "check_text" = some (.ref fx_check_text)) (k_check_text : PySem.W.keepIn K (.ref fx_check_text) = true) (b_check_text : Binds K fdx_check_text p_check_text []) {fx_require : Addr} {fdx_require : FuncData} (X_require : FnOk P w K mg base (L2.CX P w) 4 fx_require fdx_require p_require (spReq C)) (m_require : mg "require" = some (.ref fx_require)) (k_require : PySem.W.keepIn K (.ref fx_require) = true) (b_require : Binds K fdx_require p_require []) {fx_scan : Addr} {fdx_scan : FuncData} (X_scan : FnOk P w K mg base (L2.CX P w) 6 fx_scan fdx_scan p_scan (spDT K CT (spDR K C (sp_scan K) RcTx) RtSc)) (m_scan : mg "scan" = some (.ref fx_scan)) (k_scan : PySem.W.keepIn K (.ref fx_scan) = true) (b_scan : Binds K fdx_scan p_scan []) {fx_place_after : Addr} {fdx_place_after : FuncData} (X_place_after : FnOk P w K mg base (L2.CX P w) 5 fx_place_after fdx_place_after p_place_after (spDT K CT (sp_place_after K) RtPa)) (m_place_after : mg "place_after" = some (.ref fx_place_after)) (k_place_after : PySem.W.keepIn K (.ref fx_place_after) = true) (b_place_after : Binds K fdx_place_after p_place_after []) :
    FnOk P w K mg base (L2.CX P w) 7 f fd p_next_tokens (spRef K C RcNx) := by
  obtain ⟨a_ASSIGNMENT, m_ASSIGNMENT, g_ASSIGNMENT⟩ := T.t_ASSIGNMENT
  obtain ⟨a_SHARES, m_SHARES, g_SHARES⟩ := T.t_SHARES
  refine F.okX sc_next_tokens (fun vs H Q E h => by obtain ⟨ds, nm, hb, hd, _⟩ := h; rw [hb.len, RcNx_len hd]; rfl) (fun cdv A outer s H vs Q E hr h => ⟨_, (pss_cons (ps_expr (pe_call X_check_text (hr.mono (by decide)) rfl m_check_text k_check_text b_check_text .nil (passes_call (E := E) (takes_of rfl rfl rfl rfl) (fun _ _ _ _ h => h)) (pa_cons (pv 0) pa_nil)))
      (pss_cons (ps_expr (pe_call X_require (hr.mono (by decide)) rfl m_require k_require b_require .nil (passes_call (E := E) (takes_of rfl rfl rfl rfl) (fun _ _ _ _ h => h)) (pa_cons (pe_cmpR (k_inU (K := K) rfl (rUnits5 hr)) (pv 1) (pe_tupN (pa_cons pe_str (pa_cons pe_str pa_nil))) (by with_unfolding_all rfl)) (pa_cons pe_str pa_nil))))
      (pss_cons (ps_set (i := 2) sc_next_tokens.nd rfl (Or.inl rfl) (pe_ifExp (pt_cmpR (k_eq (K := K) rfl (rUnits hr)) (pv 1) pe_str (nomark _)) (pe_glob (v := .ref a_SHARES) rfl m_SHARES rfl) (pe_glob (v := .ref a_ASSIGNMENT) rfl m_ASSIGNMENT rfl)))
      (pss_one (ps_ret (pe_cal (cal_up0 c_words_at) (hr.mono (by decide)) rfl passL (pa_cons (pv 2) (pa_cons (pe_call X_place_after (hr.mono (by decide)) rfl m_place_after k_place_after b_place_after .nil (passes_call (E := E) (takes_of rfl rfl rfl rfl) (fun _ _ _ _ h => h)) (pa_cons (pv 2) (pa_cons (pe_slice (k_slU (K := K) rfl) (pe_call X_scan (hr.mono (by decide)) rfl m_scan k_scan b_scan .nil (passes_call (E := E) (takes_of rfl rfl rfl rfl) (fun _ _ _ _ h => h)) (pa_cons (pv 0) pa_nil)) po_none (po_some (pe_un un_neg pe_int))) pa_nil))) pa_nil)))))))), run_ref (N := n_next_tokens) (C := C) (fun ds nm hd hE => ?_) h⟩)
  obtain ⟨x, y, rfl, hl, hs, hc⟩ := hd
  rcases hc with ⟨hx, rfl⟩ | ⟨hx, hy, rfl⟩
  · exact x_seq (x_dropE (x_ref (ds := [x]) (nm := "text") (a_cons (d_var rfl) a_nil) ⟨x, rfl, hl, hx, rfl⟩ hE))
  · obtain ⟨z, rfl⟩ : ∃ z, x = .str z := by cases x <;> first | exact ⟨_, rfl⟩ | cases hx
    refine x_drop (x_good (k := .v) (d := .none) (a_cons (d_var rfl) a_nil) ⟨z, rfl, hx, rfl, rfl⟩) ?_
    exact x_req (nm := "kind") (by decide +kernel) hE (Ev.to (e_inUT (neg := false) (d_var rfl) (d_tup (ds := [.str (Str.ofString "shares"), .str (Str.ofString "assignment")]) (a_consV d_str (a_consV d_str a_nil)) (by simp)) hs shapedS2) (by rw [if_neg (by decide)]; exact congrArg PyData.bool hy))

theorem ok_next_tokensT {P : Program} {w : World} {K : PySem.W.Frag} {mg : Str → Option Value} {base : Heap} {f C CT : Addr} {fd : FuncData} (F : Fun K "next_tokens" "next_tokens" s_next_tokens f fd) (T : Txt K mg) (X : ExcT P w K mg base CT) (c_words_at : Cal P w K mg base CX0 1 "words_at" p_words_at (sp_words_at K)) {fx_check_text : Addr} {fdx_check_text : FuncData} (X_check_text : FnOk P w K mg base (L2.CX P w) 5 fx_check_text fdx_check_text p_check_text (spDR K C (sp_check_text K) RcTx)) (m_check_text : mg "check_text" = some (.ref fx_check_text)) (k_check_text : PySem.W.keepIn K (.ref fx_check_text) = true) (b_check_text : Binds K fdx_check_text p_check_text []) {fx_require : Addr} {fdx_require : FuncData} (X_require : FnOk P w K mg base (L2.CX P w) 4 fx_require fdx_require p_require (spReq C)) (m_require : mg "require" = some (.ref fx_require)) (k_require : PySem.W.keepIn K (.ref fx_require) = true) (b_require : Binds K fdx_require p_require []) {fx_scan : Addr} {fdx_scan : FuncData} (X_scan : FnOk P w K mg base (L2.CX P w) 6 fx_scan fdx_scan p_scan (spDT K CT (spDR K C (sp_scan K) RcTx) RtSc)) (m_scan : mg "scan" = some (.ref fx_scan)) (k_scan : PySem.W.keepIn K (.ref fx_scan) = true) (b_scan : Binds K fdx_scan p_scan []) {fx_place_after : Addr} {fdx_place_after : FuncData} (X_place_after : FnOk P w K mg base (L2.CX P w) 5 fx_place_after fdx_place_after p_place_after (spDT K CT (sp_place_after K) RtPa)) (m_place_after : mg "place_after" = some (.ref fx_place_after)) (k_place_after : PySem.W.keepIn K (.ref fx_place_after) = true) (b_place_after : Binds K fdx_place_after p_place_after []) :
    FnOk P w K mg base (L2.CX P w) 7 f fd p_next_tokens (spRefT K CT RtNx) := by
  obtain ⟨fI, fdI, iC, tI, F1, hb⟩ := X.ini
  obtain ⟨a_ASSIGNMENT, m_ASSIGNMENT, g_ASSIGNMENT⟩ := T.t_ASSIGNMENT
  obtain ⟨a_SHARES, m_SHARES, g_SHARES⟩ := T.t_SHARES
  refine F.okX sc_next_tokens (fun vs H Q E h => by obtain ⟨ds, cw, hb, hd, _⟩ := h; rw [hb.len, RtNx_len hd]; rfl) (fun cdv A outer s H vs Q E hr h => ⟨_, (pss_cons (ps_expr (pe_call X_check_text (hr.mono (by decide)) rfl m_check_text k_check_text b_check_text .nil (passes_call (E := E) (takes_of rfl rfl rfl rfl) (fun _ _ _ _ h => h)) (pa_cons (pv 0) pa_nil)))
      (pss_cons (ps_expr (pe_call X_require (hr.mono (by decide)) rfl m_require k_require b_require .nil (passes_call (E := E) (takes_of rfl rfl rfl rfl) (fun _ _ _ _ h => h)) (pa_cons (pe_cmpR (k_inU (K := K) rfl (rUnits5 hr)) (pv 1) (pe_tupN (pa_cons pe_str (pa_cons pe_str pa_nil))) (by with_unfolding_all rfl)) (pa_cons pe_str pa_nil))))
      (pss_cons (ps_set (i := 2) sc_next_tokens.nd rfl (Or.inl rfl) (pe_ifExp (pt_cmpR (k_eq (K := K) rfl (rUnits hr)) (pv 1) pe_str (nomark _)) (pe_glob (v := .ref a_SHARES) rfl m_SHARES rfl) (pe_glob (v := .ref a_ASSIGNMENT) rfl m_ASSIGNMENT rfl)))
      (pss_one (ps_ret (pe_cal (cal_up0 c_words_at) (hr.mono (by decide)) rfl passL (pa_cons (pv 2) (pa_cons (pe_call X_place_after (hr.mono (by decide)) rfl m_place_after k_place_after b_place_after .nil (passes_call (E := E) (takes_of rfl rfl rfl rfl) (fun _ _ _ _ h => h)) (pa_cons (pv 2) (pa_cons (pe_slice (k_slU (K := K) rfl) (pe_call X_scan (hr.mono (by decide)) rfl m_scan k_scan b_scan .nil (passes_call (E := E) (takes_of rfl rfl rfl rfl) (fun _ _ _ _ h => h)) (pa_cons (pv 0) pa_nil)) po_none (po_some (pe_un un_neg pe_int))) pa_nil))) pa_nil)))))))), run_refT (N := n_next_tokens) (C := CT) (fun ds cw hd hE => ?_) h⟩)
  obtain ⟨z, kd, g, rfl, hg, hb, hr'⟩ := hd
  have gok : GrOk g := by rcases hg with ⟨_, rfl⟩ | ⟨_, rfl⟩; exact .inl rfl; exact .inr rfl
  refine x_drop (x_good (k := .v) (d := .none) (a_cons (d_var rfl) a_nil) ⟨z, rfl, hb, rfl, rfl⟩) ?_
  refine x_okreq (by decide +kernel) (Ev.to (e_inUT (neg := false) (d_var rfl) (d_tup (ds := [.str (Str.ofString "shares"), .str (Str.ofString "assignment")]) (a_consV d_str (a_consV d_str a_nil)) (by simp)) shapedS shapedS2) (y := .bool true) (congrArg PyData.bool (knd_in hg))) ?_
  refine x_asg (d := grD g) (d_if (t_eqSS (d_var rfl) d_str) (fun e => ?_) fun e => ?_) ?_
  · rcases hg with ⟨rfl, rfl⟩ | ⟨rfl, rfl⟩
    · exact e_gT g_SHARES rfl
    · exact absurd e (by decide +kernel)
  · rcases hg with ⟨rfl, rfl⟩ | ⟨rfl, rfl⟩
    · exact absurd e (by decide +kernel)
    · exact e_gT g_ASSIGNMENT rfl
  unfold nxT at hr'
  split at hr'
  · next e hs =>
    cases hr'
    exact x_retE (x_arg2 (d_var rfl) (x_arg2 (d_var rfl) (x_sl (x_refT (a_cons (d_var rfl) a_nil) ⟨z, rfl, hb, hs⟩ hE))))
  · next ts hs =>
    obtain ⟨zl, tl, sc, ok, ne⟩ := scn_all hb hs
    split at hr'
    · next e hpl =>
      cases hr'
      exact x_retE (x_arg2 (d_var rfl) (x_refT (a_cons (d_var rfl) (a_cons (Ev.to (e_slL (ds := ts.map tokD ++ [tokD (endT z)]) (x_good2 (k := .o) (a_cons (d_var rfl) a_nil) ⟨z, ts, rfl, hb, hs, rfl, rfl⟩) o_none (o_some (e_neg d_int)) (by have := fl_toks (ts ++ [endT z]); rwa [List.map_append] at this)) (by rw [show (-(1 : Int)) = -1 from rfl, cutD_last, List.dropLast_concat])) a_nil)) ⟨g, ts, rfl, gok, fun t m => (sc t m).ok, fun t m => (sc t (List.dropLast_subset _ m)).ne, by omega, hpl⟩ hE))
    · cases hr'

theorem ok__law_toldX {P : Program} {w : World} {K : PySem.W.Frag} {mg : Str → Option Value} {base : Heap} {f C CT : Addr} {fd : FuncData} (F : Fun K "_law_told" "_law_told" s__law_told f fd) (T : Txt K mg) (XT : ExcT P w K mg base CT) {fx_read_shares : Addr} {fdx_read_shares : FuncData} (X_read_shares : FnOk P w K mg base (L2.CX P w) 7 fx_read_shares fdx_read_shares p_read_shares (spDT K CT (spDR K C (sp_read_shares K) RcTx) RtRs)) (m_read_shares : mg "read_shares" = some (.ref fx_read_shares)) (k_read_shares : PySem.W.keepIn K (.ref fx_read_shares) = true) (b_read_shares : Binds K fdx_read_shares p_read_shares []) {fx_read_assignment : Addr} {fdx_read_assignment : FuncData} (X_read_assignment : FnOk P w K mg base (L2.CX P w) 7 fx_read_assignment fdx_read_assignment p_read_assignment (spDT K CT (spDR K C (sp_read_assignment K) RcRa) RtRa)) (m_read_assignment : mg "read_assignment" = some (.ref fx_read_assignment)) (k_read_assignment : PySem.W.keepIn K (.ref fx_read_assignment) = true) (b_read_assignment : Binds K fdx_read_assignment p_read_assignment []) :
    FnOk P w K mg base (L2.CX P w) 8 f fd p__law_told (sp__law_told93 K) := by
  refine F.okX sc__law_told (fun vs H Q E h => spD_len (E := E) h (by rintro ds k d ⟨wd, z, v, rfl, _⟩; rfl)) (fun cdv A outer s H vs Q E hr h => ⟨_, (pss_cons (ps_try_as (i := 3) (Wout := fun cls d _ H => E cls d H) rfl rfl sc__law_told.nd rfl rfl ⟨rfl, by decide, .inl XT.hC⟩ (takes_of rfl rfl rfl rfl)
    (fun W pn xe tk po => (pss_one (ps_if (pt_cmpR (k_eq (K := K) rfl (rUnits hr)) (pv 0) pe_str (nomark _)) (pss_one (ps_expr (pe_callS X_read_shares (hr.mono (by decide)) rfl m_read_shares k_read_shares b_read_shares (fun σ => passAt tk σ) (pa_cons (pv 1) pa_nil)))) (pss_one (ps_expr (pe_callS X_read_assignment (hr.mono (by decide)) rfl m_read_assignment k_read_assignment b_read_assignment (fun σ => passAt tk σ) (pa_cons (pv 1) (pa_cons (pv 2) pa_nil))))))))
    (fun a oe cls d pn hz hf => (pss_one (ps_ret (pe_tupN (pa_cons (pe_xf XT.X XT.n1 hz hf (pv 3)) (pa_cons (pe_xf XT.X XT.n2 hz hf (pv 3)) pa_nil))))))) (pss_one (ps_ret pe_non))), ?_⟩)
  obtain ⟨ds, k', d, hb, ⟨wd, z, v, rfl, ht, h1, h5, rfl, rfl⟩, q⟩ := h
  have lv : vs.length = 3 := by rw [hb.len]; rfl
  obtain ⟨x, y, u, rfl⟩ : ∃ x y u, vs = [x, y, u] := match vs, lv with | [x, y, u], _ => ⟨x, y, u, rfl⟩
  have fin : tld wd z v = none → _ := fun hn => run_pure (K := K) (N := n__law_told) (pre := fun ds k d => ds = [.str (Str.ofString wd), .str z, .int (v : Int)] ∧ k = .v ∧ d = .none) (E := E) (vs := [x, y, u]) (H := H) (Q := Q)
    (t := tSeq (fun D σ H => (tIfS (tTest (tOp (rEqA K) (tVar 0) (tC (.str (Str.ofString "shares"))))) (tDrop (tCallS (spDT K CT (spDR K C (sp_read_shares K) RcTx) RtRs) (fun τ cls dd J => wAs K (.ref CT) 3 (fun a cls d => tRet (tTupN (tCons (tXf a cls d CT "column" (tVar 3)) (tCons (tXf a cls d CT "words" (tVar 3)) tNil)))) (fun cls d _ H => E cls d H) D cls dd τ J) (tCons (tVar 1) tNil))) (tDrop (tCallS (spDT K CT (spDR K C (sp_read_assignment K) RcRa) RtRa) (fun τ cls dd J => wAs K (.ref CT) 3 (fun a cls d => tRet (tTupN (tCons (tXf a cls d CT "column" (tVar 3)) (tCons (tXf a cls d CT "words" (tVar 3)) tNil)))) (fun cls d _ H => E cls d H) D cls dd τ J) (tCons (tVar 1) (tCons (tVar 2) tNil))))) D σ H) (tRet (tC .non))) (fun ds k d hp => by
      obtain ⟨rfl, rfl, rfl⟩ := hp
      refine s_seqE (fun Γ1 => Γ1 = argsG [.str (Str.ofString wd), .str z, .int (v : Int)] n__law_told.length) (fun H0 O Hh σ D e s => ?_) (by rintro Γ1 rfl; exact s_ret d_non (.inr ⟨rfl, rfl⟩) (.inl rfl))
      unfold tld at hn
      refine (s_if (a := decide (Str.ofString wd = Str.ofString "shares")) (t_eqSS (d_var rfl) d_str) (fun w => ?_) (fun w => ?_) : Sd (pc K) (tIfS _ _ _) _ _) H0 O Hh σ D e s
      · rw [if_pos (of_decide_eq_true w)] at hn
        cases hs : rdS z with
        | error e => rw [hs] at hn; cases hn
        | ok ps => exact s_drop (d_callS2 (k := .v) (a_cons (d_var rfl) a_nil) ⟨z, ps, rfl, ht, hs, rfl, rfl⟩) ⟨_, rfl, rfl⟩
      · rw [if_neg (of_decide_eq_false w)] at hn
        cases hs : rdA z v with
        | error e => rw [hs] at hn; cases hn
        | ok as => exact s_drop (d_callS2 (k := .v) (a_cons (d_var rfl) (a_cons (d_var rfl) a_nil)) ⟨z, v, as, rfl, ht, h1, h5, hs, rfl, rfl⟩) ⟨_, rfl, rfl⟩) ⟨_, _, _, hb, ⟨rfl, rfl, rfl⟩, by rw [hn] at q; exact q⟩
  cases hn : tld wd z v with
  | none => exact fin hn
  | some cw =>
    rw [hn] at q
    have env := env_args (N := n__law_told) Ji.pc hb
    have done : ∀ (dx : Addr) (H1 : Hp), Same H H1 → ∀ (p : Addr) (H2 : Hp), Same H1 H2 → TpN K H2 p [.int (cw.1 : Int), .str (Str.ofString cw.2)] → Q (.ref p) H2 := fun dx H1 sm p H2 sm2 tp => q _ _ (fun a o w => sm2 a o (sm a o w)) ⟨rfl, .tup tp (.cons (.int _) (.cons (.str _) .nil))⟩
    dsimp only [tSeq]
    unfold tld at hn
    refine (y_if (a := decide (Str.ofString wd = Str.ofString "shares")) (t_eqSS (d_var rfl) d_str) (fun w => ?_) (fun w => ?_) : SdY (pc K) H (start n__law_told [x, y, u]) (tIfS _ _ _) _) [] H _ env
    · rw [if_pos (of_decide_eq_true w)] at hn
      cases hs : rdS z with
      | ok ps => rw [hs] at hn; cases hn
      | error e =>
        rw [hs] at hn
        cases hn
        exact y_dropT (a_cons (d_var rfl) a_nil) ⟨z, rfl, ht, hs⟩ fun dx H1 sm hdx => was_TT XT (id (by decide : (3 : Nat) < 4)) hdx (done dx H1 sm)
    · rw [if_neg (of_decide_eq_false w)] at hn
      cases hs : rdA z v with
      | ok as => rw [hs] at hn; cases hn
      | error e =>
        rw [hs] at hn
        cases hn
        exact y_dropT (a_cons (d_var rfl) (a_cons (d_var rfl) a_nil)) ⟨z, v, rfl, ht, h1, h5, hs⟩ fun dx H1 sm hdx => was_TT XT (id (by decide : (3 : Nat) < 4)) hdx (done dx H1 sm)

theorem ok__law_refusedX {P : Program} {w : World} {K : PySem.W.Frag} {mg : Str → Option Value} {base : Heap} {f C CT : Addr} {fd : FuncData} (F : Fun K "_law_refused" "_law_refused" s__law_refused f fd) (T : Txt K mg) (X : Exc1 P w K mg base "BadValue" "name" C) {fx_next_tokens : Addr} {fdx_next_tokens : FuncData} (X_next_tokens : FnOk P w K mg base (L2.CX P w) 7 fx_next_tokens fdx_next_tokens p_next_tokens (spDT K CT (spDR K C (sp_next_tokens K) RcNx) RtNx)) (m_next_tokens : mg "next_tokens" = some (.ref fx_next_tokens)) (k_next_tokens : PySem.W.keepIn K (.ref fx_next_tokens) = true) (b_next_tokens : Binds K fdx_next_tokens p_next_tokens []) {fx_read_assignment : Addr} {fdx_read_assignment : FuncData} (X_read_assignment : FnOk P w K mg base (L2.CX P w) 7 fx_read_assignment fdx_read_assignment p_read_assignment (spDT K CT (spDR K C (sp_read_assignment K) RcRa) RtRa)) (m_read_assignment : mg "read_assignment" = some (.ref fx_read_assignment)) (k_read_assignment : PySem.W.keepIn K (.ref fx_read_assignment) = true) (b_read_assignment : Binds K fdx_read_assignment p_read_assignment []) {fx_read_shares : Addr} {fdx_read_shares : FuncData} (X_read_shares : FnOk P w K mg base (L2.CX P w) 7 fx_read_shares fdx_read_shares p_read_shares (spDT K CT (spDR K C (sp_read_shares K) RcTx) RtRs)) (m_read_shares : mg "read_shares" = some (.ref fx_read_shares)) (k_read_shares : PySem.W.keepIn K (.ref fx_read_shares) = true) (b_read_shares : Binds K fdx_read_shares p_read_shares []) :
    FnOk P w K mg base (L2.CX P w) 8 f fd p__law_refused (sp__law_refused93 K) := by
  refine F.okX sc__law_refused (fun vs H Q E h => spD_len (E := E) h (by rintro ds k d ⟨n, x, y, nm, rfl, _⟩; rfl)) (fun cdv A outer s H vs Q E hr h => ⟨_, (pss_cons (ps_try_as (i := 3) (Wout := fun cls d _ H => E cls d H) rfl rfl sc__law_refused.nd rfl rfl ⟨rfl, by decide, .inl X.hC⟩ (takes_of rfl rfl rfl rfl)
    (fun W pn xe tk po => (pss_one (ps_if (pt_cmpR (k_eq (K := K) rfl (rUnits hr)) (pv 0) pe_int (nomark _)) (pss_one (ps_expr (pe_callS X_next_tokens (hr.mono (by decide)) rfl m_next_tokens k_next_tokens b_next_tokens (fun σ => passAt tk σ) (pa_cons (pv 1) (pa_cons (pv 2) pa_nil))))) (pss_one (ps_if (pt_cmpR (k_eq (K := K) rfl (rUnits hr)) (pv 0) pe_int (nomark _)) (pss_one (ps_expr (pe_callS X_read_assignment (hr.mono (by decide)) rfl m_read_assignment k_read_assignment b_read_assignment (fun σ => passAt tk σ) (pa_cons (pv 1) (pa_cons (pv 2) pa_nil))))) (pss_one (ps_expr (pe_callS X_read_shares (hr.mono (by decide)) rfl m_read_shares k_read_shares b_read_shares (fun σ => passAt tk σ) (pa_cons (pv 1) pa_nil)))))))))
    (fun a oe cls d pn hz hf => (pss_one (ps_ret (pe_xf X.X X.no hz hf (pv 3)))))) (pss_one (ps_ret pe_non))), ?_⟩)
  obtain ⟨ds, k', d, hb, ⟨n, x, y, nm, rfl, hc, rfl, rfl⟩, q⟩ := h
  have lv : vs.length = 3 := by rw [hb.len]; rfl
  obtain ⟨v1, v2, v3, rfl⟩ : ∃ v1 v2 v3, vs = [v1, v2, v3] := match vs, lv with | [a, b, c], _ => ⟨a, b, c, rfl⟩
  have env := env_args (N := n__law_refused) Ji.pc hb
  have done : ∀ (dx : Addr) (H1 : Hp), Same H H1 → Q (.str nm) H1 := fun dx H1 sm => q _ _ sm ⟨rfl, .str _⟩
  dsimp only [tSeq]
  rcases hc with ⟨rfl, hR⟩ | ⟨rfl, hR⟩ | ⟨rfl, hR⟩
  · refine (y_yes (EvT.to (t_test (e_eqI (i := ((0 : Nat) : Int)) (d_var rfl) d_int)) rfl) ?_ : SdY (pc K) H (start n__law_refused [v1, v2, v3]) (tIfS _ _ _) _) [] H _ env
    exact y_drop2 (a_cons (d_var rfl) (a_cons (d_var rfl) a_nil)) hR fun dx H1 sm hdx => was_name X (id (by decide : (3 : Nat) < 4)) hdx (done dx H1 sm)
  · refine (y_no (EvT.to (t_test (e_eqI (i := ((1 : Nat) : Int)) (d_var rfl) d_int)) rfl) ?_ : SdY (pc K) H (start n__law_refused [v1, v2, v3]) (tIfS _ _ _) _) [] H _ env
    refine y_yes (EvT.to (t_test (e_eqI (i := ((1 : Nat) : Int)) (d_var rfl) d_int)) rfl) ?_
    exact y_drop2 (a_cons (d_var rfl) (a_cons (d_var rfl) a_nil)) hR fun dx H1 sm hdx => was_name X (id (by decide : (3 : Nat) < 4)) hdx (done dx H1 sm)
  · refine (y_no (EvT.to (t_test (e_eqI (i := ((2 : Nat) : Int)) (d_var rfl) d_int)) rfl) ?_ : SdY (pc K) H (start n__law_refused [v1, v2, v3]) (tIfS _ _ _) _) [] H _ env
    refine y_no (EvT.to (t_test (e_eqI (i := ((2 : Nat) : Int)) (d_var rfl) d_int)) rfl) ?_
    exact y_drop2 (a_cons (d_var rfl) a_nil) hR fun dx H1 sm hdx => was_name X (id (by decide : (3 : Nat) < 4)) hdx (done dx H1 sm)

end W

namespace W
open PySem PySem.Spec PyProof.Rows L2 Lm CwR
theorem ok_law {P : Program} {w : World} {K : PySem.W.Frag} {mg : Str → Option Value} {base : Heap} {f : Addr} {fd : FuncData} (F : Fun K "law" "law" s_law f fd) (T : Txt K mg) (c__law_stream : Cal P w K mg base CX0 1 "_law_stream" p__law_stream (sp__law_stream K)) (c__law_pick : Cal P w K mg base CX0 2 "_law_pick" p__law_pick (sp__law_pick K)) (c__law_next : Cal P w K mg base CX0 1 "_law_next" p__law_next (sp__law_next K)) (c__law_equal : Cal P w K mg base CX0 10 "_law_equal" p__law_equal (sp__law_equal K)) (c__law_refused : Cal P w K mg base CX0 8 "_law_refused" p__law_refused (sp__law_refused93 K)) (c__law_share_rows : Cal P w K mg base CX0 1 "_law_share_rows" p__law_share_rows (sp__law_share_rows K)) (c__law_run_rows : Cal P w K mg base CX0 1 "_law_run_rows" p__law_run_rows (sp__law_run_rows K)) (c__law_told : Cal P w K mg base CX0 8 "_law_told" p__law_told (sp__law_told93 K)) :
    FnOk P w K mg base CX0 11 f fd p_law (spLaw K) := by
  refine F.ok sc_law (fun vs H Q E h => by obtain ⟨a, ns, rfl, _⟩ := h; rfl) (fun cdv A outer s H vs Q E hr h => ⟨_, (pss_cons (ps_set (i := 1) sc_law.nd rfl (Or.inl rfl) (pe_cal c__law_stream (hr.mono (by decide)) rfl pass0 (pa_cons (pv 0) pa_nil)))
      (pss_consK (ps_kbin (i := 2) sc_law.nd rfl (Or.inl rfl) op_mulT (pe_op (k_add (K := K) rfl) pe_int (pe_cal c__law_next (hr.mono (by decide)) rfl pass0 (pa_cons (pv 1) (pa_cons pe_int pa_nil)))))
      (qsst_cons (qst_of (ps_set (i := 3) sc_law.nd rfl (Or.inl rfl) (pe_cal c__law_pick (hr.mono (by decide)) rfl pass0 (pa_cons (pv 1) (pa_cons (pe_lst (pa_cons pe_str (pa_cons pe_str pa_nil))) pa_nil)))))
      (qsst_cons (qst_of (ps_asg (pe_cal c__law_pick (hr.mono (by decide)) rfl pass0 (pa_cons (pv 1) (pa_cons (pe_ifExp (pt_cmpR (k_eq (K := K) rfl (rUnits hr)) (pv 3) pe_str (nomark _)) (pe_cal0 c__law_share_rows (hr.mono (by decide)) rfl pass0) (pe_cal0 c__law_run_rows (hr.mono (by decide)) rfl pass0)) pa_nil))) (k_tupA (K := K) (n := 2) rfl rfl (pgs_cons (pg_name (i := 4) sc_law.nd rfl (Or.inl rfl)) (pgs_cons (pg_name (i := 5) sc_law.nd rfl (Or.inl rfl)) pgs_nil)))))
      (qsst_cons (qst_of (ps_set (i := 6) sc_law.nd rfl (Or.inr rfl) (pe_op (k_add (K := K) rfl) pe_int (pe_cal c__law_next (hr.mono (by decide)) rfl pass0 (pa_cons (pv 1) (pa_cons pe_int pa_nil))))))
      (qsst_cons (qst_set (i := 4) sc_law.nd rfl (Or.inl rfl) (qet_op (k_addU (K := K) rfl) (qet_op (k_addU (K := K) rfl) (qet_of (pv 2)) (qet_replI (pv 4) (pv 6) rfl T.b_str)) (qet_of (pe_op op_mulT pe_str (pe_cal c__law_next (hr.mono (by decide)) rfl pass0 (pa_cons (pv 1) (pa_cons pe_int pa_nil)))))))
      (qsst_cons (qst_set (i := 7) sc_law.nd rfl (Or.inl rfl) (qet_replC (pv 4) (by decide +kernel)))
      (qsst_cons (qst_of (ps_set (i := 8) sc_law.nd rfl (Or.inl rfl) (pe_ifExp (pt_cmpR (k_eq (K := K) rfl (rUnits hr)) (pe_ix (k_ix (K := K) rfl) (pe_strip (pv 4)) (pe_un un_neg pe_int) (fun _ _ => rfl)) pe_str (nomark _)) (pe_op (k_add (K := K) rfl) (pe_callB (k_lenU (K := K) rfl) rfl T.b_len (by decide +kernel) (pa_cons (pv 7) pa_nil)) pe_int) (pe_op (k_add (K := K) rfl) (pe_sm PySem.F.slot_str_index PySem.F.type_str_index mt_ixS (pv 4) (pa_cons pe_str pa_nil)) pe_int))))
      (qsst_cons (qst_of (ps_if (pt_not (pt_val (pe_cal c__law_equal (hr.mono (by decide)) rfl pass0 (pa_cons (pe_cal c__law_told (hr.mono (by decide)) rfl pass0 (pa_cons (pv 3) (pa_cons (pv 7) (pa_cons (pv 6) pa_nil)))) (pa_cons (pe_tupN (pa_cons (pv 8) (pa_cons (pv 5) pa_nil))) pa_nil))))) (pss_one (ps_ret pe_bl)) pss_nil))
      (qsst_cons (qst_of (ps_set (i := 9) sc_law.nd rfl (Or.inl rfl) (pe_lst (pa_cons (pe_tupN (pa_cons pe_str (pa_cons pe_str pa_nil))) (pa_cons (pe_tupN (pa_cons pe_str (pa_cons pe_str pa_nil))) (pa_cons (pe_tupN (pa_cons pe_str (pa_cons pe_str pa_nil))) (pa_cons (pe_tupN (pa_cons pe_str (pa_cons pe_str pa_nil))) (pa_cons (pe_tupN (pa_cons pe_str (pa_cons pe_str pa_nil))) (pa_cons (pe_tupN (pa_cons pe_str (pa_cons pe_str pa_nil))) (pa_cons (pe_tupN (pa_cons pe_str (pa_cons pe_str pa_nil))) pa_nil))))))))))
      (qsst_cons (qst_of (ps_if (pt_cmpR (k_ne (K := K) rfl (rUnits hr)) (pe_lc rfl sc_law.nd (k_seq (K := K) rfl (pv 9)) (blkOk_by (own := [("kind", 10), ("text", 7)]) (N := n_law) (sc := defScope s_law) (by decide +kernel)) (fun _ _ _ _ _ => by exact (k_tup (K := K) (n := 2) rfl rfl (pgs_cons (pg_name (i := 10) sc_law.nd rfl (Or.inl rfl)) (pgs_cons (pg_name (i := 7) sc_law.nd rfl (Or.inl rfl)) pgs_nil)))) (fun _ _ _ _ _ => by exact pts_nil) (fun _ _ _ _ _ => by exact (pe_cal c__law_told (hr.mono (by decide)) rfl pass0 (pa_cons (pv 10) (pa_cons (pv 7) (pa_cons (pv 6) pa_nil)))))) (pe_op op_mulA (pe_lst (pa_cons pe_non pa_nil)) pe_int) (nomark _)) (pss_one (ps_ret pe_bl)) pss_nil))
      (qsst_cons (qst_of (ps_set (i := 11) sc_law.nd rfl (Or.inl rfl) (pe_cal c__law_pick (hr.mono (by decide)) rfl pass0 (pa_cons (pv 1) (pa_cons (pe_lst (pa_cons pe_non (pa_cons (pe_op op_mulT pe_str pe_int) (pa_cons pe_str (pa_cons (pe_lst (pa_cons pe_str pa_nil)) pa_nil))))) pa_nil)))))
      (qsst_cons (qst_of (ps_set (i := 12) sc_law.nd rfl (Or.inl rfl) (pe_cal c__law_pick (hr.mono (by decide)) rfl pass0 (pa_cons (pv 1) (pa_cons (pe_lst (pa_cons pe_non (pa_cons pe_int (pa_cons pe_int (pa_cons pe_str (pa_cons pe_bl (pa_cons (pe_lst (pa_cons pe_str pa_nil)) pa_nil))))))) pa_nil)))))
      (qsst_cons (qst_of (ps_set (i := 13) sc_law.nd rfl (Or.inl rfl) (pe_lst (pa_cons (pe_cal c__law_refused (hr.mono (by decide)) rfl pass0 (pa_cons pe_int (pa_cons (pv 11) (pa_cons (pv 12) pa_nil)))) (pa_cons (pe_cal c__law_refused (hr.mono (by decide)) rfl pass0 (pa_cons pe_int (pa_cons (pv 11) (pa_cons (pv 12) pa_nil)))) (pa_cons (pe_cal c__law_refused (hr.mono (by decide)) rfl pass0 (pa_cons pe_int (pa_cons (pv 11) (pa_cons (pv 12) pa_nil)))) (pa_cons (pe_cal c__law_refused (hr.mono (by decide)) rfl pass0 (pa_cons pe_int (pa_cons pe_str (pa_cons (pv 12) pa_nil)))) (pa_cons (pe_cal c__law_refused (hr.mono (by decide)) rfl pass0 (pa_cons pe_int (pa_cons pe_str (pa_cons (pv 12) pa_nil)))) pa_nil))))))))
      (qsst_one (qst_of (ps_ret (pe_cmpR (k_eq (K := K) rfl (rUnits hr)) (pv 13) (pe_lst (pa_cons pe_str (pa_cons pe_str (pa_cons pe_str (pa_cons pe_str (pa_cons pe_str pa_nil)))))) (nomark _))))))))))))))))))), run_law (N := n_law) (by decide) (fun st l => ?_) h⟩)
  have drw : ∀ {Γ : List (Option Rs)} (m : Int), 0 < m → m < 1073741824 → Γ[1]? = some (some (.r (.ref st))) → EvN (sc K st l) (tCall (sp__law_next K) [] E0 (tCons (tVar 1) (tCons (tC (.int m)) tNil))) Γ .v (SomeI fun i => 0 ≤ i ∧ i < m) := fun m m0 m1 h => n_call (st := st) (l := l) rfl h (a_cons d_int a_nil) ⟨m, rfl, m0, m1, rfl, rfl⟩
  have blk : ∀ {Γ : List (Option Rs)} {te : TE} (lo hi : Nat), hi ≤ 10 → EvN (sc K st l) te Γ .v (SomeI fun n => (lo : Int) ≤ n ∧ n ≤ (hi : Int)) → EvN (sc K st l) (tOp rMulT (tC (.str (Str.ofString " "))) te) Γ .v (fun d => ∃ s, d = .str s ∧ ∃ b : Nat, (lo ≤ b ∧ b ≤ hi) ∧ s = strN (List.replicate b 32)) := fun lo hi h10 h => n_mulS (s := ⟨#[32]⟩) d_str h fun n hn => by
    obtain ⟨b, rfl⟩ := Int.eq_ofNat_of_zero_le (show 0 ≤ n by omega)
    exact ⟨by omega, by omega, by decide, b, ⟨by omega, by omega⟩, mul_one 32 b⟩
  have one : ∀ {Γ : List (Option Rs)} (j m : Int), 0 < m → m < 1073741824 → Γ[1]? = some (some (.r (.ref st))) → EvN (sc K st l) (tOp (rAddA K) (tC (.int j)) (tCall (sp__law_next K) [] E0 (tCons (tVar 1) (tCons (tC (.int m)) tNil)))) Γ .v (SomeI fun i => j ≤ i ∧ i ≤ j + m - 1) := fun j m m0 m1 h => n_add (Qa := fun a => a = j) (d_int.sm (Q := fun a => a = j) rfl) (drw m m0 m1 h) fun a b h1 h2 => by omega
  refine q_asgN (fun d => ∃ s, d = .str s ∧ ∃ b : Nat, (1 ≤ b ∧ b ≤ 3) ∧ s = strN (List.replicate b 32)) (blk 1 3 (by decide) ((one 1 3 (by decide) (by decide) rfl).imp fun d hd => by
    obtain ⟨i, rfl, h⟩ := hd
    exact ⟨i, rfl, by omega⟩)) ?_
  rintro _ ⟨_, rfl, b, hb, rfl⟩
  refine q_asgN (fun d => ∃ wd : String, (wd = "shares" ∨ wd = "assignment") ∧ d = .str (Str.ofString wd)) ((n_pickN (st := st) (l := l) (Pd := fun ds => ds = [PyData.str (Str.ofString "shares"), .str (Str.ofString "assignment")]) rfl rfl ((Ev.n (e_lstV (ds := [PyData.str (Str.ofString "shares"), .str (Str.ofString "assignment")]) (a_consV d_str (a_consV d_str a_nil)) (by simp))).imp fun d hd => ⟨_, hd, rfl⟩) (fun ds hd => by rw [hd]; exact ⟨by simp, by simp⟩)).imp fun d hd => ?_) ?_
  · obtain ⟨_, rfl, hd⟩ := hd
    simp only [List.mem_cons, List.not_mem_nil, or_false] at hd
    rcases hd with rfl | rfl
    · exact ⟨_, .inl rfl, rfl⟩
    · exact ⟨_, .inr rfl, rfl⟩
  rintro _ ⟨wd, hw, rfl⟩
  have rl : 0 < ((rowsT wd).map prS).length ∧ ((rowsT wd).map prS).length ≤ 1000 := by rcases hw with rfl | rfl <;> decide
  refine q_unp (fun d => ∃ p, p ∈ rowsT wd ∧ d = prS p) ((n_pickN (st := st) (l := l) (Pd := fun ds => ds = (rowsT wd).map prS) rfl rfl ((Ev.n (Ev.frz (d_if (k := .o) (d := .list ((rowsT wd).map prS)) (t_eqSS (d_var rfl) d_str) (fun e => ?_) (fun e => ?_)))).imp fun d hd => ⟨_, hd, rfl⟩) (fun ds hd => by rw [hd]; exact rl)).imp fun d hd => ?_) ?_
  · obtain rfl : wd = "shares" := by
      rcases hw with rfl | rfl
      · rfl
      · exact absurd e (by decide +kernel)
    exact d_call (k := .o) a_nil ⟨rfl, rfl, rfl⟩
  · obtain rfl : wd = "assignment" := by
      rcases hw with rfl | rfl
      · exact absurd e (by decide +kernel)
      · rfl
    exact d_call (k := .o) a_nil ⟨rfl, rfl, rfl⟩
  · obtain ⟨_, rfl, hd⟩ := hd
    obtain ⟨p, hp, rfl⟩ := List.mem_map.mp hd
    exact ⟨p, hp, rfl⟩
  rintro _ ⟨p, hp, rfl⟩
  refine ⟨_, _, _, .inl rfl, rfl, rfl, g_cons g_name (g_cons g_name g_nil), ?_⟩
  refine q_asgN (SomeI fun i => (2 : Int) ≤ i ∧ i ≤ 2 + 4 - 1) (one 2 4 (by decide) (by decide) rfl) ?_
  rintro _ ⟨i, rfl, i2, i5⟩
  obtain ⟨v, rfl⟩ := Int.eq_ofNat_of_zero_le (show 0 ≤ i by omega)
  have v25 : v = 2 ∨ v = 3 ∨ v = 4 ∨ v = 5 := by omega
  have rs := rows_short wd (by rcases hw with rfl | rfl <;> simp) p hp
  have nl : (toString (v : Int) : Str).length = 1 := by rcases v25 with rfl | rfl | rfl | rfl <;> decide +kernel
  have nh : ((Str.ofString "#") == (toString (v : Int) : Str)) = false := by rcases v25 with rfl | rfl | rfl | rfl <;> decide +kernel
  have rpl : (Txt.replace (Str.ofString p.1) (Str.ofString "#") (toString (v : Int) : Str)).length ≤ 1000 := by
    have c0 := chkE_all hw hp hb (t := 0) (by omega) (v := v) (by omega)
    unfold chkE at c0
    dsimp only at c0
    rw [Bool.and_eq_true, decide_eq_true_eq] at c0
    have c1 := c0.1
    unfold rowE at c1
    rw [PySem.Str.length_append, PySem.Str.length_append] at c1
    omega
  refine q_asgN (fun d => ∃ t : Nat, t ≤ 2 ∧ d = .str (rowE p.1 b t v)) ((n_addS (Qa := fun s => s = strN (List.replicate b 32) ++ Txt.replace (Str.ofString p.1) (Str.ofString "#") (toString (v : Int) : Str)) (Q := fun s => ∃ t : Nat, t ≤ 2 ∧ s = rowE p.1 b t v) ((Ev.n (e_addS (a := strN (List.replicate b 32)) (d_var rfl) (e_replI (x := Str.ofString p.1) (d_var rfl) (d_var rfl) (by omega) (by omega) nh (by rw [nl]; omega)) (by rw [strN_len, List.length_replicate]; omega))).imp fun d hd => ⟨_, hd, rfl⟩) (blk 0 2 (by decide) ((drw 3 (by decide) (by decide) rfl).imp fun d hd => by
    obtain ⟨i, rfl, h⟩ := hd
    exact ⟨i, rfl, by omega⟩)) (fun s t hs ht => ?_)).imp fun d hd => ?_) ?_
  · obtain ⟨t, ht, rfl⟩ := ht
    subst hs
    exact ⟨by rw [PySem.Str.length_append, strN_len, strN_len, List.length_replicate, List.length_replicate]; omega, t, ht.2, rfl⟩
  · obtain ⟨_, rfl, t, ht, rfl⟩ := hd
    exact ⟨t, ht, rfl⟩
  rintro _ ⟨t, ht, rfl⟩
  have chk := chkE_all hw hp hb ht (v := v) (by omega)
  obtain ⟨r, er⟩ : ∃ r, r = rowE p.1 b t v := ⟨_, rfl⟩
  unfold chkE at chk
  rw [← er] at chk ⊢
  dsimp only at chk
  rw [Bool.and_eq_true, Bool.and_eq_true, Bool.and_eq_true, decide_eq_true_eq, decide_eq_true_eq] at chk
  obtain ⟨r200, s200, tb, chk⟩ := chk
  have z0 : (Str.ofString "").length = 0 := by decide +kernel
  have tl : (txtE r).length ≤ 400 := by
    unfold txtB at tb
    rw [Bool.and_eq_true, decide_eq_true_eq] at tb
    exact tb.1
  refine q_asg (d := .str (txtE r)) (e_replC (d_var rfl) (by rw [z0]; omega)) ?_
  obtain ⟨ch, hch⟩ : ∃ ch, atI (Txt.strip r).cps.toList (-1) = some ch := by
    cases h : atI (Txt.strip r).cps.toList (-1) with
    | none => unfold kolE at chk; rw [h] at chk; cases chk
    | some ch => exact ⟨ch, rfl⟩
  obtain ⟨cn, hcn, htl⟩ : ∃ cn, kolE r = some cn ∧ tld wd (txtE r) v = some (cn, p.2) := by
    split at chk
    · cases chk
    · next cn hc => exact ⟨cn, hc, of_decide_eq_true chk⟩
  have sl : (Txt.strip r).length ≤ 100000 := by omega
  refine q_asg (d := .int (cn : Int)) (d_if (a := decide (ch = 64)) (EvT.to (t_eqSS (a := ⟨#[ch]⟩) (e_ixS (e_strip (d_var rfl) (by omega)) (e_neg d_int) sl hch) d_str) (sign_64 ch)) (fun e => ?_) (fun e => ?_)) ?_
  · have e := of_decide_eq_true e
    unfold kolE at hcn
    rw [hch] at hcn
    dsimp only at hcn
    rw [if_pos e] at hcn
    cases hcn
    exact Ev.to (e_add (e_lenS (d_var rfl) (by omega)) d_int) rfl
  · have e := of_decide_eq_false e
    unfold kolE at hcn
    rw [hch] at hcn
    dsimp only at hcn
    rw [if_neg e] at hcn
    split at hcn
    · cases hcn
    · next i2 l2 ho =>
      cases hcn
      exact Ev.to (e_add (e_ixOfS (d_var rfl) d_str ho) d_int) rfl
  have eq1 : EqOk 7 (.tuple [.int (cn : Int), .str (Str.ofString p.2)]) := .tup (by simp) fun x hx => by
    simp only [List.mem_cons, List.not_mem_nil, or_false] at hx
    rcases hx with rfl | rfl
    · exact .int _
    · exact .str _
  refine q_no (EvT.to (t_not (t_B (d_call (E := E0) (k := .v) (d := .bool true) (a_cons (d_call (k := .v) (d := .tuple [.int (cn : Int), .str (Str.ofString p.2)]) (a_cons (d_var rfl) (a_cons (d_var rfl) (a_cons (d_var rfl) a_nil))) ⟨wd, txtE r, v, rfl, tb, by omega, by omega, rfl, by rw [htl]; rfl⟩) (a_cons (d_tup (a_consV (d_var rfl) (a_consV (d_var rfl) a_nil)) (by simp)) a_nil)) ⟨_, rfl, eq1, rfl, rfl⟩))) rfl) ?_
  have pr : ∀ {Γ : List (Option Rs)} (a b : String), Ev (sc K st l) (tTupN (tCons (tC (.str (Str.ofString a))) (tCons (tC (.str (Str.ofString b))) tNil))) Γ .v (prS (a, b)) := fun a b => d_tup (a_consV d_str (a_consV d_str a_nil)) (by simp)
  refine q_asgO (d := .list (fineL.map prS)) (d_lst (kv := false) (ds := fineL.map prS) (a_cons (pr _ _) (a_cons (pr _ _) (a_cons (pr _ _) (a_cons (pr _ _) (a_cons (pr _ _) (a_cons (pr _ _) (a_cons (pr _ _) a_nil))))))) rfl (by decide)) ?_
  have seven : ∀ {Γ : List (Option Rs)} {te : TE}, Ev (sc K st l) te Γ .o (.list (fineL.map fun _ => PyData.none)) → EvT (sc K st l) (tTest (tOp (rNeA K) te (tOp rMulA (tLst (tCons (tC .non) tNil)) (tC (.int 7))))) Γ false := fun h => EvT.to (t_test (e_neD h (e_rep (d_lst (kv := false) (ds := [.none]) (a_cons d_non a_nil) rfl (by decide)) rfl d_int (by decide) (by decide) (by decide)) (by decide +kernel) (by decide +kernel))) (by decide +kernel)
  refine q_no (seven (d_lcA (l := fineL) (en := fun p => Im.d (prS p)) (fun _ => PyData.none) (i_seqB' (d_varO rfl) rfl (by rw [List.map_map]; rfl)) (by decide) fun q hq => ⟨_, _, g_tupD rfl (g_cons g_name (g_cons g_name g_nil)), fun j hj => hj, (d_call (k := .v) (d := .none) (a_cons (d_var rfl) (a_cons (d_var rfl) (a_cons (d_var rfl) a_nil))) ⟨q.1, Str.ofString q.2, v, rfl, (fine_ok q hq).1, by omega, by omega, rfl, by rw [(fine_ok q hq).2 v (by simp; omega)]; rfl⟩).fo rfl⟩)) ?_
  refine q_asgN (fun d => (∀ z : Str, d = .str z → z.length ≤ 100000) ∧ txtB d = false) ((n_pickN (st := st) (l := l) (Pd := fun ds => ds = [PyData.none, .str (Txt.mul ⟨#[97]⟩ 401), .str (Str.ofString "a\n"), .list [.str (Str.ofString "a")]]) rfl rfl ((Ev.n (e_lstV (ds := [PyData.none, .str (Txt.mul ⟨#[97]⟩ 401), .str (Str.ofString "a\n"), .list [.str (Str.ofString "a")]]) (a_consV d_non (a_consV (e_mulS d_str d_int (by decide) (by decide) (by decide)) (a_consV d_str (a_consV (e_lstV (a_consV d_str a_nil) (by simp)) a_nil)))) (by simp))).imp fun d hd => ⟨_, hd, rfl⟩) (fun ds hd => by rw [hd]; exact ⟨by simp, by simp⟩)).imp fun d hd => ?_) ?_
  · obtain ⟨_, rfl, hd⟩ := hd
    simp only [List.mem_cons, List.not_mem_nil, or_false] at hd
    rcases hd with rfl | rfl | rfl | rfl
    · exact ⟨fun z w => (by cases w), rfl⟩
    · exact ⟨fun z w => by cases w; decide +kernel, by decide +kernel⟩
    · exact ⟨fun z w => by cases w; decide +kernel, by decide +kernel⟩
    · exact ⟨fun z w => (by cases w), rfl⟩
  rintro bad ⟨bl, bt⟩
  refine q_asgN (fun d => SeqAt.shaped d = true ∧ kndB d = false ∧ isIntD d 1 5 = false) ((n_pickN (st := st) (l := l) (Pd := fun ds => ds = [PyData.none, .int 0, .int 6, .str (Str.ofString "share"), .bool true, .list [.str (Str.ofString "shares")]]) rfl rfl ((Ev.n (e_lstV (ds := [PyData.none, .int 0, .int 6, .str (Str.ofString "share"), .bool true, .list [.str (Str.ofString "shares")]]) (a_consV d_non (a_consV d_int (a_consV d_int (a_consV d_str (a_consV d_bl (a_consV (e_lstV (a_consV d_str a_nil) (by simp)) a_nil)))))) (by simp))).imp fun d hd => ⟨_, hd, rfl⟩) (fun ds hd => by rw [hd]; exact ⟨by simp, by simp⟩)).imp fun d hd => ?_) ?_
  · obtain ⟨_, rfl, hd⟩ := hd
    simp only [List.mem_cons, List.not_mem_nil, or_false] at hd
    rcases hd with rfl | rfl | rfl | rfl | rfl | rfl <;> exact ⟨by decide +kernel, by decide +kernel, by decide +kernel⟩
  rintro oth ⟨os, ok, oi⟩
  have aA : txtB (.str (Str.ofString "a A")) = true := by decide +kernel
  have aL : ∀ z : Str, PyData.str (Str.ofString "a A") = .str z → z.length ≤ 100000 := fun z w => by cases w; decide +kernel
  have rf : ∀ {Γ : List (Option Rs)} {te tf : TE} {x y : PyData} {k1 k2 : Kd} (n : Nat) (nm : Str), Ev (sc K st l) te Γ k1 x → Ev (sc K st l) tf Γ k2 y → ((n = 0 ∧ RcNx [x, y] nm) ∨ (n = 1 ∧ RcRa [x, y] nm) ∨ (n = 2 ∧ RcTx [x] nm)) → Ev (sc K st l) (tCall (sp__law_refused93 K) [] E0 (tCons (tC (.int (n : Int))) (tCons te (tCons tf tNil)))) Γ .v (.str nm) := fun n nm h1 h2 h3 => d_call (k := .v) (d := .str nm) (a_cons d_int (a_cons h1 (a_cons h2 a_nil))) ⟨n, _, _, nm, rfl, h3, rfl, rfl⟩
  refine q_asgO (d := .list [.str (Str.ofString "text"), .str (Str.ofString "text"), .str (Str.ofString "text"), .str (Str.ofString "kind"), .str (Str.ofString "variants")]) (d_lst (kv := false) (a_cons (rf 0 _ (d_var rfl) (d_var rfl) (.inl ⟨rfl, bad, oth, rfl, bl, os, .inl ⟨bt, rfl⟩⟩)) (a_cons (rf 1 _ (d_var rfl) (d_var rfl) (.inr (.inl ⟨rfl, bad, oth, rfl, bl, .inl ⟨bt, rfl⟩⟩))) (a_cons (rf 2 _ (d_var rfl) (d_var rfl) (.inr (.inr ⟨rfl, bad, rfl, bl, bt, rfl⟩))) (a_cons (rf 0 _ d_str (d_var rfl) (.inl ⟨rfl, _, oth, rfl, aL, os, .inr ⟨aA, ok, rfl⟩⟩)) (a_cons (rf 1 _ d_str (d_var rfl) (.inr (.inl ⟨rfl, _, oth, rfl, aL, .inr ⟨aA, oi, rfl⟩⟩))) a_nil))))) rfl (by decide)) ?_
  exact s_ret (Ev.to (e_eqD (d_varO rfl) (d_lst (kv := false) (ds := [.str (Str.ofString "text"), .str (Str.ofString "text"), .str (Str.ofString "text"), .str (Str.ofString "kind"), .str (Str.ofString "variants")]) (a_cons d_str (a_cons d_str (a_cons d_str (a_cons d_str (a_cons d_str a_nil))))) rfl (by decide)) (by decide +kernel) (by decide +kernel)) (congrArg PyData.bool (by decide +kernel))) (.inr ⟨rfl, rfl⟩) rfl

end W

namespace W
open PySem PySem.Spec PyProof.Rows L2 Lm CwR
theorem all_mk {l : PySem.W.OpenLaw} {w : World} {K : PySem.W.Frag} {h : Heap} {mg : Str → Option Value} {fa : Addr} (X : K.In h) (G : h.Ns mainGlobals mg) (hfa : mg "law" = some (.ref fa))
    {od_is_integer an_is_integer : Option Addr} {sl_is_integer : Array (Option Value)} {oc_is_integer kV_is_integer dc_is_integer pm_is_integer cd_is_integer ct_is_integer : Value} {f_is_integer : Addr}
    (a_is_integer : PySem.W.nsIn K mainGlobals "is_integer" = some (some (.ref f_is_integer))) (l_is_integer : K.lookup f_is_integer = some ⟨oc_is_integer, od_is_integer, .func (PySem.W.fnOf "is_integer" "is_integer" (defArgs s_is_integer) (defBody s_is_integer) (defScope s_is_integer) .none kV_is_integer dc_is_integer pm_is_integer an_is_integer cd_is_integer ct_is_integer), sl_is_integer⟩) (o_is_integer : PySem.W.codeIn K cd_is_integer "is_integer" = true) (k_is_integer : PySem.W.keepIn K (.ref f_is_integer) = true)
    {od_require an_require : Option Addr} {sl_require : Array (Option Value)} {oc_require kV_require dc_require pm_require cd_require ct_require : Value} {f_require : Addr}
    (a_require : PySem.W.nsIn K mainGlobals "require" = some (some (.ref f_require))) (l_require : K.lookup f_require = some ⟨oc_require, od_require, .func (PySem.W.fnOf "require" "require" (defArgs s_require) (defBody s_require) (defScope s_require) .none kV_require dc_require pm_require an_require cd_require ct_require), sl_require⟩) (o_require : PySem.W.codeIn K cd_require "require" = true) (k_require : PySem.W.keepIn K (.ref f_require) = true)
    {od_check_variants an_check_variants : Option Addr} {sl_check_variants : Array (Option Value)} {oc_check_variants kV_check_variants dc_check_variants pm_check_variants cd_check_variants ct_check_variants : Value} {f_check_variants : Addr}
    (a_check_variants : PySem.W.nsIn K mainGlobals "check_variants" = some (some (.ref f_check_variants))) (l_check_variants : K.lookup f_check_variants = some ⟨oc_check_variants, od_check_variants, .func (PySem.W.fnOf "check_variants" "check_variants" (defArgs s_check_variants) (defBody s_check_variants) (defScope s_check_variants) .none kV_check_variants dc_check_variants pm_check_variants an_check_variants cd_check_variants ct_check_variants), sl_check_variants⟩) (o_check_variants : PySem.W.codeIn K cd_check_variants "check_variants" = true) (k_check_variants : PySem.W.keepIn K (.ref f_check_variants) = true)
    {od_in_lowest_terms an_in_lowest_terms : Option Addr} {sl_in_lowest_terms : Array (Option Value)} {oc_in_lowest_terms kV_in_lowest_terms dc_in_lowest_terms pm_in_lowest_terms cd_in_lowest_terms ct_in_lowest_terms : Value} {f_in_lowest_terms : Addr}
    (a_in_lowest_terms : PySem.W.nsIn K mainGlobals "in_lowest_terms" = some (some (.ref f_in_lowest_terms))) (l_in_lowest_terms : K.lookup f_in_lowest_terms = some ⟨oc_in_lowest_terms, od_in_lowest_terms, .func (PySem.W.fnOf "in_lowest_terms" "in_lowest_terms" (defArgs s_in_lowest_terms) (defBody s_in_lowest_terms) (defScope s_in_lowest_terms) .none kV_in_lowest_terms dc_in_lowest_terms pm_in_lowest_terms an_in_lowest_terms cd_in_lowest_terms ct_in_lowest_terms), sl_in_lowest_terms⟩) (o_in_lowest_terms : PySem.W.codeIn K cd_in_lowest_terms "in_lowest_terms" = true) (k_in_lowest_terms : PySem.W.keepIn K (.ref f_in_lowest_terms) = true)
    {od_common_divisor_of an_common_divisor_of : Option Addr} {sl_common_divisor_of : Array (Option Value)} {oc_common_divisor_of kV_common_divisor_of dc_common_divisor_of pm_common_divisor_of cd_common_divisor_of ct_common_divisor_of : Value} {f_common_divisor_of : Addr}
    (a_common_divisor_of : PySem.W.nsIn K mainGlobals "common_divisor_of" = some (some (.ref f_common_divisor_of))) (l_common_divisor_of : K.lookup f_common_divisor_of = some ⟨oc_common_divisor_of, od_common_divisor_of, .func (PySem.W.fnOf "common_divisor_of" "common_divisor_of" (defArgs s_common_divisor_of) (defBody s_common_divisor_of) (defScope s_common_divisor_of) .none kV_common_divisor_of dc_common_divisor_of pm_common_divisor_of an_common_divisor_of cd_common_divisor_of ct_common_divisor_of), sl_common_divisor_of⟩) (o_common_divisor_of : PySem.W.codeIn K cd_common_divisor_of "common_divisor_of" = true) (k_common_divisor_of : PySem.W.keepIn K (.ref f_common_divisor_of) = true)
    {od_weights_of an_weights_of : Option Addr} {sl_weights_of : Array (Option Value)} {oc_weights_of kV_weights_of dc_weights_of pm_weights_of cd_weights_of ct_weights_of : Value} {f_weights_of : Addr}
    (a_weights_of : PySem.W.nsIn K mainGlobals "weights_of" = some (some (.ref f_weights_of))) (l_weights_of : K.lookup f_weights_of = some ⟨oc_weights_of, od_weights_of, .func (PySem.W.fnOf "weights_of" "weights_of" (defArgs s_weights_of) (defBody s_weights_of) (defScope s_weights_of) .none kV_weights_of dc_weights_of pm_weights_of an_weights_of cd_weights_of ct_weights_of), sl_weights_of⟩) (o_weights_of : PySem.W.codeIn K cd_weights_of "weights_of" = true) (k_weights_of : PySem.W.keepIn K (.ref f_weights_of) = true)
    {od_are_the_whole an_are_the_whole : Option Addr} {sl_are_the_whole : Array (Option Value)} {oc_are_the_whole kV_are_the_whole dc_are_the_whole pm_are_the_whole cd_are_the_whole ct_are_the_whole : Value} {f_are_the_whole : Addr}
    (a_are_the_whole : PySem.W.nsIn K mainGlobals "are_the_whole" = some (some (.ref f_are_the_whole))) (l_are_the_whole : K.lookup f_are_the_whole = some ⟨oc_are_the_whole, od_are_the_whole, .func (PySem.W.fnOf "are_the_whole" "are_the_whole" (defArgs s_are_the_whole) (defBody s_are_the_whole) (defScope s_are_the_whole) .none kV_are_the_whole dc_are_the_whole pm_are_the_whole an_are_the_whole cd_are_the_whole ct_are_the_whole), sl_are_the_whole⟩) (o_are_the_whole : PySem.W.codeIn K cd_are_the_whole "are_the_whole" = true) (k_are_the_whole : PySem.W.keepIn K (.ref f_are_the_whole) = true)
    {od_check_text an_check_text : Option Addr} {sl_check_text : Array (Option Value)} {oc_check_text kV_check_text dc_check_text pm_check_text cd_check_text ct_check_text : Value} {f_check_text : Addr}
    (a_check_text : PySem.W.nsIn K mainGlobals "check_text" = some (some (.ref f_check_text))) (l_check_text : K.lookup f_check_text = some ⟨oc_check_text, od_check_text, .func (PySem.W.fnOf "check_text" "check_text" (defArgs s_check_text) (defBody s_check_text) (defScope s_check_text) .none kV_check_text dc_check_text pm_check_text an_check_text cd_check_text ct_check_text), sl_check_text⟩) (o_check_text : PySem.W.codeIn K cd_check_text "check_text" = true) (k_check_text : PySem.W.keepIn K (.ref f_check_text) = true)
    {od_run_at an_run_at : Option Addr} {sl_run_at : Array (Option Value)} {oc_run_at kV_run_at dc_run_at pm_run_at cd_run_at ct_run_at : Value} {f_run_at : Addr}
    (a_run_at : PySem.W.nsIn K mainGlobals "run_at" = some (some (.ref f_run_at))) (l_run_at : K.lookup f_run_at = some ⟨oc_run_at, od_run_at, .func (PySem.W.fnOf "run_at" "run_at" (defArgs s_run_at) (defBody s_run_at) (defScope s_run_at) .none kV_run_at dc_run_at pm_run_at an_run_at cd_run_at ct_run_at), sl_run_at⟩) (o_run_at : PySem.W.codeIn K cd_run_at "run_at" = true) (k_run_at : PySem.W.keepIn K (.ref f_run_at) = true)
    {od_name_at an_name_at : Option Addr} {sl_name_at : Array (Option Value)} {oc_name_at kV_name_at dc_name_at pm_name_at cd_name_at ct_name_at : Value} {f_name_at : Addr}
    (a_name_at : PySem.W.nsIn K mainGlobals "name_at" = some (some (.ref f_name_at))) (l_name_at : K.lookup f_name_at = some ⟨oc_name_at, od_name_at, .func (PySem.W.fnOf "name_at" "name_at" (defArgs s_name_at) (defBody s_name_at) (defScope s_name_at) .none kV_name_at dc_name_at pm_name_at an_name_at cd_name_at ct_name_at), sl_name_at⟩) (o_name_at : PySem.W.codeIn K cd_name_at "name_at" = true) (k_name_at : PySem.W.keepIn K (.ref f_name_at) = true)
    {od_number_at an_number_at : Option Addr} {sl_number_at : Array (Option Value)} {oc_number_at kV_number_at dc_number_at pm_number_at cd_number_at ct_number_at : Value} {f_number_at : Addr}
    (a_number_at : PySem.W.nsIn K mainGlobals "number_at" = some (some (.ref f_number_at))) (l_number_at : K.lookup f_number_at = some ⟨oc_number_at, od_number_at, .func (PySem.W.fnOf "number_at" "number_at" (defArgs s_number_at) (defBody s_number_at) (defScope s_number_at) .none kV_number_at dc_number_at pm_number_at an_number_at cd_number_at ct_number_at), sl_number_at⟩) (o_number_at : PySem.W.codeIn K cd_number_at "number_at" = true) (k_number_at : PySem.W.keepIn K (.ref f_number_at) = true)
    {od_token_at an_token_at : Option Addr} {sl_token_at : Array (Option Value)} {oc_token_at kV_token_at dc_token_at pm_token_at cd_token_at ct_token_at : Value} {f_token_at : Addr}
    (a_token_at : PySem.W.nsIn K mainGlobals "token_at" = some (some (.ref f_token_at))) (l_token_at : K.lookup f_token_at = some ⟨oc_token_at, od_token_at, .func (PySem.W.fnOf "token_at" "token_at" (defArgs s_token_at) (defBody s_token_at) (defScope s_token_at) .none kV_token_at dc_token_at pm_token_at an_token_at cd_token_at ct_token_at), sl_token_at⟩) (o_token_at : PySem.W.codeIn K cd_token_at "token_at" = true) (k_token_at : PySem.W.keepIn K (.ref f_token_at) = true)
    {od_scan an_scan : Option Addr} {sl_scan : Array (Option Value)} {oc_scan kV_scan dc_scan pm_scan cd_scan ct_scan : Value} {f_scan : Addr}
    (a_scan : PySem.W.nsIn K mainGlobals "scan" = some (some (.ref f_scan))) (l_scan : K.lookup f_scan = some ⟨oc_scan, od_scan, .func (PySem.W.fnOf "scan" "scan" (defArgs s_scan) (defBody s_scan) (defScope s_scan) .none kV_scan dc_scan pm_scan an_scan cd_scan ct_scan), sl_scan⟩) (o_scan : PySem.W.codeIn K cd_scan "scan" = true) (k_scan : PySem.W.keepIn K (.ref f_scan) = true)
    {od_word_of an_word_of : Option Addr} {sl_word_of : Array (Option Value)} {oc_word_of kV_word_of dc_word_of pm_word_of cd_word_of ct_word_of : Value} {f_word_of : Addr}
    (a_word_of : PySem.W.nsIn K mainGlobals "word_of" = some (some (.ref f_word_of))) (l_word_of : K.lookup f_word_of = some ⟨oc_word_of, od_word_of, .func (PySem.W.fnOf "word_of" "word_of" (defArgs s_word_of) (defBody s_word_of) (defScope s_word_of) .none kV_word_of dc_word_of pm_word_of an_word_of cd_word_of ct_word_of), sl_word_of⟩) (o_word_of : PySem.W.codeIn K cd_word_of "word_of" = true) (k_word_of : PySem.W.keepIn K (.ref f_word_of) = true)
    {od_words_at an_words_at : Option Addr} {sl_words_at : Array (Option Value)} {oc_words_at kV_words_at dc_words_at pm_words_at cd_words_at ct_words_at : Value} {f_words_at : Addr}
    (a_words_at : PySem.W.nsIn K mainGlobals "words_at" = some (some (.ref f_words_at))) (l_words_at : K.lookup f_words_at = some ⟨oc_words_at, od_words_at, .func (PySem.W.fnOf "words_at" "words_at" (defArgs s_words_at) (defBody s_words_at) (defScope s_words_at) .none kV_words_at dc_words_at pm_words_at an_words_at cd_words_at ct_words_at), sl_words_at⟩) (o_words_at : PySem.W.codeIn K cd_words_at "words_at" = true) (k_words_at : PySem.W.keepIn K (.ref f_words_at) = true)
    {od_either an_either : Option Addr} {sl_either : Array (Option Value)} {oc_either kV_either dc_either pm_either cd_either ct_either : Value} {f_either : Addr}
    (a_either : PySem.W.nsIn K mainGlobals "either" = some (some (.ref f_either))) (l_either : K.lookup f_either = some ⟨oc_either, od_either, .func (PySem.W.fnOf "either" "either" (defArgs s_either) (defBody s_either) (defScope s_either) .none kV_either dc_either pm_either an_either cd_either ct_either), sl_either⟩) (o_either : PySem.W.codeIn K cd_either "either" = true) (k_either : PySem.W.keepIn K (.ref f_either) = true)
    {od_place_behind an_place_behind : Option Addr} {sl_place_behind : Array (Option Value)} {oc_place_behind kV_place_behind dc_place_behind pm_place_behind cd_place_behind ct_place_behind : Value} {f_place_behind : Addr}
    (a_place_behind : PySem.W.nsIn K mainGlobals "place_behind" = some (some (.ref f_place_behind))) (l_place_behind : K.lookup f_place_behind = some ⟨oc_place_behind, od_place_behind, .func (PySem.W.fnOf "place_behind" "place_behind" (defArgs s_place_behind) (defBody s_place_behind) (defScope s_place_behind) .none kV_place_behind dc_place_behind pm_place_behind an_place_behind cd_place_behind ct_place_behind), sl_place_behind⟩) (o_place_behind : PySem.W.codeIn K cd_place_behind "place_behind" = true) (k_place_behind : PySem.W.keepIn K (.ref f_place_behind) = true)
    {od_place_after an_place_after : Option Addr} {sl_place_after : Array (Option Value)} {oc_place_after kV_place_after dc_place_after pm_place_after cd_place_after ct_place_after : Value} {f_place_after : Addr}
    (a_place_after : PySem.W.nsIn K mainGlobals "place_after" = some (some (.ref f_place_after))) (l_place_after : K.lookup f_place_after = some ⟨oc_place_after, od_place_after, .func (PySem.W.fnOf "place_after" "place_after" (defArgs s_place_after) (defBody s_place_after) (defScope s_place_after) .none kV_place_after dc_place_after pm_place_after an_place_after cd_place_after ct_place_after), sl_place_after⟩) (o_place_after : PySem.W.codeIn K cd_place_after "place_after" = true) (k_place_after : PySem.W.keepIn K (.ref f_place_after) = true)
    {od_next_tokens an_next_tokens : Option Addr} {sl_next_tokens : Array (Option Value)} {oc_next_tokens kV_next_tokens dc_next_tokens pm_next_tokens cd_next_tokens ct_next_tokens : Value} {f_next_tokens : Addr}
    (a_next_tokens : PySem.W.nsIn K mainGlobals "next_tokens" = some (some (.ref f_next_tokens))) (l_next_tokens : K.lookup f_next_tokens = some ⟨oc_next_tokens, od_next_tokens, .func (PySem.W.fnOf "next_tokens" "next_tokens" (defArgs s_next_tokens) (defBody s_next_tokens) (defScope s_next_tokens) .none kV_next_tokens dc_next_tokens pm_next_tokens an_next_tokens cd_next_tokens ct_next_tokens), sl_next_tokens⟩) (o_next_tokens : PySem.W.codeIn K cd_next_tokens "next_tokens" = true) (k_next_tokens : PySem.W.keepIn K (.ref f_next_tokens) = true)
    {od_parted_at_commas an_parted_at_commas : Option Addr} {sl_parted_at_commas : Array (Option Value)} {oc_parted_at_commas kV_parted_at_commas dc_parted_at_commas pm_parted_at_commas cd_parted_at_commas ct_parted_at_commas : Value} {f_parted_at_commas : Addr}
    (a_parted_at_commas : PySem.W.nsIn K mainGlobals "parted_at_commas" = some (some (.ref f_parted_at_commas))) (l_parted_at_commas : K.lookup f_parted_at_commas = some ⟨oc_parted_at_commas, od_parted_at_commas, .func (PySem.W.fnOf "parted_at_commas" "parted_at_commas" (defArgs s_parted_at_commas) (defBody s_parted_at_commas) (defScope s_parted_at_commas) .none kV_parted_at_commas dc_parted_at_commas pm_parted_at_commas an_parted_at_commas cd_parted_at_commas ct_parted_at_commas), sl_parted_at_commas⟩) (o_parted_at_commas : PySem.W.codeIn K cd_parted_at_commas "parted_at_commas" = true) (k_parted_at_commas : PySem.W.keepIn K (.ref f_parted_at_commas) = true)
    {od_check_share_name an_check_share_name : Option Addr} {sl_check_share_name : Array (Option Value)} {oc_check_share_name kV_check_share_name dc_check_share_name pm_check_share_name cd_check_share_name ct_check_share_name : Value} {f_check_share_name : Addr}
    (a_check_share_name : PySem.W.nsIn K mainGlobals "check_share_name" = some (some (.ref f_check_share_name))) (l_check_share_name : K.lookup f_check_share_name = some ⟨oc_check_share_name, od_check_share_name, .func (PySem.W.fnOf "check_share_name" "check_share_name" (defArgs s_check_share_name) (defBody s_check_share_name) (defScope s_check_share_name) .none kV_check_share_name dc_check_share_name pm_check_share_name an_check_share_name cd_check_share_name ct_check_share_name), sl_check_share_name⟩) (o_check_share_name : PySem.W.codeIn K cd_check_share_name "check_share_name" = true) (k_check_share_name : PySem.W.keepIn K (.ref f_check_share_name) = true)
    {od_quotient_of an_quotient_of : Option Addr} {sl_quotient_of : Array (Option Value)} {oc_quotient_of kV_quotient_of dc_quotient_of pm_quotient_of cd_quotient_of ct_quotient_of : Value} {f_quotient_of : Addr}
    (a_quotient_of : PySem.W.nsIn K mainGlobals "quotient_of" = some (some (.ref f_quotient_of))) (l_quotient_of : K.lookup f_quotient_of = some ⟨oc_quotient_of, od_quotient_of, .func (PySem.W.fnOf "quotient_of" "quotient_of" (defArgs s_quotient_of) (defBody s_quotient_of) (defScope s_quotient_of) .none kV_quotient_of dc_quotient_of pm_quotient_of an_quotient_of cd_quotient_of ct_quotient_of), sl_quotient_of⟩) (o_quotient_of : PySem.W.codeIn K cd_quotient_of "quotient_of" = true) (k_quotient_of : PySem.W.keepIn K (.ref f_quotient_of) = true)
    {od_share_of an_share_of : Option Addr} {sl_share_of : Array (Option Value)} {oc_share_of kV_share_of dc_share_of pm_share_of cd_share_of ct_share_of : Value} {f_share_of : Addr}
    (a_share_of : PySem.W.nsIn K mainGlobals "share_of" = some (some (.ref f_share_of))) (l_share_of : K.lookup f_share_of = some ⟨oc_share_of, od_share_of, .func (PySem.W.fnOf "share_of" "share_of" (defArgs s_share_of) (defBody s_share_of) (defScope s_share_of) .none kV_share_of dc_share_of pm_share_of an_share_of cd_share_of ct_share_of), sl_share_of⟩) (o_share_of : PySem.W.codeIn K cd_share_of "share_of" = true) (k_share_of : PySem.W.keepIn K (.ref f_share_of) = true)
    {od_read_shares an_read_shares : Option Addr} {sl_read_shares : Array (Option Value)} {oc_read_shares kV_read_shares dc_read_shares pm_read_shares cd_read_shares ct_read_shares : Value} {f_read_shares : Addr}
    (a_read_shares : PySem.W.nsIn K mainGlobals "read_shares" = some (some (.ref f_read_shares))) (l_read_shares : K.lookup f_read_shares = some ⟨oc_read_shares, od_read_shares, .func (PySem.W.fnOf "read_shares" "read_shares" (defArgs s_read_shares) (defBody s_read_shares) (defScope s_read_shares) .none kV_read_shares dc_read_shares pm_read_shares an_read_shares cd_read_shares ct_read_shares), sl_read_shares⟩) (o_read_shares : PySem.W.codeIn K cd_read_shares "read_shares" = true) (k_read_shares : PySem.W.keepIn K (.ref f_read_shares) = true)
    {od_parted_in_runs an_parted_in_runs : Option Addr} {sl_parted_in_runs : Array (Option Value)} {oc_parted_in_runs kV_parted_in_runs dc_parted_in_runs pm_parted_in_runs cd_parted_in_runs ct_parted_in_runs : Value} {f_parted_in_runs : Addr}
    (a_parted_in_runs : PySem.W.nsIn K mainGlobals "parted_in_runs" = some (some (.ref f_parted_in_runs))) (l_parted_in_runs : K.lookup f_parted_in_runs = some ⟨oc_parted_in_runs, od_parted_in_runs, .func (PySem.W.fnOf "parted_in_runs" "parted_in_runs" (defArgs s_parted_in_runs) (defBody s_parted_in_runs) (defScope s_parted_in_runs) .none kV_parted_in_runs dc_parted_in_runs pm_parted_in_runs an_parted_in_runs cd_parted_in_runs ct_parted_in_runs), sl_parted_in_runs⟩) (o_parted_in_runs : PySem.W.codeIn K cd_parted_in_runs "parted_in_runs" = true) (k_parted_in_runs : PySem.W.keepIn K (.ref f_parted_in_runs) = true)
    {od_run_of an_run_of : Option Addr} {sl_run_of : Array (Option Value)} {oc_run_of kV_run_of dc_run_of pm_run_of cd_run_of ct_run_of : Value} {f_run_of : Addr}
    (a_run_of : PySem.W.nsIn K mainGlobals "run_of" = some (some (.ref f_run_of))) (l_run_of : K.lookup f_run_of = some ⟨oc_run_of, od_run_of, .func (PySem.W.fnOf "run_of" "run_of" (defArgs s_run_of) (defBody s_run_of) (defScope s_run_of) .none kV_run_of dc_run_of pm_run_of an_run_of cd_run_of ct_run_of), sl_run_of⟩) (o_run_of : PySem.W.codeIn K cd_run_of "run_of" = true) (k_run_of : PySem.W.keepIn K (.ref f_run_of) = true)
    {od_read_assignment an_read_assignment : Option Addr} {sl_read_assignment : Array (Option Value)} {oc_read_assignment kV_read_assignment dc_read_assignment pm_read_assignment cd_read_assignment ct_read_assignment : Value} {f_read_assignment : Addr}
    (a_read_assignment : PySem.W.nsIn K mainGlobals "read_assignment" = some (some (.ref f_read_assignment))) (l_read_assignment : K.lookup f_read_assignment = some ⟨oc_read_assignment, od_read_assignment, .func (PySem.W.fnOf "read_assignment" "read_assignment" (defArgs s_read_assignment) (defBody s_read_assignment) (defScope s_read_assignment) .none kV_read_assignment dc_read_assignment pm_read_assignment an_read_assignment cd_read_assignment ct_read_assignment), sl_read_assignment⟩) (o_read_assignment : PySem.W.codeIn K cd_read_assignment "read_assignment" = true) (k_read_assignment : PySem.W.keepIn K (.ref f_read_assignment) = true)
    {od__law_stream an__law_stream : Option Addr} {sl__law_stream : Array (Option Value)} {oc__law_stream kV__law_stream dc__law_stream pm__law_stream cd__law_stream ct__law_stream : Value} {f__law_stream : Addr}
    (a__law_stream : PySem.W.nsIn K mainGlobals "_law_stream" = some (some (.ref f__law_stream))) (l__law_stream : K.lookup f__law_stream = some ⟨oc__law_stream, od__law_stream, .func (PySem.W.fnOf "_law_stream" "_law_stream" (defArgs s__law_stream) (defBody s__law_stream) (defScope s__law_stream) .none kV__law_stream dc__law_stream pm__law_stream an__law_stream cd__law_stream ct__law_stream), sl__law_stream⟩) (o__law_stream : PySem.W.codeIn K cd__law_stream "_law_stream" = true) (k__law_stream : PySem.W.keepIn K (.ref f__law_stream) = true)
    {od__law_next an__law_next : Option Addr} {sl__law_next : Array (Option Value)} {oc__law_next kV__law_next dc__law_next pm__law_next cd__law_next ct__law_next : Value} {f__law_next : Addr}
    (a__law_next : PySem.W.nsIn K mainGlobals "_law_next" = some (some (.ref f__law_next))) (l__law_next : K.lookup f__law_next = some ⟨oc__law_next, od__law_next, .func (PySem.W.fnOf "_law_next" "_law_next" (defArgs s__law_next) (defBody s__law_next) (defScope s__law_next) .none kV__law_next dc__law_next pm__law_next an__law_next cd__law_next ct__law_next), sl__law_next⟩) (o__law_next : PySem.W.codeIn K cd__law_next "_law_next" = true) (k__law_next : PySem.W.keepIn K (.ref f__law_next) = true)
    {od__law_is_integer an__law_is_integer : Option Addr} {sl__law_is_integer : Array (Option Value)} {oc__law_is_integer kV__law_is_integer dc__law_is_integer pm__law_is_integer cd__law_is_integer ct__law_is_integer : Value} {f__law_is_integer : Addr}
    (a__law_is_integer : PySem.W.nsIn K mainGlobals "_law_is_integer" = some (some (.ref f__law_is_integer))) (l__law_is_integer : K.lookup f__law_is_integer = some ⟨oc__law_is_integer, od__law_is_integer, .func (PySem.W.fnOf "_law_is_integer" "_law_is_integer" (defArgs s__law_is_integer) (defBody s__law_is_integer) (defScope s__law_is_integer) .none kV__law_is_integer dc__law_is_integer pm__law_is_integer an__law_is_integer cd__law_is_integer ct__law_is_integer), sl__law_is_integer⟩) (o__law_is_integer : PySem.W.codeIn K cd__law_is_integer "_law_is_integer" = true) (k__law_is_integer : PySem.W.keepIn K (.ref f__law_is_integer) = true)
    {od__law_equal an__law_equal : Option Addr} {sl__law_equal : Array (Option Value)} {oc__law_equal kV__law_equal dc__law_equal pm__law_equal cd__law_equal ct__law_equal : Value} {f__law_equal : Addr}
    (a__law_equal : PySem.W.nsIn K mainGlobals "_law_equal" = some (some (.ref f__law_equal))) (l__law_equal : K.lookup f__law_equal = some ⟨oc__law_equal, od__law_equal, .func (PySem.W.fnOf "_law_equal" "_law_equal" (defArgs s__law_equal) (defBody s__law_equal) (defScope s__law_equal) .none kV__law_equal dc__law_equal pm__law_equal an__law_equal cd__law_equal ct__law_equal), sl__law_equal⟩) (o__law_equal : PySem.W.codeIn K cd__law_equal "_law_equal" = true) (k__law_equal : PySem.W.keepIn K (.ref f__law_equal) = true)
    {od__law_pick an__law_pick : Option Addr} {sl__law_pick : Array (Option Value)} {oc__law_pick kV__law_pick dc__law_pick pm__law_pick cd__law_pick ct__law_pick : Value} {f__law_pick : Addr}
    (a__law_pick : PySem.W.nsIn K mainGlobals "_law_pick" = some (some (.ref f__law_pick))) (l__law_pick : K.lookup f__law_pick = some ⟨oc__law_pick, od__law_pick, .func (PySem.W.fnOf "_law_pick" "_law_pick" (defArgs s__law_pick) (defBody s__law_pick) (defScope s__law_pick) .none kV__law_pick dc__law_pick pm__law_pick an__law_pick cd__law_pick ct__law_pick), sl__law_pick⟩) (o__law_pick : PySem.W.codeIn K cd__law_pick "_law_pick" = true) (k__law_pick : PySem.W.keepIn K (.ref f__law_pick) = true)
    {od__law_share_rows an__law_share_rows : Option Addr} {sl__law_share_rows : Array (Option Value)} {oc__law_share_rows kV__law_share_rows dc__law_share_rows pm__law_share_rows cd__law_share_rows ct__law_share_rows : Value} {f__law_share_rows : Addr}
    (a__law_share_rows : PySem.W.nsIn K mainGlobals "_law_share_rows" = some (some (.ref f__law_share_rows))) (l__law_share_rows : K.lookup f__law_share_rows = some ⟨oc__law_share_rows, od__law_share_rows, .func (PySem.W.fnOf "_law_share_rows" "_law_share_rows" (defArgs s__law_share_rows) (defBody s__law_share_rows) (defScope s__law_share_rows) .none kV__law_share_rows dc__law_share_rows pm__law_share_rows an__law_share_rows cd__law_share_rows ct__law_share_rows), sl__law_share_rows⟩) (o__law_share_rows : PySem.W.codeIn K cd__law_share_rows "_law_share_rows" = true) (k__law_share_rows : PySem.W.keepIn K (.ref f__law_share_rows) = true)
    {od__law_run_rows an__law_run_rows : Option Addr} {sl__law_run_rows : Array (Option Value)} {oc__law_run_rows kV__law_run_rows dc__law_run_rows pm__law_run_rows cd__law_run_rows ct__law_run_rows : Value} {f__law_run_rows : Addr}
    (a__law_run_rows : PySem.W.nsIn K mainGlobals "_law_run_rows" = some (some (.ref f__law_run_rows))) (l__law_run_rows : K.lookup f__law_run_rows = some ⟨oc__law_run_rows, od__law_run_rows, .func (PySem.W.fnOf "_law_run_rows" "_law_run_rows" (defArgs s__law_run_rows) (defBody s__law_run_rows) (defScope s__law_run_rows) .none kV__law_run_rows dc__law_run_rows pm__law_run_rows an__law_run_rows cd__law_run_rows ct__law_run_rows), sl__law_run_rows⟩) (o__law_run_rows : PySem.W.codeIn K cd__law_run_rows "_law_run_rows" = true) (k__law_run_rows : PySem.W.keepIn K (.ref f__law_run_rows) = true)
    {od__law_told an__law_told : Option Addr} {sl__law_told : Array (Option Value)} {oc__law_told kV__law_told dc__law_told pm__law_told cd__law_told ct__law_told : Value} {f__law_told : Addr}
    (a__law_told : PySem.W.nsIn K mainGlobals "_law_told" = some (some (.ref f__law_told))) (l__law_told : K.lookup f__law_told = some ⟨oc__law_told, od__law_told, .func (PySem.W.fnOf "_law_told" "_law_told" (defArgs s__law_told) (defBody s__law_told) (defScope s__law_told) .none kV__law_told dc__law_told pm__law_told an__law_told cd__law_told ct__law_told), sl__law_told⟩) (o__law_told : PySem.W.codeIn K cd__law_told "_law_told" = true) (k__law_told : PySem.W.keepIn K (.ref f__law_told) = true)
    {od__law_refused an__law_refused : Option Addr} {sl__law_refused : Array (Option Value)} {oc__law_refused kV__law_refused dc__law_refused pm__law_refused cd__law_refused ct__law_refused : Value} {f__law_refused : Addr}
    (a__law_refused : PySem.W.nsIn K mainGlobals "_law_refused" = some (some (.ref f__law_refused))) (l__law_refused : K.lookup f__law_refused = some ⟨oc__law_refused, od__law_refused, .func (PySem.W.fnOf "_law_refused" "_law_refused" (defArgs s__law_refused) (defBody s__law_refused) (defScope s__law_refused) .none kV__law_refused dc__law_refused pm__law_refused an__law_refused cd__law_refused ct__law_refused), sl__law_refused⟩) (o__law_refused : PySem.W.codeIn K cd__law_refused "_law_refused" = true) (k__law_refused : PySem.W.keepIn K (.ref f__law_refused) = true)
    {od_law an_law : Option Addr} {sl_law : Array (Option Value)} {oc_law kV_law dc_law pm_law cd_law ct_law : Value} {f_law : Addr}
    (a_law : PySem.W.nsIn K mainGlobals "law" = some (some (.ref f_law))) (l_law : K.lookup f_law = some ⟨oc_law, od_law, .func (PySem.W.fnOf "law" "law" (defArgs s_law) (defBody s_law) (defScope s_law) .none kV_law dc_law pm_law an_law cd_law ct_law), sl_law⟩) (o_law : PySem.W.codeIn K cd_law "law" = true) (k_law : PySem.W.keepIn K (.ref f_law) = true)
    (z_abs : PySem.W.nsIn K mainGlobals "abs" = some none)
    (z_all : PySem.W.nsIn K mainGlobals "all" = some none)
    (z_bool : PySem.W.nsIn K mainGlobals "bool" = some none)
    (z_int : PySem.W.nsIn K mainGlobals "int" = some none)
    (z_isinstance : PySem.W.nsIn K mainGlobals "isinstance" = some none)
    (z_len : PySem.W.nsIn K mainGlobals "len" = some none)
    (z_list : PySem.W.nsIn K mainGlobals "list" = some none)
    (z_range : PySem.W.nsIn K mainGlobals "range" = some none)
    (z_str : PySem.W.nsIn K mainGlobals "str" = some none)
    (z_sum : PySem.W.nsIn K mainGlobals "sum" = some none)
    (z_tuple : PySem.W.nsIn K mainGlobals "tuple" = some none)
    (z_zip : PySem.W.nsIn K mainGlobals "zip" = some none)
    {tk_MOST_VARIANTS : Tok} (g_MOST_VARIANTS : PySem.W.nsIn K mainGlobals "MOST_VARIANTS" = some (some (.int 5 tk_MOST_VARIANTS)))
    {tk_MOST_BUCKETS : Tok} (g_MOST_BUCKETS : PySem.W.nsIn K mainGlobals "MOST_BUCKETS" = some (some (.int 20 tk_MOST_BUCKETS)))
    {tk_GREATEST_DIVISOR : Tok} (g_GREATEST_DIVISOR : PySem.W.nsIn K mainGlobals "GREATEST_DIVISOR" = some (some (.int 10000 tk_GREATEST_DIVISOR)))
    {tk_MOST_CHARACTERS : Tok} (g_MOST_CHARACTERS : PySem.W.nsIn K mainGlobals "MOST_CHARACTERS" = some (some (.int 400 tk_MOST_CHARACTERS)))
    {tk_LONGEST_NAME : Tok} (g_LONGEST_NAME : PySem.W.nsIn K mainGlobals "LONGEST_NAME" = some (some (.int 12 tk_LONGEST_NAME)))
    {tk_LONGEST_NUMBER : Tok} (g_LONGEST_NUMBER : PySem.W.nsIn K mainGlobals "LONGEST_NUMBER" = some (some (.int 6 tk_LONGEST_NUMBER)))
    {tk_LETTERS : Tok} (g_LETTERS : PySem.W.nsIn K mainGlobals "LETTERS" = some (some (.str (Str.ofString "abcdefghijklmnopqrstuvwxyz") tk_LETTERS)))
    {tk_DIGITS : Tok} (g_DIGITS : PySem.W.nsIn K mainGlobals "DIGITS" = some (some (.str (Str.ofString "0123456789") tk_DIGITS)))
    {tk_IN_NAMES : Tok} (g_IN_NAMES : PySem.W.nsIn K mainGlobals "IN_NAMES" = some (some (.str (Str.ofString "abcdefghijklmnopqrstuvwxyz0123456789_") tk_IN_NAMES)))
    {tk_SIGNS : Tok} (g_SIGNS : PySem.W.nsIn K mainGlobals "SIGNS" = some (some (.str (Str.ofString ",.*/") tk_SIGNS)))
    {ga_SHARES gr_SHARES0 gr_SHARES1 gr_SHARES2 gr_SHARES3 gr_SHARES4 gr_SHARES5 gr_SHARES6 gr_SHARES7 gr_SHARES8 : Addr} {gn_SHARES gm_SHARES0 gm_SHARES1 gm_SHARES2 gm_SHARES3 gm_SHARES4 gm_SHARES5 gm_SHARES6 gm_SHARES7 gm_SHARES8 : Nat} {gs_SHARES gt_SHARES0 gt_SHARES1 gt_SHARES2 gt_SHARES3 gt_SHARES4 gt_SHARES5 gt_SHARES6 gt_SHARES7 gt_SHARES8 : Array (Option Value)} (g_SHARES : PySem.W.nsIn K mainGlobals "SHARES" = some (some (.ref ga_SHARES)))
    (gl_SHARES : K.lookup ga_SHARES = some ⟨.type "tuple", none, .seq #[.ref gr_SHARES0, .ref gr_SHARES1, .ref gr_SHARES2, .ref gr_SHARES3, .ref gr_SHARES4, .ref gr_SHARES5, .ref gr_SHARES6, .ref gr_SHARES7, .ref gr_SHARES8] gn_SHARES, gs_SHARES⟩)
    {gk_SHARES0_0 gk_SHARES0_1 gk_SHARES0_2 : Tok} (gl_SHARES0 : K.lookup gr_SHARES0 = some ⟨.type "tuple", none, .seq #[(.str (Str.ofString "start") gk_SHARES0_0), (.str (Str.ofString "a name") gk_SHARES0_1), (.str (Str.ofString "named") gk_SHARES0_2)] gm_SHARES0, gt_SHARES0⟩)
    {gk_SHARES1_0 gk_SHARES1_1 gk_SHARES1_2 : Tok} (gl_SHARES1 : K.lookup gr_SHARES1 = some ⟨.type "tuple", none, .seq #[(.str (Str.ofString "named") gk_SHARES1_0), (.str (Str.ofString "a number") gk_SHARES1_1), (.str (Str.ofString "counted") gk_SHARES1_2)] gm_SHARES1, gt_SHARES1⟩)
    {gk_SHARES2_0 gk_SHARES2_1 gk_SHARES2_2 : Tok} (gl_SHARES2 : K.lookup gr_SHARES2 = some ⟨.type "tuple", none, .seq #[(.str (Str.ofString "counted") gk_SHARES2_0), (.str (Str.ofString "\",\"") gk_SHARES2_1), (.str (Str.ofString "start") gk_SHARES2_2)] gm_SHARES2, gt_SHARES2⟩)
    {gk_SHARES3_0 gk_SHARES3_1 gk_SHARES3_2 : Tok} (gl_SHARES3 : K.lookup gr_SHARES3 = some ⟨.type "tuple", none, .seq #[(.str (Str.ofString "counted") gk_SHARES3_0), (.str (Str.ofString "\".\"") gk_SHARES3_1), (.str (Str.ofString "pointed") gk_SHARES3_2)] gm_SHARES3, gt_SHARES3⟩)
    {gk_SHARES4_0 gk_SHARES4_1 gk_SHARES4_2 : Tok} (gl_SHARES4 : K.lookup gr_SHARES4 = some ⟨.type "tuple", none, .seq #[(.str (Str.ofString "counted") gk_SHARES4_0), (.str (Str.ofString "\"/\"") gk_SHARES4_1), (.str (Str.ofString "pointed") gk_SHARES4_2)] gm_SHARES4, gt_SHARES4⟩)
    {gk_SHARES5_0 gk_SHARES5_1 gk_SHARES5_2 : Tok} (gl_SHARES5 : K.lookup gr_SHARES5 = some ⟨.type "tuple", none, .seq #[(.str (Str.ofString "counted") gk_SHARES5_0), (.str (Str.ofString "the end") gk_SHARES5_1), (.str (Str.ofString "ended") gk_SHARES5_2)] gm_SHARES5, gt_SHARES5⟩)
    {gk_SHARES6_0 gk_SHARES6_1 gk_SHARES6_2 : Tok} (gl_SHARES6 : K.lookup gr_SHARES6 = some ⟨.type "tuple", none, .seq #[(.str (Str.ofString "pointed") gk_SHARES6_0), (.str (Str.ofString "a number") gk_SHARES6_1), (.str (Str.ofString "shared") gk_SHARES6_2)] gm_SHARES6, gt_SHARES6⟩)
    {gk_SHARES7_0 gk_SHARES7_1 gk_SHARES7_2 : Tok} (gl_SHARES7 : K.lookup gr_SHARES7 = some ⟨.type "tuple", none, .seq #[(.str (Str.ofString "shared") gk_SHARES7_0), (.str (Str.ofString "\",\"") gk_SHARES7_1), (.str (Str.ofString "start") gk_SHARES7_2)] gm_SHARES7, gt_SHARES7⟩)
    {gk_SHARES8_0 gk_SHARES8_1 gk_SHARES8_2 : Tok} (gl_SHARES8 : K.lookup gr_SHARES8 = some ⟨.type "tuple", none, .seq #[(.str (Str.ofString "shared") gk_SHARES8_0), (.str (Str.ofString "the end") gk_SHARES8_1), (.str (Str.ofString "ended") gk_SHARES8_2)] gm_SHARES8, gt_SHARES8⟩)
    {ga_ASSIGNMENT gr_ASSIGNMENT0 gr_ASSIGNMENT1 gr_ASSIGNMENT2 gr_ASSIGNMENT3 gr_ASSIGNMENT4 gr_ASSIGNMENT5 : Addr} {gn_ASSIGNMENT gm_ASSIGNMENT0 gm_ASSIGNMENT1 gm_ASSIGNMENT2 gm_ASSIGNMENT3 gm_ASSIGNMENT4 gm_ASSIGNMENT5 : Nat} {gs_ASSIGNMENT gt_ASSIGNMENT0 gt_ASSIGNMENT1 gt_ASSIGNMENT2 gt_ASSIGNMENT3 gt_ASSIGNMENT4 gt_ASSIGNMENT5 : Array (Option Value)} (g_ASSIGNMENT : PySem.W.nsIn K mainGlobals "ASSIGNMENT" = some (some (.ref ga_ASSIGNMENT)))
    (gl_ASSIGNMENT : K.lookup ga_ASSIGNMENT = some ⟨.type "tuple", none, .seq #[.ref gr_ASSIGNMENT0, .ref gr_ASSIGNMENT1, .ref gr_ASSIGNMENT2, .ref gr_ASSIGNMENT3, .ref gr_ASSIGNMENT4, .ref gr_ASSIGNMENT5] gn_ASSIGNMENT, gs_ASSIGNMENT⟩)
    {gk_ASSIGNMENT0_0 gk_ASSIGNMENT0_1 gk_ASSIGNMENT0_2 : Tok} (gl_ASSIGNMENT0 : K.lookup gr_ASSIGNMENT0 = some ⟨.type "tuple", none, .seq #[(.str (Str.ofString "start") gk_ASSIGNMENT0_0), (.str (Str.ofString "a number") gk_ASSIGNMENT0_1), (.str (Str.ofString "counted") gk_ASSIGNMENT0_2)] gm_ASSIGNMENT0, gt_ASSIGNMENT0⟩)
    {gk_ASSIGNMENT1_0 gk_ASSIGNMENT1_1 gk_ASSIGNMENT1_2 : Tok} (gl_ASSIGNMENT1 : K.lookup gr_ASSIGNMENT1 = some ⟨.type "tuple", none, .seq #[(.str (Str.ofString "start") gk_ASSIGNMENT1_0), (.str (Str.ofString "the end") gk_ASSIGNMENT1_1), (.str (Str.ofString "ended") gk_ASSIGNMENT1_2)] gm_ASSIGNMENT1, gt_ASSIGNMENT1⟩)
    {gk_ASSIGNMENT2_0 gk_ASSIGNMENT2_1 gk_ASSIGNMENT2_2 : Tok} (gl_ASSIGNMENT2 : K.lookup gr_ASSIGNMENT2 = some ⟨.type "tuple", none, .seq #[(.str (Str.ofString "counted") gk_ASSIGNMENT2_0), (.str (Str.ofString "a number") gk_ASSIGNMENT2_1), (.str (Str.ofString "counted") gk_ASSIGNMENT2_2)] gm_ASSIGNMENT2, gt_ASSIGNMENT2⟩)
    {gk_ASSIGNMENT3_0 gk_ASSIGNMENT3_1 gk_ASSIGNMENT3_2 : Tok} (gl_ASSIGNMENT3 : K.lookup gr_ASSIGNMENT3 = some ⟨.type "tuple", none, .seq #[(.str (Str.ofString "counted") gk_ASSIGNMENT3_0), (.str (Str.ofString "\"*\"") gk_ASSIGNMENT3_1), (.str (Str.ofString "repeated") gk_ASSIGNMENT3_2)] gm_ASSIGNMENT3, gt_ASSIGNMENT3⟩)
    {gk_ASSIGNMENT4_0 gk_ASSIGNMENT4_1 gk_ASSIGNMENT4_2 : Tok} (gl_ASSIGNMENT4 : K.lookup gr_ASSIGNMENT4 = some ⟨.type "tuple", none, .seq #[(.str (Str.ofString "counted") gk_ASSIGNMENT4_0), (.str (Str.ofString "the end") gk_ASSIGNMENT4_1), (.str (Str.ofString "ended") gk_ASSIGNMENT4_2)] gm_ASSIGNMENT4, gt_ASSIGNMENT4⟩)
    {gk_ASSIGNMENT5_0 gk_ASSIGNMENT5_1 gk_ASSIGNMENT5_2 : Tok} (gl_ASSIGNMENT5 : K.lookup gr_ASSIGNMENT5 = some ⟨.type "tuple", none, .seq #[(.str (Str.ofString "repeated") gk_ASSIGNMENT5_0), (.str (Str.ofString "a number") gk_ASSIGNMENT5_1), (.str (Str.ofString "start") gk_ASSIGNMENT5_2)] gm_ASSIGNMENT5, gt_ASSIGNMENT5⟩)
    (i_gcd : PySem.W.nsIn K mainGlobals "gcd" = some (some (.builtin "math.gcd")))
    (i_lcm : PySem.W.nsIn K mainGlobals "lcm" = some (some (.builtin "math.lcm")))
    {xC_BadValue xI_BadValue xcc_BadValue xcda_BadValue : Addr} {xkV_BadValue xdoc_BadValue xpm_BadValue xct_BadValue xoc_BadValue xcl_BadValue xccl_BadValue : Value} {xan_BadValue xod_BadValue xcdd_BadValue xcld_BadValue : Option Addr} {xosl_BadValue xcsl_BadValue xccs_BadValue : Array (Option Value)} {xvs_BadValue : Array Value} {xfile_BadValue : Str} {xtf_BadValue : Tok}
    {xnm_BadValue xq_BadValue : Str} {xN_BadValue : Addr} {xbs_BadValue xbm_BadValue xsub_BadValue : List Value} {xsn_BadValue : List Str} {xab_BadValue : Bool} {xcol_BadValue : Option Bool} {xdd_BadValue : Option Addr} {x0_BadValue x1_BadValue x2_BadValue x3_BadValue x5_BadValue : Option Value} {xcd_BadValue : ClassData}
    (xa_BadValue : PySem.W.nsIn K mainGlobals "BadValue" = some (some (.ref xC_BadValue))) (xi_BadValue : PySem.W.findIn K (.ref xC_BadValue) "__init__" = some (some (.ref xI_BadValue)))
    (xl_BadValue : K.lookup xI_BadValue = some ⟨xoc_BadValue, xod_BadValue, .func (PySem.W.ksFn "__init__" "BadValue.__init__" (defArgs s_ini_BadValue) (defBody s_ini_BadValue) (defScope s_ini_BadValue) .none xkV_BadValue xdoc_BadValue xpm_BadValue xan_BadValue (.ref xcda_BadValue) xct_BadValue xcc_BadValue), xosl_BadValue⟩)
    (xo_BadValue : PySem.W.codeIn K (.ref xcda_BadValue) "BadValue.__init__" = true) (xd_BadValue : K.lookup xcda_BadValue = some ⟨xccl_BadValue, xcdd_BadValue, .fields xvs_BadValue, xccs_BadValue⟩) (xv_BadValue : xvs_BadValue[2]? = some (.str xfile_BadValue xtf_BadValue)) (xf_BadValue : ((l.prog.main.file : Str) == xfile_BadValue) = true)
    (xc_BadValue : K.lookup xcc_BadValue = some ⟨xcl_BadValue, xcld_BadValue, .cell (some (.ref xC_BadValue)), xcsl_BadValue⟩) (xk_BadValue : K.lookup xC_BadValue = some (excClassObj xnm_BadValue xq_BadValue xC_BadValue xN_BadValue xbs_BadValue xbm_BadValue true xsn_BadValue xsub_BadValue xab_BadValue xcol_BadValue xdd_BadValue x0_BadValue x1_BadValue x2_BadValue x3_BadValue x5_BadValue "ValueError.__new__")) (xr_BadValue : PySem.HandSPX.refsVE xbm_BadValue = true)
    (xs_BadValue : PySem.W.findIn K (.ref xC_BadValue) "__setattr__" = some (some (.builtin "object.__setattr__"))) (xb_BadValue : PySem.W.subIn K (.ref xC_BadValue) (.type "BaseException") = some true) (xt_BadValue : PySem.W.typeIn K (.ref xC_BadValue) = some (.type "type")) (xp_BadValue : PySem.W.keepIn K (.ref xC_BadValue) = true)
    (xw_BadValue : PySem.W.subIn K (.ref xC_BadValue) (.type "ValueError") = some true) (xz_BadValue : PySem.W.nsIn K cStatics "thirdparty.any" = some none) (xu_BadValue : PySem.W.ks_superIn K xC_BadValue xC_BadValue "__init__" = some (some (.builtin "ValueError.__init__"))) (xy_BadValue : PySem.W.typeIn K (.ref xI_BadValue) = some (.type "function"))
    (xg_BadValue : PySem.W.findIn K (.ref xC_BadValue) "__getattribute__" = some (some (.builtin "BaseException.__getattribute__"))) (xh_BadValue : PySem.W.findIn K (.ref xC_BadValue) "__getattr__" = some none) (xD_BadValue : PySem.W.hasDictIn K xC_BadValue = true) (xn_BadValue : PySem.W.findIn K (.ref xC_BadValue) "name" = some none)
    (xe_BadValue : PySem.W.clsIn K xC_BadValue = some xcd_BadValue) (xx_BadValue : PySem.W.subIn K (.ref xC_BadValue) (.ref xC_BadValue) = some true) (xj_BadValue : PySem.W.nsIn K mainGlobals "super" = some none) (xm_BadValue : (l.prog.main.scope.names.lookup ("super" : Str)).isSome = false)
    {xC_TextError xI_TextError xcc_TextError xcda_TextError : Addr} {xkV_TextError xdoc_TextError xpm_TextError xct_TextError xoc_TextError xcl_TextError xccl_TextError : Value} {xan_TextError xod_TextError xcdd_TextError xcld_TextError : Option Addr} {xosl_TextError xcsl_TextError xccs_TextError : Array (Option Value)} {xvs_TextError : Array Value} {xfile_TextError : Str} {xtf_TextError : Tok}
    {xnm_TextError xq_TextError : Str} {xN_TextError : Addr} {xbs_TextError xbm_TextError xsub_TextError : List Value} {xsn_TextError : List Str} {xab_TextError : Bool} {xcol_TextError : Option Bool} {xdd_TextError : Option Addr} {x0_TextError x1_TextError x2_TextError x3_TextError x5_TextError : Option Value} {xcd_TextError : ClassData}
    (xa_TextError : PySem.W.nsIn K mainGlobals "TextError" = some (some (.ref xC_TextError))) (xi_TextError : PySem.W.findIn K (.ref xC_TextError) "__init__" = some (some (.ref xI_TextError)))
    (xl_TextError : K.lookup xI_TextError = some ⟨xoc_TextError, xod_TextError, .func (PySem.W.ksFn "__init__" "TextError.__init__" (defArgs s_ini_TextError) (defBody s_ini_TextError) (defScope s_ini_TextError) .none xkV_TextError xdoc_TextError xpm_TextError xan_TextError (.ref xcda_TextError) xct_TextError xcc_TextError), xosl_TextError⟩)
    (xo_TextError : PySem.W.codeIn K (.ref xcda_TextError) "TextError.__init__" = true) (xd_TextError : K.lookup xcda_TextError = some ⟨xccl_TextError, xcdd_TextError, .fields xvs_TextError, xccs_TextError⟩) (xv_TextError : xvs_TextError[2]? = some (.str xfile_TextError xtf_TextError)) (xf_TextError : ((l.prog.main.file : Str) == xfile_TextError) = true)
    (xc_TextError : K.lookup xcc_TextError = some ⟨xcl_TextError, xcld_TextError, .cell (some (.ref xC_TextError)), xcsl_TextError⟩) (xk_TextError : K.lookup xC_TextError = some (excClassObj xnm_TextError xq_TextError xC_TextError xN_TextError xbs_TextError xbm_TextError true xsn_TextError xsub_TextError xab_TextError xcol_TextError xdd_TextError x0_TextError x1_TextError x2_TextError x3_TextError x5_TextError "ValueError.__new__")) (xr_TextError : PySem.HandSPX.refsVE xbm_TextError = true)
    (xs_TextError : PySem.W.findIn K (.ref xC_TextError) "__setattr__" = some (some (.builtin "object.__setattr__"))) (xb_TextError : PySem.W.subIn K (.ref xC_TextError) (.type "BaseException") = some true) (xt_TextError : PySem.W.typeIn K (.ref xC_TextError) = some (.type "type")) (xp_TextError : PySem.W.keepIn K (.ref xC_TextError) = true)
    (xw_TextError : PySem.W.subIn K (.ref xC_TextError) (.type "ValueError") = some true) (xz_TextError : PySem.W.nsIn K cStatics "thirdparty.any" = some none) (xu_TextError : PySem.W.ks_superIn K xC_TextError xC_TextError "__init__" = some (some (.builtin "ValueError.__init__"))) (xy_TextError : PySem.W.typeIn K (.ref xI_TextError) = some (.type "function"))
    (xg_TextError : PySem.W.findIn K (.ref xC_TextError) "__getattribute__" = some (some (.builtin "BaseException.__getattribute__"))) (xh_TextError : PySem.W.findIn K (.ref xC_TextError) "__getattr__" = some none) (xD_TextError : PySem.W.hasDictIn K xC_TextError = true) (xn_TextError : PySem.W.findIn K (.ref xC_TextError) "column" = some none)
    (xe_TextError : PySem.W.clsIn K xC_TextError = some xcd_TextError) (xx_TextError : PySem.W.subIn K (.ref xC_TextError) (.ref xC_TextError) = some true) (xj_TextError : PySem.W.nsIn K mainGlobals "super" = some none) (xm_TextError : (l.prog.main.scope.names.lookup ("super" : Str)).isSome = false) (xW_TextError : PySem.W.findIn K (.ref xC_TextError) "words" = some none)
    {xL0 : Addr} (yA_L : PySem.W.findIn K (.ref xC_TextError) "__class__" = some (some (.builtin "object.__class__"))) (yN_L : PySem.W.specialIn K (.builtin "object.__class__") "__get__" = some (some (.builtin "getset_descriptor.__get__"))) (yT_L : PySem.W.takesIn K (.builtin "object.__class__") = some true) (yM_L : PySem.W.mroIn K xC_TextError (.type "object") = some true)
    (yL_L : PySem.W.nsIn K mainGlobals "LeastError" = some (some (.ref xL0))) (yB_L : PySem.W.subIn K (.ref xL0) (.type "BaseException") = some true) (yD_L : PySem.W.hasDictIn K xL0 = true) (yY_L : PySem.W.typeIn K (.ref xL0) = some (.type "type")) (yS_L : PySem.W.subIn K (.ref xC_TextError) (.ref xL0) = some true)    {xcdL : ClassData} (yC_L : PySem.W.clsIn K xL0 = some xcdL) (yF_L : PySem.W.subIn K (.ref xC_BadValue) (.ref xC_TextError) = some false) :
    ∃ fd : FuncData, (∀ (s : Shared) (v : Value), BindsTo s fd ⟨[v], []⟩ [("script", v)]) ∧ ∀ base : Heap, K.In base → base.Ns mainGlobals mg → FnOk l.prog w K mg base CX0 11 fa fd ["script"] (spLaw K) := by
  have e := hfa.symm.trans (PySem.W.mg_of X G a_law)
  cases e
  have T : Txt K mg := { b_abs := PySem.W.mg_none_of X G z_abs, b_all := PySem.W.mg_none_of X G z_all, b_bool := PySem.W.mg_none_of X G z_bool, b_int := PySem.W.mg_none_of X G z_int, b_isinstance := PySem.W.mg_none_of X G z_isinstance, b_len := PySem.W.mg_none_of X G z_len, b_list := PySem.W.mg_none_of X G z_list, b_range := PySem.W.mg_none_of X G z_range, b_str := PySem.W.mg_none_of X G z_str, b_sum := PySem.W.mg_none_of X G z_sum, b_tuple := PySem.W.mg_none_of X G z_tuple, b_zip := PySem.W.mg_none_of X G z_zip, k_MOST_VARIANTS := ⟨_, PySem.W.mg_of X G g_MOST_VARIANTS⟩, k_MOST_BUCKETS := ⟨_, PySem.W.mg_of X G g_MOST_BUCKETS⟩, k_GREATEST_DIVISOR := ⟨_, PySem.W.mg_of X G g_GREATEST_DIVISOR⟩, k_MOST_CHARACTERS := ⟨_, PySem.W.mg_of X G g_MOST_CHARACTERS⟩, k_LONGEST_NAME := ⟨_, PySem.W.mg_of X G g_LONGEST_NAME⟩, k_LONGEST_NUMBER := ⟨_, PySem.W.mg_of X G g_LONGEST_NUMBER⟩, k_LETTERS := ⟨_, PySem.W.mg_of X G g_LETTERS⟩, k_DIGITS := ⟨_, PySem.W.mg_of X G g_DIGITS⟩, k_IN_NAMES := ⟨_, PySem.W.mg_of X G g_IN_NAMES⟩, k_SIGNS := ⟨_, PySem.W.mg_of X G g_SIGNS⟩, t_SHARES := ⟨_, PySem.W.mg_of X G g_SHARES, fun c H hK => gtup_row (xs := [.ref gr_SHARES0, .ref gr_SHARES1, .ref gr_SHARES2, .ref gr_SHARES3, .ref gr_SHARES4, .ref gr_SHARES5, .ref gr_SHARES6, .ref gr_SHARES7, .ref gr_SHARES8]) hK gl_SHARES (by simp) (.cons rfl (.cons rfl (.cons rfl (.cons rfl (.cons rfl (.cons rfl (.cons rfl (.cons rfl (.cons rfl .nil))))))))) (.cons (gtup_row (xs := [.str (Str.ofString "start"), .str (Str.ofString "a name"), .str (Str.ofString "named")]) hK gl_SHARES0 (by simp) (.cons ⟨_, rfl⟩ (.cons ⟨_, rfl⟩ (.cons ⟨_, rfl⟩ .nil))) (.cons (.str _) (.cons (.str _) (.cons (.str _) .nil)))) (.cons (gtup_row (xs := [.str (Str.ofString "named"), .str (Str.ofString "a number"), .str (Str.ofString "counted")]) hK gl_SHARES1 (by simp) (.cons ⟨_, rfl⟩ (.cons ⟨_, rfl⟩ (.cons ⟨_, rfl⟩ .nil))) (.cons (.str _) (.cons (.str _) (.cons (.str _) .nil)))) (.cons (gtup_row (xs := [.str (Str.ofString "counted"), .str (Str.ofString "\",\""), .str (Str.ofString "start")]) hK gl_SHARES2 (by simp) (.cons ⟨_, rfl⟩ (.cons ⟨_, rfl⟩ (.cons ⟨_, rfl⟩ .nil))) (.cons (.str _) (.cons (.str _) (.cons (.str _) .nil)))) (.cons (gtup_row (xs := [.str (Str.ofString "counted"), .str (Str.ofString "\".\""), .str (Str.ofString "pointed")]) hK gl_SHARES3 (by simp) (.cons ⟨_, rfl⟩ (.cons ⟨_, rfl⟩ (.cons ⟨_, rfl⟩ .nil))) (.cons (.str _) (.cons (.str _) (.cons (.str _) .nil)))) (.cons (gtup_row (xs := [.str (Str.ofString "counted"), .str (Str.ofString "\"/\""), .str (Str.ofString "pointed")]) hK gl_SHARES4 (by simp) (.cons ⟨_, rfl⟩ (.cons ⟨_, rfl⟩ (.cons ⟨_, rfl⟩ .nil))) (.cons (.str _) (.cons (.str _) (.cons (.str _) .nil)))) (.cons (gtup_row (xs := [.str (Str.ofString "counted"), .str (Str.ofString "the end"), .str (Str.ofString "ended")]) hK gl_SHARES5 (by simp) (.cons ⟨_, rfl⟩ (.cons ⟨_, rfl⟩ (.cons ⟨_, rfl⟩ .nil))) (.cons (.str _) (.cons (.str _) (.cons (.str _) .nil)))) (.cons (gtup_row (xs := [.str (Str.ofString "pointed"), .str (Str.ofString "a number"), .str (Str.ofString "shared")]) hK gl_SHARES6 (by simp) (.cons ⟨_, rfl⟩ (.cons ⟨_, rfl⟩ (.cons ⟨_, rfl⟩ .nil))) (.cons (.str _) (.cons (.str _) (.cons (.str _) .nil)))) (.cons (gtup_row (xs := [.str (Str.ofString "shared"), .str (Str.ofString "\",\""), .str (Str.ofString "start")]) hK gl_SHARES7 (by simp) (.cons ⟨_, rfl⟩ (.cons ⟨_, rfl⟩ (.cons ⟨_, rfl⟩ .nil))) (.cons (.str _) (.cons (.str _) (.cons (.str _) .nil)))) (.cons (gtup_row (xs := [.str (Str.ofString "shared"), .str (Str.ofString "the end"), .str (Str.ofString "ended")]) hK gl_SHARES8 (by simp) (.cons ⟨_, rfl⟩ (.cons ⟨_, rfl⟩ (.cons ⟨_, rfl⟩ .nil))) (.cons (.str _) (.cons (.str _) (.cons (.str _) .nil)))) .nil)))))))))⟩, t_ASSIGNMENT := ⟨_, PySem.W.mg_of X G g_ASSIGNMENT, fun c H hK => gtup_row (xs := [.ref gr_ASSIGNMENT0, .ref gr_ASSIGNMENT1, .ref gr_ASSIGNMENT2, .ref gr_ASSIGNMENT3, .ref gr_ASSIGNMENT4, .ref gr_ASSIGNMENT5]) hK gl_ASSIGNMENT (by simp) (.cons rfl (.cons rfl (.cons rfl (.cons rfl (.cons rfl (.cons rfl .nil)))))) (.cons (gtup_row (xs := [.str (Str.ofString "start"), .str (Str.ofString "a number"), .str (Str.ofString "counted")]) hK gl_ASSIGNMENT0 (by simp) (.cons ⟨_, rfl⟩ (.cons ⟨_, rfl⟩ (.cons ⟨_, rfl⟩ .nil))) (.cons (.str _) (.cons (.str _) (.cons (.str _) .nil)))) (.cons (gtup_row (xs := [.str (Str.ofString "start"), .str (Str.ofString "the end"), .str (Str.ofString "ended")]) hK gl_ASSIGNMENT1 (by simp) (.cons ⟨_, rfl⟩ (.cons ⟨_, rfl⟩ (.cons ⟨_, rfl⟩ .nil))) (.cons (.str _) (.cons (.str _) (.cons (.str _) .nil)))) (.cons (gtup_row (xs := [.str (Str.ofString "counted"), .str (Str.ofString "a number"), .str (Str.ofString "counted")]) hK gl_ASSIGNMENT2 (by simp) (.cons ⟨_, rfl⟩ (.cons ⟨_, rfl⟩ (.cons ⟨_, rfl⟩ .nil))) (.cons (.str _) (.cons (.str _) (.cons (.str _) .nil)))) (.cons (gtup_row (xs := [.str (Str.ofString "counted"), .str (Str.ofString "\"*\""), .str (Str.ofString "repeated")]) hK gl_ASSIGNMENT3 (by simp) (.cons ⟨_, rfl⟩ (.cons ⟨_, rfl⟩ (.cons ⟨_, rfl⟩ .nil))) (.cons (.str _) (.cons (.str _) (.cons (.str _) .nil)))) (.cons (gtup_row (xs := [.str (Str.ofString "counted"), .str (Str.ofString "the end"), .str (Str.ofString "ended")]) hK gl_ASSIGNMENT4 (by simp) (.cons ⟨_, rfl⟩ (.cons ⟨_, rfl⟩ (.cons ⟨_, rfl⟩ .nil))) (.cons (.str _) (.cons (.str _) (.cons (.str _) .nil)))) (.cons (gtup_row (xs := [.str (Str.ofString "repeated"), .str (Str.ofString "a number"), .str (Str.ofString "start")]) hK gl_ASSIGNMENT5 (by simp) (.cons ⟨_, rfl⟩ (.cons ⟨_, rfl⟩ (.cons ⟨_, rfl⟩ .nil))) (.cons (.str _) (.cons (.str _) (.cons (.str _) .nil)))) .nil))))))⟩, i_gcd := PySem.W.mg_of X G i_gcd, i_lcm := PySem.W.mg_of X G i_lcm }
  have F_is_integer := fun_mk (st := s_is_integer) l_is_integer o_is_integer k_is_integer
  have b_is_integer := F_is_integer.binds (ps := p_is_integer) fun _ _ _ _ _ _ us hl => match us, hl with | [_, _, _], _ => rfl
  have m_is_integer := PySem.W.mg_of X G a_is_integer
  have F_require := fun_mk (st := s_require) l_require o_require k_require
  have b_require := F_require.binds (ps := p_require) fun _ _ _ _ _ _ us hl => match us, hl with | [_, _], _ => rfl
  have m_require := PySem.W.mg_of X G a_require
  have F_check_variants := fun_mk (st := s_check_variants) l_check_variants o_check_variants k_check_variants
  have b_check_variants := F_check_variants.binds (ps := p_check_variants) fun _ _ _ _ _ _ us hl => match us, hl with | [_], _ => rfl
  have m_check_variants := PySem.W.mg_of X G a_check_variants
  have F_in_lowest_terms := fun_mk (st := s_in_lowest_terms) l_in_lowest_terms o_in_lowest_terms k_in_lowest_terms
  have b_in_lowest_terms := F_in_lowest_terms.binds (ps := p_in_lowest_terms) fun _ _ _ _ _ _ us hl => match us, hl with | [_, _], _ => rfl
  have m_in_lowest_terms := PySem.W.mg_of X G a_in_lowest_terms
  have F_common_divisor_of := fun_mk (st := s_common_divisor_of) l_common_divisor_of o_common_divisor_of k_common_divisor_of
  have b_common_divisor_of := F_common_divisor_of.binds (ps := p_common_divisor_of) fun _ _ _ _ _ _ us hl => match us, hl with | [_], _ => rfl
  have m_common_divisor_of := PySem.W.mg_of X G a_common_divisor_of
  have F_weights_of := fun_mk (st := s_weights_of) l_weights_of o_weights_of k_weights_of
  have b_weights_of := F_weights_of.binds (ps := p_weights_of) fun _ _ _ _ _ _ us hl => match us, hl with | [_], _ => rfl
  have m_weights_of := PySem.W.mg_of X G a_weights_of
  have F_are_the_whole := fun_mk (st := s_are_the_whole) l_are_the_whole o_are_the_whole k_are_the_whole
  have b_are_the_whole := F_are_the_whole.binds (ps := p_are_the_whole) fun _ _ _ _ _ _ us hl => match us, hl with | [_], _ => rfl
  have m_are_the_whole := PySem.W.mg_of X G a_are_the_whole
  have F_check_text := fun_mk (st := s_check_text) l_check_text o_check_text k_check_text
  have b_check_text := F_check_text.binds (ps := p_check_text) fun _ _ _ _ _ _ us hl => match us, hl with | [_], _ => rfl
  have m_check_text := PySem.W.mg_of X G a_check_text
  have F_run_at := fun_mk (st := s_run_at) l_run_at o_run_at k_run_at
  have b_run_at := F_run_at.binds (ps := p_run_at) fun _ _ _ _ _ _ us hl => match us, hl with | [_, _, _], _ => rfl
  have m_run_at := PySem.W.mg_of X G a_run_at
  have F_name_at := fun_mk (st := s_name_at) l_name_at o_name_at k_name_at
  have b_name_at := F_name_at.binds (ps := p_name_at) fun _ _ _ _ _ _ us hl => match us, hl with | [_, _], _ => rfl
  have m_name_at := PySem.W.mg_of X G a_name_at
  have F_number_at := fun_mk (st := s_number_at) l_number_at o_number_at k_number_at
  have b_number_at := F_number_at.binds (ps := p_number_at) fun _ _ _ _ _ _ us hl => match us, hl with | [_, _], _ => rfl
  have m_number_at := PySem.W.mg_of X G a_number_at
  have F_token_at := fun_mk (st := s_token_at) l_token_at o_token_at k_token_at
  have b_token_at := F_token_at.binds (ps := p_token_at) fun _ _ _ _ _ _ us hl => match us, hl with | [_, _], _ => rfl
  have m_token_at := PySem.W.mg_of X G a_token_at
  have F_scan := fun_mk (st := s_scan) l_scan o_scan k_scan
  have b_scan := F_scan.binds (ps := p_scan) fun _ _ _ _ _ _ us hl => match us, hl with | [_], _ => rfl
  have m_scan := PySem.W.mg_of X G a_scan
  have F_word_of := fun_mk (st := s_word_of) l_word_of o_word_of k_word_of
  have b_word_of := F_word_of.binds (ps := p_word_of) fun _ _ _ _ _ _ us hl => match us, hl with | [_], _ => rfl
  have m_word_of := PySem.W.mg_of X G a_word_of
  have F_words_at := fun_mk (st := s_words_at) l_words_at o_words_at k_words_at
  have b_words_at := F_words_at.binds (ps := p_words_at) fun _ _ _ _ _ _ us hl => match us, hl with | [_, _], _ => rfl
  have m_words_at := PySem.W.mg_of X G a_words_at
  have F_either := fun_mk (st := s_either) l_either o_either k_either
  have b_either := F_either.binds (ps := p_either) fun _ _ _ _ _ _ us hl => match us, hl with | [_], _ => rfl
  have m_either := PySem.W.mg_of X G a_either
  have F_place_behind := fun_mk (st := s_place_behind) l_place_behind o_place_behind k_place_behind
  have b_place_behind := F_place_behind.binds (ps := p_place_behind) fun _ _ _ _ _ _ us hl => match us, hl with | [_, _, _], _ => rfl
  have m_place_behind := PySem.W.mg_of X G a_place_behind
  have F_place_after := fun_mk (st := s_place_after) l_place_after o_place_after k_place_after
  have b_place_after := F_place_after.binds (ps := p_place_after) fun _ _ _ _ _ _ us hl => match us, hl with | [_, _], _ => rfl
  have m_place_after := PySem.W.mg_of X G a_place_after
  have F_next_tokens := fun_mk (st := s_next_tokens) l_next_tokens o_next_tokens k_next_tokens
  have b_next_tokens := F_next_tokens.binds (ps := p_next_tokens) fun _ _ _ _ _ _ us hl => match us, hl with | [_, _], _ => rfl
  have m_next_tokens := PySem.W.mg_of X G a_next_tokens
  have F_parted_at_commas := fun_mk (st := s_parted_at_commas) l_parted_at_commas o_parted_at_commas k_parted_at_commas
  have b_parted_at_commas := F_parted_at_commas.binds (ps := p_parted_at_commas) fun _ _ _ _ _ _ us hl => match us, hl with | [_], _ => rfl
  have m_parted_at_commas := PySem.W.mg_of X G a_parted_at_commas
  have F_check_share_name := fun_mk (st := s_check_share_name) l_check_share_name o_check_share_name k_check_share_name
  have b_check_share_name := F_check_share_name.binds (ps := p_check_share_name) fun _ _ _ _ _ _ us hl => match us, hl with | [_, _], _ => rfl
  have m_check_share_name := PySem.W.mg_of X G a_check_share_name
  have F_quotient_of := fun_mk (st := s_quotient_of) l_quotient_of o_quotient_of k_quotient_of
  have b_quotient_of := F_quotient_of.binds (ps := p_quotient_of) fun _ _ _ _ _ _ us hl => match us, hl with | [_], _ => rfl
  have m_quotient_of := PySem.W.mg_of X G a_quotient_of
  have F_share_of := fun_mk (st := s_share_of) l_share_of o_share_of k_share_of
  have b_share_of := F_share_of.binds (ps := p_share_of) fun _ _ _ _ _ _ us hl => match us, hl with | [_], _ => rfl
  have m_share_of := PySem.W.mg_of X G a_share_of
  have F_read_shares := fun_mk (st := s_read_shares) l_read_shares o_read_shares k_read_shares
  have b_read_shares := F_read_shares.binds (ps := p_read_shares) fun _ _ _ _ _ _ us hl => match us, hl with | [_], _ => rfl
  have m_read_shares := PySem.W.mg_of X G a_read_shares
  have F_parted_in_runs := fun_mk (st := s_parted_in_runs) l_parted_in_runs o_parted_in_runs k_parted_in_runs
  have b_parted_in_runs := F_parted_in_runs.binds (ps := p_parted_in_runs) fun _ _ _ _ _ _ us hl => match us, hl with | [_], _ => rfl
  have m_parted_in_runs := PySem.W.mg_of X G a_parted_in_runs
  have F_run_of := fun_mk (st := s_run_of) l_run_of o_run_of k_run_of
  have b_run_of := F_run_of.binds (ps := p_run_of) fun _ _ _ _ _ _ us hl => match us, hl with | [_, _], _ => rfl
  have m_run_of := PySem.W.mg_of X G a_run_of
  have F_read_assignment := fun_mk (st := s_read_assignment) l_read_assignment o_read_assignment k_read_assignment
  have b_read_assignment := F_read_assignment.binds (ps := p_read_assignment) fun _ _ _ _ _ _ us hl => match us, hl with | [_, _], _ => rfl
  have m_read_assignment := PySem.W.mg_of X G a_read_assignment
  have F__law_stream := fun_mk (st := s__law_stream) l__law_stream o__law_stream k__law_stream
  have b__law_stream := F__law_stream.binds (ps := p__law_stream) fun _ _ _ _ _ _ us hl => match us, hl with | [_], _ => rfl
  have m__law_stream := PySem.W.mg_of X G a__law_stream
  have F__law_next := fun_mk (st := s__law_next) l__law_next o__law_next k__law_next
  have b__law_next := F__law_next.binds (ps := p__law_next) fun _ _ _ _ _ _ us hl => match us, hl with | [_, _], _ => rfl
  have m__law_next := PySem.W.mg_of X G a__law_next
  have F__law_is_integer := fun_mk (st := s__law_is_integer) l__law_is_integer o__law_is_integer k__law_is_integer
  have b__law_is_integer := F__law_is_integer.binds (ps := p__law_is_integer) fun _ _ _ _ _ _ us hl => match us, hl with | [_], _ => rfl
  have m__law_is_integer := PySem.W.mg_of X G a__law_is_integer
  have F__law_equal := fun_mk (st := s__law_equal) l__law_equal o__law_equal k__law_equal
  have b__law_equal := F__law_equal.binds (ps := p__law_equal) fun _ _ _ _ _ _ us hl => match us, hl with | [_, _], _ => rfl
  have m__law_equal := PySem.W.mg_of X G a__law_equal
  have F__law_pick := fun_mk (st := s__law_pick) l__law_pick o__law_pick k__law_pick
  have b__law_pick := F__law_pick.binds (ps := p__law_pick) fun _ _ _ _ _ _ us hl => match us, hl with | [_, _], _ => rfl
  have m__law_pick := PySem.W.mg_of X G a__law_pick
  have F__law_share_rows := fun_mk (st := s__law_share_rows) l__law_share_rows o__law_share_rows k__law_share_rows
  have b__law_share_rows := F__law_share_rows.binds (ps := p__law_share_rows) fun _ _ _ _ _ _ us hl => match us, hl with | [], _ => rfl
  have m__law_share_rows := PySem.W.mg_of X G a__law_share_rows
  have F__law_run_rows := fun_mk (st := s__law_run_rows) l__law_run_rows o__law_run_rows k__law_run_rows
  have b__law_run_rows := F__law_run_rows.binds (ps := p__law_run_rows) fun _ _ _ _ _ _ us hl => match us, hl with | [], _ => rfl
  have m__law_run_rows := PySem.W.mg_of X G a__law_run_rows
  have F__law_told := fun_mk (st := s__law_told) l__law_told o__law_told k__law_told
  have b__law_told := F__law_told.binds (ps := p__law_told) fun _ _ _ _ _ _ us hl => match us, hl with | [_, _, _], _ => rfl
  have m__law_told := PySem.W.mg_of X G a__law_told
  have F__law_refused := fun_mk (st := s__law_refused) l__law_refused o__law_refused k__law_refused
  have b__law_refused := F__law_refused.binds (ps := p__law_refused) fun _ _ _ _ _ _ us hl => match us, hl with | [_, _, _], _ => rfl
  have m__law_refused := PySem.W.mg_of X G a__law_refused
  have F_law := fun_mk (st := s_law) l_law o_law k_law
  have O_BadValue : OexC K xC_BadValue := ⟨⟨_, _, _, _, _, _, _, _, _, _, _, _, _, _, _, xk_BadValue, xr_BadValue⟩, xs_BadValue, xb_BadValue, xt_BadValue, xp_BadValue⟩
  have I_BadValue := fun base => ok_ini_BadValue (P := l.prog) (w := w) (mg := mg) (base := base) xl_BadValue xo_BadValue xd_BadValue xv_BadValue xf_BadValue xc_BadValue O_BadValue xn_BadValue (PySem.W.mg_none_of X G xj_BadValue) xw_BadValue xz_BadValue xu_BadValue xm_BadValue
  have J_BadValue : Binds K (PySem.W.ksFn "__init__" "BadValue.__init__" (defArgs s_ini_BadValue) (defBody s_ini_BadValue) (defScope s_ini_BadValue) .none xkV_BadValue xdoc_BadValue xpm_BadValue xan_BadValue (.ref xcda_BadValue) xct_BadValue xcc_BadValue) ["self", "name"] [] := .all fun us hl => match us, hl with | [_, _], _ => rfl
  have E_BadValue : ∀ base, Exc1 l.prog w K mg base "BadValue" "name" xC_BadValue := fun base => ⟨O_BadValue, ⟨xg_BadValue, xh_BadValue, xb_BadValue, xD_BadValue⟩, PySem.W.mg_of X G xa_BadValue, xn_BadValue, exm_self xb_BadValue xe_BadValue xt_BadValue xx_BadValue, _, _, xi_BadValue, xy_BadValue, I_BadValue base, J_BadValue⟩
  have O_TextError : OexC K xC_TextError := ⟨⟨_, _, _, _, _, _, _, _, _, _, _, _, _, _, _, xk_TextError, xr_TextError⟩, xs_TextError, xb_TextError, xt_TextError, xp_TextError⟩
  have I_TextError := fun base => ok_ini_TextError (P := l.prog) (w := w) (mg := mg) (base := base) xl_TextError xo_TextError xd_TextError xv_TextError xf_TextError xc_TextError O_TextError xn_TextError xW_TextError (PySem.W.mg_none_of X G xj_TextError) xw_TextError xz_TextError xu_TextError xm_TextError
  have J_TextError : Binds K (PySem.W.ksFn "__init__" "TextError.__init__" (defArgs s_ini_TextError) (defBody s_ini_TextError) (defScope s_ini_TextError) .none xkV_TextError xdoc_TextError xpm_TextError xan_TextError (.ref xcda_TextError) xct_TextError xcc_TextError) ["self", "column", "words"] [] := .all fun us hl => match us, hl with | [_, _, _], _ => rfl
  have E_TextError : ∀ base, ExcT l.prog w K mg base xC_TextError := fun base => ⟨O_TextError, ⟨xg_TextError, xh_TextError, xb_TextError, xD_TextError⟩, PySem.W.mg_of X G xa_TextError, xn_TextError, xW_TextError, exm_self xb_TextError xe_TextError xt_TextError xx_TextError, _, _, xi_TextError, xy_TextError, I_TextError base, J_TextError⟩
  have H_TextError : ExcH K mg xC_TextError xL0 := ⟨⟨xg_TextError, xh_TextError, xb_TextError, xD_TextError, yA_L, yN_L, yT_L, yM_L⟩, PySem.W.mg_of X G yL_L, PySem.W.exm_ref yB_L yD_L yY_L yS_L, kit_val xw_TextError⟩
  have KL_TextError := kit_ref yC_L yY_L yS_L
  have NO := exm_no xb_TextError xe_TextError xt_TextError yF_L
  refine ⟨PySem.W.fnOf "law" "law" (defArgs s_law) (defBody s_law) (defScope s_law) .none kV_law dc_law pm_law an_law cd_law ct_law, fun s v => .of_eq rfl, fun base _ _ => ?_⟩
  have c_is_integer : Cal l.prog w K mg base CX0 1 "is_integer" p_is_integer (sp_is_integer K) := ⟨_, _, ok_is_integer F_is_integer T, m_is_integer, k_is_integer, b_is_integer⟩
  have c_require : Cal l.prog w K mg base CX0 1 "require" p_require (sp_require K) := ⟨_, _, ok_require F_require T, m_require, k_require, b_require⟩
  have c_in_lowest_terms : Cal l.prog w K mg base CX0 1 "in_lowest_terms" p_in_lowest_terms (sp_in_lowest_terms K) := ⟨_, _, ok_in_lowest_terms F_in_lowest_terms T, m_in_lowest_terms, k_in_lowest_terms, b_in_lowest_terms⟩
  have c_common_divisor_of : Cal l.prog w K mg base CX0 1 "common_divisor_of" p_common_divisor_of (sp_common_divisor_of K) := ⟨_, _, ok_common_divisor_of F_common_divisor_of T, m_common_divisor_of, k_common_divisor_of, b_common_divisor_of⟩
  have c_run_at : Cal l.prog w K mg base CX0 1 "run_at" p_run_at (sp_run_at K) := ⟨_, _, ok_run_at F_run_at T, m_run_at, k_run_at, b_run_at⟩
  have c_word_of : Cal l.prog w K mg base CX0 1 "word_of" p_word_of (sp_word_of K) := ⟨_, _, ok_word_of F_word_of T, m_word_of, k_word_of, b_word_of⟩
  have c_words_at : Cal l.prog w K mg base CX0 1 "words_at" p_words_at (sp_words_at K) := ⟨_, _, ok_words_at F_words_at T, m_words_at, k_words_at, b_words_at⟩
  have c_either : Cal l.prog w K mg base CX0 1 "either" p_either (sp_either K) := ⟨_, _, ok_either F_either T, m_either, k_either, b_either⟩
  have c_parted_at_commas : Cal l.prog w K mg base CX0 1 "parted_at_commas" p_parted_at_commas (sp_parted_at_commas K) := ⟨_, _, ok_parted_at_commas F_parted_at_commas T, m_parted_at_commas, k_parted_at_commas, b_parted_at_commas⟩
  have c_check_share_name : Cal l.prog w K mg base CX0 1 "check_share_name" p_check_share_name (sp_check_share_name K) := ⟨_, _, ok_check_share_name F_check_share_name T, m_check_share_name, k_check_share_name, b_check_share_name⟩
  have c_quotient_of : Cal l.prog w K mg base CX0 1 "quotient_of" p_quotient_of (sp_quotient_of K) := ⟨_, _, ok_quotient_of F_quotient_of T, m_quotient_of, k_quotient_of, b_quotient_of⟩
  have c_parted_in_runs : Cal l.prog w K mg base CX0 1 "parted_in_runs" p_parted_in_runs (sp_parted_in_runs K) := ⟨_, _, ok_parted_in_runs F_parted_in_runs T, m_parted_in_runs, k_parted_in_runs, b_parted_in_runs⟩
  have c_run_of : Cal l.prog w K mg base CX0 1 "run_of" p_run_of (sp_run_of K) := ⟨_, _, ok_run_of F_run_of T, m_run_of, k_run_of, b_run_of⟩
  have c__law_stream : Cal l.prog w K mg base CX0 1 "_law_stream" p__law_stream (sp__law_stream K) := ⟨_, _, ok__law_stream F__law_stream T, m__law_stream, k__law_stream, b__law_stream⟩
  have c__law_next : Cal l.prog w K mg base CX0 1 "_law_next" p__law_next (sp__law_next K) := ⟨_, _, ok__law_next F__law_next T, m__law_next, k__law_next, b__law_next⟩
  have c__law_is_integer : Cal l.prog w K mg base CX0 1 "_law_is_integer" p__law_is_integer (sp__law_is_integer K) := ⟨_, _, ok__law_is_integer F__law_is_integer T, m__law_is_integer, k__law_is_integer, b__law_is_integer⟩
  have c__law_share_rows : Cal l.prog w K mg base CX0 1 "_law_share_rows" p__law_share_rows (sp__law_share_rows K) := ⟨_, _, ok__law_share_rows F__law_share_rows T, m__law_share_rows, k__law_share_rows, b__law_share_rows⟩
  have c__law_run_rows : Cal l.prog w K mg base CX0 1 "_law_run_rows" p__law_run_rows (sp__law_run_rows K) := ⟨_, _, ok__law_run_rows F__law_run_rows T, m__law_run_rows, k__law_run_rows, b__law_run_rows⟩
  have c_check_variants : Cal l.prog w K mg base CX0 2 "check_variants" p_check_variants (sp_check_variants K) := ⟨_, _, ok_check_variants F_check_variants T c_require c_is_integer, m_check_variants, k_check_variants, b_check_variants⟩
  have c_weights_of : Cal l.prog w K mg base CX0 2 "weights_of" p_weights_of (sp_weights_of K) := ⟨_, _, ok_weights_of F_weights_of T c_common_divisor_of, m_weights_of, k_weights_of, b_weights_of⟩
  have c_check_text : Cal l.prog w K mg base CX0 2 "check_text" p_check_text (sp_check_text K) := ⟨_, _, ok_check_text F_check_text T c_require, m_check_text, k_check_text, b_check_text⟩
  have c_name_at : Cal l.prog w K mg base CX0 2 "name_at" p_name_at (sp_name_at K) := ⟨_, _, ok_name_at F_name_at T c_run_at, m_name_at, k_name_at, b_name_at⟩
  have c_number_at : Cal l.prog w K mg base CX0 2 "number_at" p_number_at (sp_number_at K) := ⟨_, _, ok_number_at F_number_at T c_run_at, m_number_at, k_number_at, b_number_at⟩
  have c_place_behind : Cal l.prog w K mg base CX0 2 "place_behind" p_place_behind (sp_place_behind K) := ⟨_, _, ok_place_behind F_place_behind T c_word_of c_either c_words_at, m_place_behind, k_place_behind, b_place_behind⟩
  have c_share_of : Cal l.prog w K mg base CX0 2 "share_of" p_share_of (sp_share_of K) := ⟨_, _, ok_share_of F_share_of T c_quotient_of c_in_lowest_terms, m_share_of, k_share_of, b_share_of⟩
  have c__law_pick : Cal l.prog w K mg base CX0 2 "_law_pick" p__law_pick (sp__law_pick K) := ⟨_, _, ok__law_pick F__law_pick T c__law_next, m__law_pick, k__law_pick, b__law_pick⟩
  have c_are_the_whole : Cal l.prog w K mg base CX0 3 "are_the_whole" p_are_the_whole (sp_are_the_whole K) := ⟨_, _, ok_are_the_whole F_are_the_whole T c_common_divisor_of c_weights_of, m_are_the_whole, k_are_the_whole, b_are_the_whole⟩
  have c_token_at : Cal l.prog w K mg base CX0 3 "token_at" p_token_at (sp_token_at K) := ⟨_, _, ok_token_at F_token_at T c_name_at c_number_at, m_token_at, k_token_at, b_token_at⟩
  have c_place_after : Cal l.prog w K mg base CX0 3 "place_after" p_place_after (sp_place_after K) := ⟨_, _, ok_place_after F_place_after T c_place_behind, m_place_after, k_place_after, b_place_after⟩
  have c_scan : Cal l.prog w K mg base CX0 4 "scan" p_scan (sp_scan K) := ⟨_, _, ok_scan F_scan T c_check_text c_token_at, m_scan, k_scan, b_scan⟩
  have c_next_tokens : Cal l.prog w K mg base CX0 5 "next_tokens" p_next_tokens (sp_next_tokens K) := ⟨_, _, ok_next_tokens F_next_tokens T c_check_text c_require c_words_at c_place_after c_scan, m_next_tokens, k_next_tokens, b_next_tokens⟩
  have c_read_shares : Cal l.prog w K mg base CX0 5 "read_shares" p_read_shares (sp_read_shares K) := ⟨_, _, ok_read_shares F_read_shares T c_scan c_place_after c_parted_at_commas c_check_share_name c_are_the_whole c_share_of, m_read_shares, k_read_shares, b_read_shares⟩
  have c_read_assignment : Cal l.prog w K mg base CX0 5 "read_assignment" p_read_assignment (sp_read_assignment K) := ⟨_, _, ok_read_assignment F_read_assignment T c_check_text c_check_variants c_scan c_place_after c_parted_in_runs c_run_of, m_read_assignment, k_read_assignment, b_read_assignment⟩
  have X_require := ok_requireX F_require T (E_BadValue base)
  have X_check_text := fn_or (sp' := spRef K xC_BadValue RcTx) ((fn_up0 (CX := L2.CX l.prog w) (ok_check_text F_check_text T c_require)).mono (k := 5) (by decide)) (ok_check_textX (CT := xC_TextError) F_check_text T X_require m_require k_require b_require)
  have X_name_at := fn_or (sp' := spRefT K xC_TextError RtNm) ((fn_up0 (CX := L2.CX l.prog w) (ok_name_at F_name_at T c_run_at)).mono (k := 4) (by decide)) (ok_name_atT (C := xC_BadValue) F_name_at T (E_TextError base) c_run_at)
  have X_number_at := fn_or (sp' := spRefT K xC_TextError RtNu) ((fn_up0 (CX := L2.CX l.prog w) (ok_number_at F_number_at T c_run_at)).mono (k := 4) (by decide)) (ok_number_atT (C := xC_BadValue) F_number_at T (E_TextError base) c_run_at)
  have X_token_at := fn_or (sp' := spRefT K xC_TextError RtTk) ((fn_up0 (CX := L2.CX l.prog w) (ok_token_at F_token_at T c_name_at c_number_at)).mono (k := 5) (by decide)) (ok_token_atT (C := xC_BadValue) F_token_at T (E_TextError base) X_name_at m_name_at k_name_at b_name_at X_number_at m_number_at k_number_at b_number_at)
  have X_scan := fn_or (sp' := spRefT K xC_TextError RtSc) (fn_or (sp' := spRef K xC_BadValue RcTx) ((fn_up0 (CX := L2.CX l.prog w) (ok_scan F_scan T c_check_text c_token_at)).mono (k := 6) (by decide)) (ok_scanX (CT := xC_TextError) F_scan T X_check_text m_check_text k_check_text b_check_text X_token_at m_token_at k_token_at b_token_at)) (ok_scanT (C := xC_BadValue) F_scan T (E_TextError base) X_check_text m_check_text k_check_text b_check_text X_token_at m_token_at k_token_at b_token_at)
  have X_place_behind := fn_or (sp' := spRefT K xC_TextError RtPb) ((fn_up0 (CX := L2.CX l.prog w) (ok_place_behind F_place_behind T c_word_of c_either c_words_at)).mono (k := 4) (by decide)) (ok_place_behindT (C := xC_BadValue) F_place_behind T (E_TextError base) c_word_of c_either c_words_at)
  have X_place_after := fn_or (sp' := spRefT K xC_TextError RtPa) ((fn_up0 (CX := L2.CX l.prog w) (ok_place_after F_place_after T c_place_behind)).mono (k := 5) (by decide)) (ok_place_afterT (C := xC_BadValue) F_place_after T (E_TextError base) X_place_behind m_place_behind k_place_behind b_place_behind)
  have X_check_share_name := fn_or (sp' := spRefT K xC_TextError RtCn) ((fn_up0 (CX := L2.CX l.prog w) (ok_check_share_name F_check_share_name T)).mono (k := 4) (by decide)) (ok_check_share_nameT (C := xC_BadValue) F_check_share_name T (E_TextError base))
  have X_quotient_of := fn_or (sp' := spRefT K xC_TextError RtQu) ((fn_up0 (CX := L2.CX l.prog w) (ok_quotient_of F_quotient_of T)).mono (k := 4) (by decide)) (ok_quotient_ofT (C := xC_BadValue) F_quotient_of T (E_TextError base))
  have X_share_of := fn_or (sp' := spRefT K xC_TextError RtSh) ((fn_up0 (CX := L2.CX l.prog w) (ok_share_of F_share_of T c_quotient_of c_in_lowest_terms)).mono (k := 5) (by decide)) (ok_share_ofT (C := xC_BadValue) F_share_of T (E_TextError base) c_in_lowest_terms X_quotient_of m_quotient_of k_quotient_of b_quotient_of)
  have X_read_shares := fn_or (sp' := spRefT K xC_TextError RtRs) (fn_or (sp' := spRef K xC_BadValue RcTx) ((fn_up0 (CX := L2.CX l.prog w) (ok_read_shares F_read_shares T c_scan c_place_after c_parted_at_commas c_check_share_name c_are_the_whole c_share_of)).mono (k := 7) (by decide)) (ok_read_sharesX (CT := xC_TextError) F_read_shares T (E_TextError base) c_parted_at_commas c_are_the_whole X_scan m_scan k_scan b_scan X_place_after m_place_after k_place_after b_place_after X_check_share_name m_check_share_name k_check_share_name b_check_share_name X_share_of m_share_of k_share_of b_share_of)) (ok_read_sharesT (C := xC_BadValue) F_read_shares T (E_TextError base) c_parted_at_commas c_are_the_whole X_scan m_scan k_scan b_scan X_place_after m_place_after k_place_after b_place_after X_check_share_name m_check_share_name k_check_share_name b_check_share_name X_share_of m_share_of k_share_of b_share_of)
  have X_check_variants := fn_or (sp' := spRef K xC_BadValue RcV) ((fn_up0 (CX := L2.CX l.prog w) (ok_check_variants F_check_variants T c_require c_is_integer)).mono (k := 5) (by decide)) (ok_check_variantsX (CT := xC_TextError) F_check_variants T c_is_integer X_require m_require k_require b_require)
  have X_run_of := fn_or (sp' := spRefT K xC_TextError RtRn) ((fn_up0 (CX := L2.CX l.prog w) (ok_run_of F_run_of T)).mono (k := 4) (by decide)) (ok_run_ofT (C := xC_BadValue) F_run_of T (E_TextError base))
  have X_read_assignment := fn_or (sp' := spRefT K xC_TextError RtRa) (fn_or (sp' := spRef K xC_BadValue RcRa) ((fn_up0 (CX := L2.CX l.prog w) (ok_read_assignment F_read_assignment T c_check_text c_check_variants c_scan c_place_after c_parted_in_runs c_run_of)).mono (k := 7) (by decide)) (ok_read_assignmentX (CT := xC_TextError) F_read_assignment T (E_TextError base) c_parted_in_runs X_check_text m_check_text k_check_text b_check_text X_check_variants m_check_variants k_check_variants b_check_variants X_scan m_scan k_scan b_scan X_place_after m_place_after k_place_after b_place_after X_run_of m_run_of k_run_of b_run_of)) (ok_read_assignmentT (C := xC_BadValue) F_read_assignment T (E_TextError base) c_parted_in_runs X_check_text m_check_text k_check_text b_check_text X_check_variants m_check_variants k_check_variants b_check_variants X_scan m_scan k_scan b_scan X_place_after m_place_after k_place_after b_place_after X_run_of m_run_of k_run_of b_run_of)
  have X_next_tokens := fn_or (sp' := spRefT K xC_TextError RtNx) (fn_or (sp' := spRef K xC_BadValue RcNx) ((fn_up0 (CX := L2.CX l.prog w) (ok_next_tokens F_next_tokens T c_check_text c_require c_words_at c_place_after c_scan)).mono (k := 7) (by decide)) (ok_next_tokensX (CT := xC_TextError) F_next_tokens T c_words_at X_check_text m_check_text k_check_text b_check_text X_require m_require k_require b_require X_scan m_scan k_scan b_scan X_place_after m_place_after k_place_after b_place_after)) (ok_next_tokensT (C := xC_BadValue) F_next_tokens T (E_TextError base) c_words_at X_check_text m_check_text k_check_text b_check_text X_require m_require k_require b_require X_scan m_scan k_scan b_scan X_place_after m_place_after k_place_after b_place_after)
  have c__law_told : Cal l.prog w K mg base CX0 8 "_law_told" p__law_told (sp__law_told93 K) := ⟨_, _, (fn_down0 (fun vs H Q E h => h) (ok__law_toldX (C := xC_BadValue) F__law_told T (E_TextError base) X_read_shares m_read_shares k_read_shares b_read_shares X_read_assignment m_read_assignment k_read_assignment b_read_assignment)).mono (by decide), m__law_told, k__law_told, b__law_told⟩
  have c__law_refused : Cal l.prog w K mg base CX0 8 "_law_refused" p__law_refused (sp__law_refused93 K) := ⟨_, _, (fn_down0 (fun vs H Q E h => h) (ok__law_refusedX (CT := xC_TextError) F__law_refused T (E_BadValue base) X_next_tokens m_next_tokens k_next_tokens b_next_tokens X_read_assignment m_read_assignment k_read_assignment b_read_assignment X_read_shares m_read_shares k_read_shares b_read_shares)).mono (by decide), m__law_refused, k__law_refused, b__law_refused⟩
  have c__law_equal : Cal l.prog w K mg base CX0 10 "_law_equal" p__law_equal (sp__law_equal K) := ⟨_, _, ok__law_equal F__law_equal T c__law_is_integer m__law_equal b__law_equal, m__law_equal, k__law_equal, b__law_equal⟩
  exact ok_law F_law T c__law_stream c__law_pick c__law_next c__law_equal c__law_refused c__law_share_rows c__law_run_rows c__law_told
theorem walk {l : PySem.W.OpenLaw} {q : Program} {loose : List Str} {XP : (Str → Option Value) → Heap → Prop} {YP : World → Heap → Prop} {d : DefRec} {K : Params → PySem.W.Frag} (hn : l.most = some 63) (hdf : d.params.defaults = [])
    (hY : ∀ (w : World) (h : Heap), YP w h → (K w.params).In h)
    (F : ∀ (w : World) (mg : Str → Option Value) (fa : Addr) (h : Heap), (K w.params).In h → h.Ns mainGlobals mg → mg d.name = some (.ref fa) →
      ∃ fd : FuncData, (∀ (s : Shared) (u : Value), BindsTo s fd ⟨[u], []⟩ [("script", u)]) ∧ ∀ base : Heap, (K w.params).In base → base.Ns mainGlobals mg → FnOk l.prog w (K w.params) mg base CX0 11 fa fd ["script"] (spLaw (K w.params))) :
    PySem.W.WalkO q loose XP YP l.row.toRowW d [] (fun f vs => PySem.call f vs) :=
  L2.walk_of (n := 63) (k := 11) (x := "script") (CX := fun _ => CX0) (sp := fun w => spLaw (K w.params)) hn (by decide) hdf ⟨rfl, by decide, by decide⟩ hY F (fun _ _ a ns hl _ hS => ⟨a, ns, rfl, hS, hl, fun _ => rfl⟩) fun _ _ _ _ _ z => z
end W
open PySem PySem.W PyProof.Rows
set_option maxRecDepth 100000 in
set_option maxHeartbeats 0 in
theorem PySem.Challenge.cw_leastmoved_k93_problems_of_texts_holds : PySem.Challenge.rw_leastmoved_k93_problems_of_texts.Holds := by
  w_on; o_law; k_head; (case hw => w_witness2)
  k_fill
  refine W.walk (l := PySem.Challenge.rw_leastmoved_k93_problems_of_texts) rfl rfl (fun w h Y => PySem.W.kIn_of Y) ?F
  case F =>
    intro w mg fa h KX G hmg
    refine' W.all_mk KX G hmg ?a_is_integer ?l_is_integer ?o_is_integer ?k_is_integer ?a_require ?l_require ?o_require ?k_require ?a_check_variants ?l_check_variants ?o_check_variants ?k_check_variants ?a_in_lowest_terms ?l_in_lowest_terms ?o_in_lowest_terms ?k_in_lowest_terms ?a_common_divisor_of ?l_common_divisor_of ?o_common_divisor_of ?k_common_divisor_of ?a_weights_of ?l_weights_of ?o_weights_of ?k_weights_of ?a_are_the_whole ?l_are_the_whole ?o_are_the_whole ?k_are_the_whole ?a_check_text ?l_check_text ?o_check_text ?k_check_text ?a_run_at ?l_run_at ?o_run_at ?k_run_at ?a_name_at ?l_name_at ?o_name_at ?k_name_at ?a_number_at ?l_number_at ?o_number_at ?k_number_at ?a_token_at ?l_token_at ?o_token_at ?k_token_at ?a_scan ?l_scan ?o_scan ?k_scan ?a_word_of ?l_word_of ?o_word_of ?k_word_of ?a_words_at ?l_words_at ?o_words_at ?k_words_at ?a_either ?l_either ?o_either ?k_either ?a_place_behind ?l_place_behind ?o_place_behind ?k_place_behind ?a_place_after ?l_place_after ?o_place_after ?k_place_after ?a_next_tokens ?l_next_tokens ?o_next_tokens ?k_next_tokens ?a_parted_at_commas ?l_parted_at_commas ?o_parted_at_commas ?k_parted_at_commas ?a_check_share_name ?l_check_share_name ?o_check_share_name ?k_check_share_name ?a_quotient_of ?l_quotient_of ?o_quotient_of ?k_quotient_of ?a_share_of ?l_share_of ?o_share_of ?k_share_of ?a_read_shares ?l_read_shares ?o_read_shares ?k_read_shares ?a_parted_in_runs ?l_parted_in_runs ?o_parted_in_runs ?k_parted_in_runs ?a_run_of ?l_run_of ?o_run_of ?k_run_of ?a_read_assignment ?l_read_assignment ?o_read_assignment ?k_read_assignment ?a__law_stream ?l__law_stream ?o__law_stream ?k__law_stream ?a__law_next ?l__law_next ?o__law_next ?k__law_next ?a__law_is_integer ?l__law_is_integer ?o__law_is_integer ?k__law_is_integer ?a__law_equal ?l__law_equal ?o__law_equal ?k__law_equal ?a__law_pick ?l__law_pick ?o__law_pick ?k__law_pick ?a__law_share_rows ?l__law_share_rows ?o__law_share_rows ?k__law_share_rows ?a__law_run_rows ?l__law_run_rows ?o__law_run_rows ?k__law_run_rows ?a__law_told ?l__law_told ?o__law_told ?k__law_told ?a__law_refused ?l__law_refused ?o__law_refused ?k__law_refused ?a_law ?l_law ?o_law ?k_law ?z_abs ?z_all ?z_bool ?z_int ?z_isinstance ?z_len ?z_list ?z_range ?z_str ?z_sum ?z_tuple ?z_zip ?g_MOST_VARIANTS ?g_MOST_BUCKETS ?g_GREATEST_DIVISOR ?g_MOST_CHARACTERS ?g_LONGEST_NAME ?g_LONGEST_NUMBER ?g_LETTERS ?g_DIGITS ?g_IN_NAMES ?g_SIGNS ?g_SHARES ?gl_SHARES ?gl_SHARES0 ?gl_SHARES1 ?gl_SHARES2 ?gl_SHARES3 ?gl_SHARES4 ?gl_SHARES5 ?gl_SHARES6 ?gl_SHARES7 ?gl_SHARES8 ?g_ASSIGNMENT ?gl_ASSIGNMENT ?gl_ASSIGNMENT0 ?gl_ASSIGNMENT1 ?gl_ASSIGNMENT2 ?gl_ASSIGNMENT3 ?gl_ASSIGNMENT4 ?gl_ASSIGNMENT5 ?i_gcd ?i_lcm ?xa_BadValue ?xi_BadValue ?xl_BadValue ?xo_BadValue ?xd_BadValue ?xv_BadValue ?xf_BadValue ?xc_BadValue ?xk_BadValue ?xr_BadValue ?xs_BadValue ?xb_BadValue ?xt_BadValue ?xp_BadValue ?xw_BadValue ?xz_BadValue ?xu_BadValue ?xy_BadValue ?xg_BadValue ?xh_BadValue ?xD_BadValue ?xn_BadValue ?xe_BadValue ?xx_BadValue ?xj_BadValue ?xm_BadValue ?xa_TextError ?xi_TextError ?xl_TextError ?xo_TextError ?xd_TextError ?xv_TextError ?xf_TextError ?xc_TextError ?xk_TextError ?xr_TextError ?xs_TextError ?xb_TextError ?xt_TextError ?xp_TextError ?xw_TextError ?xz_TextError ?xu_TextError ?xy_TextError ?xg_TextError ?xh_TextError ?xD_TextError ?xn_TextError ?xe_TextError ?xx_TextError ?xj_TextError ?xm_TextError ?xW_TextError ?yA_L ?yN_L ?yT_L ?yM_L ?yL_L ?yB_L ?yD_L ?yY_L ?yS_L ?yC_L ?yF_L
    (case a_is_integer => k_is); (case l_is_integer => k_is); (case o_is_integer => k_is); (case k_is_integer => k_is)
    (case a_require => k_is); (case l_require => k_is); (case o_require => k_is); (case k_require => k_is)
    (case a_check_variants => k_is); (case l_check_variants => k_is); (case o_check_variants => k_is); (case k_check_variants => k_is)
    (case a_in_lowest_terms => k_is); (case l_in_lowest_terms => k_is); (case o_in_lowest_terms => k_is); (case k_in_lowest_terms => k_is)
    (case a_common_divisor_of => k_is); (case l_common_divisor_of => k_is); (case o_common_divisor_of => k_is); (case k_common_divisor_of => k_is)
    (case a_weights_of => k_is); (case l_weights_of => k_is); (case o_weights_of => k_is); (case k_weights_of => k_is)
    (case a_are_the_whole => k_is); (case l_are_the_whole => k_is); (case o_are_the_whole => k_is); (case k_are_the_whole => k_is)
    (case a_check_text => k_is); (case l_check_text => k_is); (case o_check_text => k_is); (case k_check_text => k_is)
    (case a_run_at => k_is); (case l_run_at => k_is); (case o_run_at => k_is); (case k_run_at => k_is)
    (case a_name_at => k_is); (case l_name_at => k_is); (case o_name_at => k_is); (case k_name_at => k_is)
    (case a_number_at => k_is); (case l_number_at => k_is); (case o_number_at => k_is); (case k_number_at => k_is)
    (case a_token_at => k_is); (case l_token_at => k_is); (case o_token_at => k_is); (case k_token_at => k_is)
    (case a_scan => k_is); (case l_scan => k_is); (case o_scan => k_is); (case k_scan => k_is)
    (case a_word_of => k_is); (case l_word_of => k_is); (case o_word_of => k_is); (case k_word_of => k_is)
    (case a_words_at => k_is); (case l_words_at => k_is); (case o_words_at => k_is); (case k_words_at => k_is)
    (case a_either => k_is); (case l_either => k_is); (case o_either => k_is); (case k_either => k_is)
    (case a_place_behind => k_is); (case l_place_behind => k_is); (case o_place_behind => k_is); (case k_place_behind => k_is)
    (case a_place_after => k_is); (case l_place_after => k_is); (case o_place_after => k_is); (case k_place_after => k_is)
    (case a_next_tokens => k_is); (case l_next_tokens => k_is); (case o_next_tokens => k_is); (case k_next_tokens => k_is)
    (case a_parted_at_commas => k_is); (case l_parted_at_commas => k_is); (case o_parted_at_commas => k_is); (case k_parted_at_commas => k_is)
    (case a_check_share_name => k_is); (case l_check_share_name => k_is); (case o_check_share_name => k_is); (case k_check_share_name => k_is)
    (case a_quotient_of => k_is); (case l_quotient_of => k_is); (case o_quotient_of => k_is); (case k_quotient_of => k_is)
    (case a_share_of => k_is); (case l_share_of => k_is); (case o_share_of => k_is); (case k_share_of => k_is)
    (case a_read_shares => k_is); (case l_read_shares => k_is); (case o_read_shares => k_is); (case k_read_shares => k_is)
    (case a_parted_in_runs => k_is); (case l_parted_in_runs => k_is); (case o_parted_in_runs => k_is); (case k_parted_in_runs => k_is)
    (case a_run_of => k_is); (case l_run_of => k_is); (case o_run_of => k_is); (case k_run_of => k_is)
    (case a_read_assignment => k_is); (case l_read_assignment => k_is); (case o_read_assignment => k_is); (case k_read_assignment => k_is)
    (case a__law_stream => k_is); (case l__law_stream => k_is); (case o__law_stream => k_is); (case k__law_stream => k_is)
    (case a__law_next => k_is); (case l__law_next => k_is); (case o__law_next => k_is); (case k__law_next => k_is)
    (case a__law_is_integer => k_is); (case l__law_is_integer => k_is); (case o__law_is_integer => k_is); (case k__law_is_integer => k_is)
    (case a__law_equal => k_is); (case l__law_equal => k_is); (case o__law_equal => k_is); (case k__law_equal => k_is)
    (case a__law_pick => k_is); (case l__law_pick => k_is); (case o__law_pick => k_is); (case k__law_pick => k_is)
    (case a__law_share_rows => k_is); (case l__law_share_rows => k_is); (case o__law_share_rows => k_is); (case k__law_share_rows => k_is)
    (case a__law_run_rows => k_is); (case l__law_run_rows => k_is); (case o__law_run_rows => k_is); (case k__law_run_rows => k_is)
    (case a__law_told => k_is); (case l__law_told => k_is); (case o__law_told => k_is); (case k__law_told => k_is)
    (case a__law_refused => k_is); (case l__law_refused => k_is); (case o__law_refused => k_is); (case k__law_refused => k_is)
    (case a_law => k_is); (case l_law => k_is); (case o_law => k_is); (case k_law => k_is)
    (case z_abs => k_is)
    (case z_all => k_is)
    (case z_bool => k_is)
    (case z_int => k_is)
    (case z_isinstance => k_is)
    (case z_len => k_is)
    (case z_list => k_is)
    (case z_range => k_is)
    (case z_str => k_is)
    (case z_sum => k_is)
    (case z_tuple => k_is)
    (case z_zip => k_is)
    (case g_MOST_VARIANTS => k_is)
    (case g_MOST_BUCKETS => k_is)
    (case g_GREATEST_DIVISOR => k_is)
    (case g_MOST_CHARACTERS => k_is)
    (case g_LONGEST_NAME => k_is)
    (case g_LONGEST_NUMBER => k_is)
    (case g_LETTERS => k_is)
    (case g_DIGITS => k_is)
    (case g_IN_NAMES => k_is)
    (case g_SIGNS => k_is)
    (case g_SHARES => k_is); (case gl_SHARES => k_is); (case gl_SHARES0 => k_is); (case gl_SHARES1 => k_is); (case gl_SHARES2 => k_is); (case gl_SHARES3 => k_is); (case gl_SHARES4 => k_is); (case gl_SHARES5 => k_is); (case gl_SHARES6 => k_is); (case gl_SHARES7 => k_is); (case gl_SHARES8 => k_is)
    (case g_ASSIGNMENT => k_is); (case gl_ASSIGNMENT => k_is); (case gl_ASSIGNMENT0 => k_is); (case gl_ASSIGNMENT1 => k_is); (case gl_ASSIGNMENT2 => k_is); (case gl_ASSIGNMENT3 => k_is); (case gl_ASSIGNMENT4 => k_is); (case gl_ASSIGNMENT5 => k_is)
    (case i_gcd => k_is)
    (case i_lcm => k_is)
    (case xa_BadValue => k_is)
    (case xi_BadValue => k_is)
    (case xl_BadValue => k_is)
    (case xo_BadValue => k_is)
    (case xd_BadValue => k_is)
    (case xv_BadValue => exact rfl)
    (case xf_BadValue => first | rfl | decide +kernel)
    (case xc_BadValue => k_is)
    (case xk_BadValue => k_is)
    (case xr_BadValue => first | rfl | decide +kernel)
    (case xs_BadValue => k_is)
    (case xb_BadValue => k_is)
    (case xt_BadValue => k_is)
    (case xp_BadValue => k_is)
    (case xw_BadValue => k_is)
    (case xz_BadValue => k_is)
    (case xu_BadValue => ks_is)
    (case xy_BadValue => k_is)
    (case xg_BadValue => k_is)
    (case xh_BadValue => k_is)
    (case xD_BadValue => k_is)
    (case xn_BadValue => k_is)
    (case xe_BadValue => k_is)
    (case xx_BadValue => k_is)
    (case xj_BadValue => k_is)
    (case xm_BadValue => first | rfl | decide +kernel)
    (case xa_TextError => k_is)
    (case xi_TextError => k_is)
    (case xl_TextError => k_is)
    (case xo_TextError => k_is)
    (case xd_TextError => k_is)
    (case xv_TextError => exact rfl)
    (case xf_TextError => first | rfl | decide +kernel)
    (case xc_TextError => k_is)
    (case xk_TextError => k_is)
    (case xr_TextError => first | rfl | decide +kernel)
    (case xs_TextError => k_is)
    (case xb_TextError => k_is)
    (case xt_TextError => k_is)
    (case xp_TextError => k_is)
    (case xw_TextError => k_is)
    (case xz_TextError => k_is)
    (case xu_TextError => ks_is)
    (case xy_TextError => k_is)
    (case xg_TextError => k_is)
    (case xh_TextError => k_is)
    (case xD_TextError => k_is)
    (case xn_TextError => k_is)
    (case xe_TextError => k_is)
    (case xx_TextError => k_is)
    (case xj_TextError => k_is)
    (case xm_TextError => first | rfl | decide +kernel)
    (case xW_TextError => k_is)
    (case yA_L => k_is)
    (case yN_L => k_is)
    (case yT_L => k_is)
    (case yM_L => k_is)
    (case yL_L => k_is)
    (case yB_L => k_is)
    (case yD_L => k_is)
    (case yY_L => k_is)
    (case yS_L => k_is)
    (case yC_L => k_is)
    (case yF_L => k_is)
