import PyProof.Rows.All
import Wide.All
import OpenK.AllK
import Wide.FinOn
import HandS.ForMost
import HandS.TupAny
import HandS.Zip
import HandS.IsInst
import HandS.Walk
import HandS.SortInts
import HandS.Strs
import HandS.SetFor
import KE.GoesMore
import KE.GoesEnum
import HandS.Evl
import HandS.Gcd
import KE.KMathGC
import HandS.Deep
import PyProof.ListNew
import HandS.GenList
import HandS.Sort
import HandS.ExcInit
import HandS.WordsExc
import HandS.FStr
import KE.KExcSuper
import KE.KSuper
import HandS.ExcOwn
import HandS.ExcField
import HandS.TupMul
import HandS.Style
import PyProof.CallType
import HandS.Conv
import PyProof.P3In
import PyProof.Rows.SeqMore
import KE.SortData
import KE.SortLaws
import KE.SortKeyHeap
import HandS.SortKw
import HandS.WordsDict
import HandS.ExcIs
import KE.KExcIs
import HandS.WideBits
import HandS.Flow
import HandS.Small
import HandS.Steps
import HandS.Text
import HandS.LawCells
import PyProof.StrBlock2
import HandS.Exc
import PySem.Challenge.RW_leastmoved_k91_tokens_of_texts
set_option Elab.async false
set_option linter.all false
set_option maxRecDepth 100000
set_option maxHeartbeats 4000000
namespace Lm
open PySem PySem.Spec PyProof.Rows L2

/-- what is around: the written part, and (perhaps) the stream with the script's copy -/
structure Ct where
  K : PySem.W.Frag
  so : Option (Addr × Addr)
def okA (c : Ct) (a : Addr) : Prop := ∀ st l, c.so = some (st, l) → a ≠ st
/-- the stream at st: a copy of the script at l, a cell, a place -/
def Str1 (K : PySem.W.Frag) (st l : Addr) (H : Hp) : Prop :=
  ∃ (ns : List Int) (x k : Int), H st = some (.lst [.ref l, .int x, .int k]) ∧ H l = some (.lst (ns.map V.int)) ∧ l ≠ st ∧ 0 ≤ k
def Ji (c : Ct) (H : Hp) : Prop := ∀ st l, c.so = some (st, l) → Str1 c.K st l H
def Rr (c : Ct) (H H' : Hp) : Prop := (∀ a o, okA c a → H a = some o → H' a = some o) ∧ (Ji c H → Ji c H')
variable {c : Ct} {H H' H0 H1 H2 H3 : Hp}
theorem Rr.rf : Rr c H H := ⟨fun _ _ _ h => h, fun h => h⟩
theorem Rr.tr (a : Rr c H H1) (b : Rr c H1 H2) : Rr c H H2 := ⟨fun x o k h => b.1 x o k (a.1 x o k h), fun h => b.2 (a.2 h)⟩
theorem Ji.same (j : Ji c H) (e : Same H H') : Ji c H' := fun st l h => by
  obtain ⟨ns, x, k, h1, h2, h3, h4⟩ := j st l h
  exact ⟨ns, x, k, e _ _ h1, e _ _ h2, h3, h4⟩
theorem Rr.same (e : Same H H') : Rr c H H' := ⟨fun x o _ h => e x o h, fun j => j.same e⟩
theorem okA.fresh (j : Ji c H) {p : Addr} (h : H p = none) : okA c p := fun st l e z => by
  obtain ⟨ns, x, k, h1, _⟩ := j st l e
  rw [z, h1] at h
  cases h
theorem okA.tup (j : Ji c H) {p : Addr} {o : HO} (h : H p = some o) (n : ∀ xs, o ≠ .lst xs) : okA c p := fun st l e z => by
  obtain ⟨ns, x, k, h1, _⟩ := j st l e
  rw [z, h1] at h
  exact n _ (Option.some.inj h).symm
theorem Rr.back (r : Rr c H H') (j : Ji c H) {p : Addr} (h : H' p = none) : H p = none := by
  cases q : H p with
  | none => rfl
  | some o =>
    have k : okA c p := fun st l e z => by
      obtain ⟨ns, x, k, h1, _⟩ := r.2 j st l e
      rw [z, h1] at h
      cases h
    rw [r.1 p o k q] at h
    cases h
/-- a tuple (one that has no dict of its own) -/
def TpN (K : PySem.W.Frag) (H : Hp) (a : Addr) (xs : List V) : Prop :=
  (∃ o : Obj, o.dict = none ∧ H a = some (.frz o (.tup xs))) ∨
    ∃ (o : Obj) (its : Array Value) (n : Nat), K.lookup a = some o ∧ o.cls = .type "tuple" ∧ o.dict = none ∧ o.data = .seq its n ∧ its.size ≤ sizeLine ∧ Vals xs its.toList
theorem TpN.sq {K : PySem.W.Frag} {a : Addr} {xs : List V} (h : TpN K H a xs) : SqT K H a xs := by
  rcases h with ⟨o, _, h⟩ | ⟨o, its, n, h1, h2, _, h3, h4, h5⟩
  · exact .inl (.inr ⟨o, h⟩)
  · exact .inr ⟨o, its, n, h1, h2, h3, h4, h5⟩
theorem Rr.tup (r : Rr c H H') (j : Ji c H) {a : Addr} {xs : List V} (h : TpN c.K H a xs) : TpN c.K H' a xs := by
  rcases h with ⟨o, q, h⟩ | h
  · exact .inl ⟨o, q, r.1 _ _ (okA.tup j h (fun _ => by simp)) h⟩
  · exact .inr h
theorem Rr.lst (r : Rr c H H') {a : Addr} {xs : List V} (k : okA c a) (h : SqL c.K H a xs) : SqL c.K H' a xs := by
  rcases h with (h | ⟨o, h⟩) | h
  · exact .inl (.inl (r.1 _ _ k h))
  · exact .inl (.inr ⟨o, r.1 _ _ k h⟩)
  · exact .inr h

/-! ### values as data: ints, texts, tuples; lists whose addresses are not the stream's -/
mutual
inductive Bo (c : Ct) (H : Hp) : V → PyData → Prop
  | non : Bo c H .non .none
  | bl (b : Bool) : Bo c H (.bl b) (.bool b)
  | int (i : Int) : Bo c H (.int i) (.int i)
  | str (x : Str) : Bo c H (.str x) (.str x)
  | lst {a : Addr} {xs : List V} {ds : List PyData} : okA c a → SqL c.K H a xs → BoAll c H xs ds → Bo c H (.ref a) (.list ds)
  | tup {a : Addr} {xs : List V} {ds : List PyData} : TpN c.K H a xs → BoAll c H xs ds → Bo c H (.ref a) (.tuple ds)
inductive BoAll (c : Ct) (H : Hp) : List V → List PyData → Prop
  | nil : BoAll c H [] []
  | cons {v : V} {vs : List V} {d : PyData} {ds : List PyData} : Bo c H v d → BoAll c H vs ds → BoAll c H (v :: vs) (d :: ds)
end
mutual
theorem Bo.up (h : ∀ a xs, TpN c.K H a xs → TpN c.K H' a xs) (g : ∀ a xs, okA c a → SqL c.K H a xs → SqL c.K H' a xs) : ∀ {v : V} {d : PyData}, Bo c H v d → Bo c H' v d
  | _, _, .non => .non
  | _, _, .bl b => .bl b
  | _, _, .int b => .int b
  | _, _, .str b => .str b
  | _, _, .lst k s a => .lst k (g _ _ k s) (BoAll.up h g a)
  | _, _, .tup s a => .tup (h _ _ s) (BoAll.up h g a)
theorem BoAll.up (h : ∀ a xs, TpN c.K H a xs → TpN c.K H' a xs) (g : ∀ a xs, okA c a → SqL c.K H a xs → SqL c.K H' a xs) : ∀ {v : List V} {d : List PyData}, BoAll c H v d → BoAll c H' v d
  | _, _, .nil => .nil
  | _, _, .cons a b => .cons (Bo.up h g a) (BoAll.up h g b)
end
theorem Bo.mono (j : Ji c H) (r : Rr c H H') {v : V} {d : PyData} (h : Bo c H v d) : Bo c H' v d := h.up (fun _ _ s => r.tup j s) (fun _ _ k s => r.lst k s)
theorem BoAll.mono (j : Ji c H) (r : Rr c H H') {v : List V} {d : List PyData} (h : BoAll c H v d) : BoAll c H' v d := h.up (fun _ _ s => r.tup j s) (fun _ _ k s => r.lst k s)
theorem sqT_same {K : PySem.W.Frag} (e : Same H H') {a : Addr} {xs : List V} (h : TpN K H a xs) : TpN K H' a xs := by
  rcases h with ⟨o, q, h⟩ | h
  · exact .inl ⟨o, q, e _ _ h⟩
  · exact .inr h
theorem Bo.same (e : Same H H') {v : V} {d : PyData} (h : Bo c H v d) : Bo c H' v d := h.up (fun _ _ s => sqT_same e s) (fun _ _ k s => e.seq s)
theorem BoAll.same (e : Same H H') {v : List V} {d : List PyData} (h : BoAll c H v d) : BoAll c H' v d := h.up (fun _ _ s => sqT_same e s) (fun _ _ k s => e.seq s)
theorem BoAll.len : ∀ {v : List V} {d : List PyData}, BoAll c H v d → v.length = d.length
  | _, _, .nil => rfl
  | _, _, .cons _ b => by simp [BoAll.len b]
theorem BoAll.get : ∀ {v : List V} {d : List PyData} {i : Nat} {x : V}, BoAll c H v d → v[i]? = some x → ∃ e, d[i]? = some e ∧ Bo c H x e
  | _, _, _, _, .nil, h => by simp at h
  | _, _, 0, x, .cons a b, h => by
    have e : _ = x := Option.some.inj h
    subst e
    exact ⟨_, rfl, a⟩
  | _, _, i + 1, x, .cons a b, h => BoAll.get (i := i) b (by simpa using h)
theorem BoAll.gets : ∀ {v : List V} {d : List PyData} {i : Nat} {e : PyData}, BoAll c H v d → d[i]? = some e → ∃ x, v[i]? = some x ∧ Bo c H x e
  | _, _, _, _, .nil, h => by simp at h
  | _, _, 0, x, .cons a b, h => by
    have e : _ = x := Option.some.inj h
    subst e
    exact ⟨_, rfl, a⟩
  | _, _, i + 1, x, .cons a b, h => BoAll.gets (i := i) b (by simpa using h)
theorem BoAll.app : ∀ {v w : List V} {d e : List PyData}, BoAll c H v d → BoAll c H w e → BoAll c H (v ++ w) (d ++ e)
  | _, _, _, _, .nil, b => b
  | _, _, _, _, .cons a r, b => .cons a (BoAll.app r b)
theorem BoAll.set : ∀ {v : List V} {d : List PyData} {i : Nat} {x : V} {e : PyData}, BoAll c H v d → Bo c H x e → BoAll c H (v.set i x) (d.set i e)
  | _, _, _, _, _, .nil, b => .nil
  | _, _, 0, _, _, .cons a r, b => .cons b r
  | _, _, i + 1, _, _, .cons a r, b => .cons a (BoAll.set r b)
theorem BoAll.take : ∀ {v : List V} {d : List PyData} (i : Nat), BoAll c H v d → BoAll c H (v.take i) (d.take i)
  | _, _, 0, _ => .nil
  | _, _, i + 1, .nil => .nil
  | _, _, i + 1, .cons a b => .cons a (BoAll.take i b)
theorem BoAll.drop : ∀ {v : List V} {d : List PyData} (i : Nat), BoAll c H v d → BoAll c H (v.drop i) (d.drop i)
  | _, _, 0, h => h
  | _, _, i + 1, .nil => .nil
  | _, _, i + 1, .cons a b => BoAll.drop i b
theorem Bo.int' {v : V} {i : Int} (h : Bo c H v (.int i)) : v = .int i := by cases h; rfl
theorem Bo.bl' {v : V} {i : Bool} (h : Bo c H v (.bool i)) : v = .bl i := by cases h; rfl
theorem Bo.non' {v : V} (h : Bo c H v .none) : v = .non := by cases h; rfl
theorem Bo.str' {v : V} {i : Str} (h : Bo c H v (.str i)) : v = .str i := by cases h; rfl
theorem Bo.tup' {v : V} {ds : List PyData} (h : Bo c H v (.tuple ds)) : ∃ a xs, v = .ref a ∧ TpN c.K H a xs ∧ BoAll c H xs ds := by cases h with | tup s a => exact ⟨_, _, rfl, s, a⟩
theorem Bo.lst' {v : V} {ds : List PyData} (h : Bo c H v (.list ds)) : ∃ a xs, v = .ref a ∧ okA c a ∧ SqL c.K H a xs ∧ BoAll c H xs ds := by cases h with | lst k s a => exact ⟨_, _, rfl, k, s, a⟩
theorem BoAll.ofInts : ∀ (ns : List Int), BoAll c H (ns.map V.int) (ns.map PyData.int)
  | [] => .nil
  | n :: ns => .cons (.int n) (BoAll.ofInts ns)
theorem BoAll.bools : ∀ {v : List V} {ns : List Bool}, BoAll c H v (ns.map PyData.bool) → v = ns.map V.bl
  | v, [], h => by cases h; rfl
  | v, n :: ns, h => by
    cases h with
    | cons a b => rw [a.bl', BoAll.bools b]; rfl
/-! no stream, no care -/
mutual
theorem Bo.pure : ∀ {v : V} {d : PyData}, Bo c H v d → Bo ⟨c.K, none⟩ H v d
  | _, _, .non => .non
  | _, _, .bl b => .bl b
  | _, _, .int b => .int b
  | _, _, .str b => .str b
  | _, _, .lst _ s a => .lst (fun _ _ e => nomatch e) s (BoAll.pure a)
  | _, _, .tup s a => .tup s (BoAll.pure a)
theorem BoAll.pure : ∀ {v : List V} {d : List PyData}, BoAll c H v d → BoAll ⟨c.K, none⟩ H v d
  | _, _, .nil => .nil
  | _, _, .cons a b => .cons (Bo.pure a) (BoAll.pure b)
end
/-! data without lists -/
mutual
def flatD : PyData → Bool
  | .none => true
  | .bool _ => true
  | .int _ => true
  | .str _ => true
  | .tuple ds => flatAll ds
  | _ => false
def flatAll : List PyData → Bool
  | [] => true
  | d :: ds => flatD d && flatAll ds
end
theorem flatAll_ints (ns : List Int) : flatAll (ns.map PyData.int) = true := by
  induction ns with
  | nil => rfl
  | cons n ns ih =>
    show (flatD (.int n) && flatAll (ns.map PyData.int)) = true
    rw [ih]
    rfl
theorem flatAll_mem {ds : List PyData} (h : ∀ d ∈ ds, flatD d = true) : flatAll ds = true := by
  induction ds with
  | nil => rfl
  | cons d ds ih =>
    show (flatD d && flatAll ds) = true
    rw [h d (by simp), ih fun e he => h e (by simp [he])]
    rfl
mutual
theorem Bo.flat {c' : Ct} (hk : c'.K = c.K) : ∀ {v : V} {d : PyData}, flatD d = true → Bo c H v d → Bo c' H v d
  | _, _, _, .non => .non
  | _, _, _, .bl b => .bl b
  | _, _, _, .int b => .int b
  | _, _, _, .str b => .str b
  | _, _, q, .lst _ s a => by simp [flatD] at q
  | _, _, q, .tup s a => .tup (by rw [hk]; exact s) (BoAll.flat hk (by simpa [flatD] using q) a)
theorem BoAll.flat {c' : Ct} (hk : c'.K = c.K) : ∀ {v : List V} {d : List PyData}, flatAll d = true → BoAll c H v d → BoAll c' H v d
  | _, _, _, .nil => .nil
  | _, _, q, .cons a b => by
    have q' : (flatD _ && flatAll _) = true := q
    rw [Bool.and_eq_true] at q'
    exact .cons (Bo.flat hk q'.1 a) (BoAll.flat hk q'.2 b)
end

/-! ### the heap without some addresses -/
def mns (H : Hp) (O : List Addr) : Hp := fun a => if a ∈ O then none else H a
theorem mns_in {O : List Addr} {a : Addr} (h : a ∈ O) : mns H O a = none := if_pos h
theorem mns_out {O : List Addr} {a : Addr} (h : a ∉ O) : mns H O a = H a := if_neg h
theorem mns_same {O : List Addr} : Same (mns H O) H := fun a o h => by
  by_cases q : a ∈ O
  · rw [mns_in q] at h; cases h
  · rw [mns_out q] at h; exact h
theorem mns_some {O : List Addr} {a : Addr} {o : HO} (h : mns H O a = some o) : a ∉ O ∧ H a = some o := by
  by_cases q : a ∈ O
  · rw [mns_in q] at h; cases h
  · rw [mns_out q] at h; exact ⟨q, h⟩
theorem mns_sub {O O' : List Addr} (s : ∀ a, a ∈ O' → a ∈ O) : Same (mns H O) (mns H O') := fun a o h => by
  obtain ⟨q, h⟩ := mns_some h
  rw [mns_out (fun z => q (s a z))]
  exact h
theorem mns_nil : mns H [] = H := by
  funext a
  exact mns_out (by simp)
theorem Rr.mns {O : List Addr} (r : Rr c H H') (j : Ji c (mns H O)) (q : ∀ a ∈ O, okA c a) : Rr c (mns H O) (mns H' O) := by
  refine ⟨fun a o k h => ?_, fun _ st l e => ?_⟩
  · obtain ⟨n, h⟩ := mns_some h
    rw [mns_out n]
    exact r.1 a o k h
  · obtain ⟨ns, x, k, h1, h2, h3, h4⟩ := j st l e
    obtain ⟨n1, h1⟩ := mns_some h1
    obtain ⟨n2, h2⟩ := mns_some h2
    have jH : Ji c H := j.same mns_same
    obtain ⟨ns', x', k', g1, g2, g3, g4⟩ := r.2 jH st l e
    refine ⟨ns', x', k', ?_, ?_, g3, g4⟩
    · rw [mns_out n1]; exact g1
    · rw [mns_out n2]; exact g2
end Lm


namespace Lm
open PySem PySem.Spec PyProof.Rows L2
variable {c : Ct} {H H' H0 H1 H2 H3 : Hp} {O : List Addr}

/-! flat data leans on tuples alone -/
mutual
theorem Bo.flatTo {c' : Ct} (h : ∀ a xs, TpN c.K H a xs → TpN c'.K H' a xs) : ∀ {v : V} {d : PyData}, flatD d = true → Bo c H v d → Bo c' H' v d
  | _, _, _, .non => .non
  | _, _, _, .bl b => .bl b
  | _, _, _, .int b => .int b
  | _, _, _, .str b => .str b
  | _, _, q, .lst _ s a => by simp [flatD] at q
  | _, _, q, .tup s a => .tup (h _ _ s) (BoAll.flatTo h (by simpa [flatD] using q) a)
theorem BoAll.flatTo {c' : Ct} (h : ∀ a xs, TpN c.K H a xs → TpN c'.K H' a xs) : ∀ {v : List V} {d : List PyData}, flatAll d = true → BoAll c H v d → BoAll c' H' v d
  | _, _, _, .nil => .nil
  | _, _, q, .cons a b => by
    have q' : (flatD _ && flatAll _) = true := q
    rw [Bool.and_eq_true] at q'
    exact .cons (Bo.flatTo h q'.1 a) (BoAll.flatTo h q'.2 b)
end
/-- what may be written -/
def OwnU : HO → Prop
  | .lst _ => True
  | .dK _ => True
  | .dT _ => True
  | .set _ _ => True
  | _ => False
theorem sqT_mns {K : PySem.W.Frag} (hO : ∀ a ∈ O, ∃ u, H a = some u ∧ OwnU u) {a : Addr} {xs : List V} (h : TpN K H a xs) : TpN K (mns H O) a xs := by
  have n : ∀ u, H a = some u → ¬ OwnU u → mns H O a = some u := fun u e k => by
    have : a ∉ O := fun z => by
      obtain ⟨y, q, w⟩ := hO a z
      rw [q] at e
      exact k (Option.some.inj e ▸ w)
    rw [mns_out this]; exact e
  rcases h with ⟨o, q, h⟩ | h
  · exact .inl ⟨o, q, n _ h fun w => w⟩
  · exact .inr h
theorem sqT_updO {K : PySem.W.Frag} {p : Addr} {y o : HO} (hp : H p = some y) (hy : OwnU y) {a : Addr} {xs : List V} (h : TpN K H a xs) : TpN K (upd H p o) a xs := by
  have n : ∀ u, H a = some u → ¬ OwnU u → upd H p o a = some u := fun u e k => by
    have : a ≠ p := fun z => by
      rw [z, hp] at e
      exact k (Option.some.inj e ▸ hy)
    rw [upd_ne this]; exact e
  rcases h with ⟨o, q, h⟩ | h
  · exact .inl ⟨o, q, n _ h fun w => w⟩
  · exact .inr h
theorem sqT_upd {K : PySem.W.Frag} {p : Addr} {zs : List V} {o : HO} (hp : H p = some (.lst zs)) {a : Addr} {xs : List V} (h : TpN K H a xs) : TpN K (upd H p o) a xs := by
  have n : ∀ u, H a = some u → (∀ ys, u ≠ .lst ys) → upd H p o a = some u := fun u e k => by
    have : a ≠ p := fun z => by
      rw [z, hp] at e
      exact k zs (Option.some.inj e).symm
    rw [upd_ne this]; exact e
  rcases h with ⟨o, q, h⟩ | h
  · exact .inl ⟨o, q, n _ h fun _ => by simp⟩
  · exact .inr h

/-! ### lists of one's own: the addresses that may be written -/
mutual
inductive Fo (c : Ct) (H : Hp) : V → PyData → List Addr → Prop
  | leaf {v : V} {d : PyData} : flatD d = true → Bo c H v d → Fo c H v d []
  | lst {a : Addr} {xs : List V} {ds : List PyData} {fp : List Addr} : H a = some (.lst xs) → FoAll c H xs ds fp → Fo c H (.ref a) (.list ds) (a :: fp)
inductive FoAll (c : Ct) (H : Hp) : List V → List PyData → List Addr → Prop
  | nil : FoAll c H [] [] []
  | cons {v : V} {vs : List V} {d : PyData} {ds : List PyData} {f fs : List Addr} : Fo c H v d f → FoAll c H vs ds fs → FoAll c H (v :: vs) (d :: ds) (f ++ fs)
end
mutual
theorem Fo.up (h : ∀ a xs, TpN c.K H a xs → TpN c.K H' a xs) : ∀ {v : V} {d : PyData} {fp : List Addr}, (∀ a ∈ fp, ∀ o, H a = some o → H' a = some o) → Fo c H v d fp → Fo c H' v d fp
  | _, _, _, _, .leaf q b => .leaf q (b.flatTo h q)
  | _, _, _, k, .lst e a => .lst (k _ (by simp) _ e) (FoAll.up h (fun b hb => k b (by simp [hb])) a)
theorem FoAll.up (h : ∀ a xs, TpN c.K H a xs → TpN c.K H' a xs) : ∀ {v : List V} {d : List PyData} {fp : List Addr}, (∀ a ∈ fp, ∀ o, H a = some o → H' a = some o) → FoAll c H v d fp → FoAll c H' v d fp
  | _, _, _, _, .nil => .nil
  | _, _, _, k, .cons a b => .cons (Fo.up h (fun x hx => k x (by simp [hx])) a) (FoAll.up h (fun x hx => k x (by simp [hx])) b)
end
mutual
theorem Fo.bo : ∀ {v : V} {d : PyData} {fp : List Addr}, (∀ a ∈ fp, okA c a) → Fo c H v d fp → Bo c H v d
  | _, _, _, _, .leaf _ b => b
  | _, _, _, k, .lst e a => .lst (k _ (by simp)) (.inl (.inl e)) (FoAll.bo (fun b hb => k b (by simp [hb])) a)
theorem FoAll.bo : ∀ {v : List V} {d : List PyData} {fp : List Addr}, (∀ a ∈ fp, okA c a) → FoAll c H v d fp → BoAll c H v d
  | _, _, _, _, .nil => .nil
  | _, _, _, k, .cons a b => .cons (Fo.bo (fun x hx => k x (by simp [hx])) a) (FoAll.bo (fun x hx => k x (by simp [hx])) b)
end
theorem FoAll.leaves : ∀ {v : List V} {d : List PyData}, flatAll d = true → BoAll c H v d → FoAll c H v d []
  | _, _, _, .nil => .nil
  | _, _, q, .cons a b => by
    have q' : (flatD _ && flatAll _) = true := q
    rw [Bool.and_eq_true] at q'
    exact .cons (f := []) (fs := []) (.leaf q'.1 a) (FoAll.leaves q'.2 b)
mutual
theorem Fo.isL : ∀ {v : V} {d : PyData} {fp : List Addr}, Fo c H v d fp → ∀ a ∈ fp, ∃ xs, H a = some (.lst xs)
  | _, _, _, .leaf _ _, a, h => by simp at h
  | _, _, _, .lst e f, a, h => by
    rcases List.mem_cons.mp h with q | q
    · rw [q]; exact ⟨_, e⟩
    · exact FoAll.isL f a q
theorem FoAll.isL : ∀ {v : List V} {d : List PyData} {fp : List Addr}, FoAll c H v d fp → ∀ a ∈ fp, ∃ xs, H a = some (.lst xs)
  | _, _, _, .nil, a, h => by simp at h
  | _, _, _, .cons e f, a, h => by
    rcases List.mem_append.mp h with q | q
    · exact Fo.isL e a q
    · exact FoAll.isL f a q
end
theorem FoAll.app : ∀ {v w : List V} {d e : List PyData} {f g : List Addr}, FoAll c H v d f → FoAll c H w e g → FoAll c H (v ++ w) (d ++ e) (f ++ g)
  | _, _, _, _, _, _, .nil, b => b
  | _, _, _, _, _, _, .cons a r, b => by
    rw [List.append_assoc]
    exact .cons a (FoAll.app r b)
/-- a flat list of one's own -/
theorem Fo.list' {v : V} {ds : List PyData} {fp : List Addr} (h : Fo c H v (.list ds) fp) : ∃ a xs f, v = .ref a ∧ fp = a :: f ∧ H a = some (.lst xs) ∧ FoAll c H xs ds f := by
  cases h with
  | leaf q _ => simp [flatD] at q
  | lst e a => exact ⟨_, _, _, rfl, rfl, e, a⟩
/-! ### what the slots hold -/
inductive Rs where
  /-- a value that will not change -/
  | v (d : PyData)
  /-- a list of one's own -/
  | o (d : PyData)
  /-- this very value -/
  | r (x : V)
  /-- a dict or set of one's own -/
  | d (u : HO)
  /-- a list of one's own whose items stay -/
  | w (ds : List PyData)
def RepO (c : Ct) (O : List Addr) (H : Hp) (x : Option V) : Option Rs → List Addr → Prop
  | none, fp => fp = []
  | some (.v d), fp => fp = [] ∧ ∃ v, x = some v ∧ Bo c (mns H O) v d
  | some (.o d), fp => ∃ v, x = some v ∧ Fo c H v d fp
  | some (.r y), fp => fp = [] ∧ x = some y
  | some (.d u), fp => ∃ a, fp = [a] ∧ x = some (.ref a) ∧ H a = some u ∧ OwnU u
  | some (.w ds), fp => ∃ a xs, fp = [a] ∧ x = some (.ref a) ∧ H a = some (.lst xs) ∧ BoAll c (mns H O) xs ds
inductive Reps (c : Ct) (O : List Addr) (H : Hp) : L2.St → List (Option Rs) → List Addr → Prop
  | nil : Reps c O H [] [] []
  | cons {x : Option V} {s : Option Rs} {f fs : List Addr} {σ : L2.St} {Γ : List (Option Rs)} : RepO c O H x s f → Reps c O H σ Γ fs → Reps c O H (x :: σ) (s :: Γ) (f ++ fs)
theorem Reps.len {σ : L2.St} {Γ : List (Option Rs)} {fp : List Addr} (h : Reps c O H σ Γ fp) : σ.length = Γ.length := by
  induction h with
  | nil => rfl
  | cons _ _ ih => simp [ih]
theorem Reps.map {O' : List Addr} {σ : L2.St} {Γ : List (Option Rs)} {fp : List Addr} (h : Reps c O H σ Γ fp) (k : ∀ x s f, (∀ a ∈ f, a ∈ fp) → RepO c O H x s f → RepO c O' H' x s f) : Reps c O' H' σ Γ fp := by
  induction h with
  | nil => exact .nil
  | cons a b ih => exact .cons (k _ _ _ (fun x hx => by simp [hx]) a) (ih fun x s f q => k x s f fun y hy => by simp [q y hy])
/-- the i-th slot, and how it is changed -/
theorem Reps.nth {σ : L2.St} {Γ : List (Option Rs)} {fp : List Addr} (h : Reps c O H σ Γ fp) : ∀ {i : Nat} {s : Option Rs}, Γ[i]? = some s →
    ∃ x f pre post, σ[i]? = some x ∧ RepO c O H x s f ∧ fp = pre ++ (f ++ post) ∧
      ∀ (O' : List Addr) (H' : Hp) (x' : Option V) (s' : Option Rs) (f' : List Addr), (∀ y t g, (∀ a ∈ g, a ∈ pre ++ post) → RepO c O H y t g → RepO c O' H' y t g) → RepO c O' H' x' s' f' → Reps c O' H' (σ.set i x') (Γ.set i s') (pre ++ (f' ++ post)) := by
  induction h with
  | nil => intro i s e; simp at e
  | cons a b ih =>
    rename_i x0 s0 f0 fs0 σ0 Γ0
    intro i s e
    cases i with
    | zero =>
      have e' : s0 = s := by simpa using e
      subst e'
      refine ⟨x0, f0, [], fs0, rfl, a, rfl, fun O' H' x' s' f' k r => ?_⟩
      show Reps c O' H' (x' :: σ0) (s' :: Γ0) (f' ++ fs0)
      exact .cons r (b.map fun y t g q z => k y t g (fun u hu => by simpa using q u hu) z)
    | succ i =>
      obtain ⟨x, f, pre, post, h1, h2, h3, h4⟩ := ih (i := i) (by simpa using e)
      refine ⟨x, f, f0 ++ pre, post, by simpa using h1, h2, by rw [h3]; simp, fun O' H' x' s' f' k r => ?_⟩
      have := h4 O' H' x' s' f' (fun y t g q z => k y t g (fun u hu => by have := q u hu; simp at this ⊢; rcases this with w | w <;> simp [w]) z) r
      rw [List.append_assoc]
      exact .cons (k _ _ _ (fun u hu => by simp [hu]) a) this

/-- the entry's heap H0, the addresses of one's own O, the heap H, the slots σ and what they hold -/
structure Env (c : Ct) (H0 : Hp) (O : List Addr) (H : Hp) (σ : L2.St) (Γ : List (Option Rs)) : Prop where
  r0 : Rr c H0 (mns H O)
  j : Ji c (mns H O)
  fr : ∀ a ∈ O, H0 a = none
  dm : ∀ a ∈ O, ∃ u, H a = some u ∧ OwnU u
  rep : ∃ fp, Reps c O H σ Γ fp ∧ fp.Nodup ∧ ∀ a ∈ fp, a ∈ O
variable {σ : L2.St} {Γ : List (Option Rs)}
theorem Env.jH (e : Env c H0 O H σ Γ) : Ji c H := e.j.same mns_same
theorem Env.okO (e : Env c H0 O H σ Γ) : ∀ a ∈ O, okA c a := fun a ha st l q z => by
  obtain ⟨ns, x, k, h1, _⟩ := e.j st l q
  rw [← z, mns_in ha] at h1
  cases h1
theorem Env.rH (e : Env c H0 O H σ Γ) : Rr c H0 H := e.r0.tr (Rr.same mns_same)
theorem Env.len (e : Env c H0 O H σ Γ) : σ.length = Γ.length := let ⟨_, h, _⟩ := e.rep; h.len
/-- the heap goes on -/
theorem Env.on (e : Env c H0 O H σ Γ) (r : Rr c H H') : Env c H0 O H' σ Γ := by
  have rm := r.mns e.j e.okO
  refine ⟨e.r0.tr rm, rm.2 e.j, e.fr, fun a ha => ?_, ?_⟩
  · obtain ⟨u, q, w⟩ := e.dm a ha
    exact ⟨u, r.1 a _ (e.okO a ha) q, w⟩
  · obtain ⟨fp, h, nd, sub⟩ := e.rep
    refine ⟨fp, h.map fun x s f q z => ?_, nd, sub⟩
    cases s with
    | none => exact z
    | some s =>
      cases s with
      | v d => exact ⟨z.1, z.2.elim fun v hv => ⟨v, hv.1, hv.2.mono e.j rm⟩⟩
      | o d => exact z.elim fun v hv => ⟨v, hv.1, hv.2.up (fun _ _ s => r.tup e.jH s) fun a ha o ho => r.1 a o (e.okO a (sub a (q a ha))) ho⟩
      | r y => exact z
      | d u => exact z.elim fun a ⟨w1, w2, w3, w4⟩ => ⟨a, w1, w2, r.1 a _ (e.okO a (sub a (q a (by rw [w1]; simp)))) w3, w4⟩
      | w ds => exact z.elim fun a ⟨xs, w1, w2, w3, w4⟩ => ⟨a, xs, w1, w2, r.1 a _ (e.okO a (sub a (q a (by rw [w1]; simp)))) w3, w4.mono e.j rm⟩
theorem Env.slotV (e : Env c H0 O H σ Γ) {i : Nat} {d : PyData} (h : Γ[i]? = some (some (.v d))) : ∃ v, σ[i]? = some (some v) ∧ Bo c (mns H O) v d := by
  obtain ⟨fp, hr, nd, sub⟩ := e.rep
  obtain ⟨x, f, pre, post, h1, h2, h3, h4⟩ := hr.nth h
  obtain ⟨v, hv, b⟩ := h2.2
  subst hv
  exact ⟨v, h1, b⟩
theorem Env.slotO (e : Env c H0 O H σ Γ) {i : Nat} {d : PyData} (h : Γ[i]? = some (some (.o d))) : ∃ v fp, σ[i]? = some (some v) ∧ Fo c H v d fp ∧ fp.Nodup ∧ ∀ a ∈ fp, a ∈ O := by
  obtain ⟨fp, hr, nd, sub⟩ := e.rep
  obtain ⟨x, f, pre, post, h1, h2, h3, h4⟩ := hr.nth h
  obtain ⟨v, hv, b⟩ := h2
  subst hv
  subst h3
  have n2 := (List.nodup_append.mp nd).2.1
  exact ⟨v, f, h1, b, (List.nodup_append.mp n2).1, fun a ha => sub a (by simp [ha])⟩
theorem Env.slotR (e : Env c H0 O H σ Γ) {i : Nat} {y : V} (h : Γ[i]? = some (some (.r y))) : σ[i]? = some (some y) := by
  obtain ⟨fp, hr, nd, sub⟩ := e.rep
  obtain ⟨x, f, pre, post, h1, h2, h3, h4⟩ := hr.nth h
  have hy : x = some y := h2.2
  rw [h1, hy]
/-- any slot is given another value that does not change -/
theorem Env.setV (e : Env c H0 O H σ Γ) {i : Nat} {v : V} {d : PyData} (b : Bo c (mns H O) v d) : Env c H0 O H (σ.set i (some v)) (Γ.set i (some (.v d))) := by
  refine ⟨e.r0, e.j, e.fr, e.dm, ?_⟩
  obtain ⟨fp, hr, nd, sub⟩ := e.rep
  by_cases hi : i < Γ.length
  · obtain ⟨x, f, pre, post, h1, h2, h3, h4⟩ := hr.nth (s := Γ[i]) (List.getElem?_eq_getElem hi)
    subst h3
    refine ⟨pre ++ ([] ++ post), h4 O H _ _ [] (fun _ _ _ _ z => z) ⟨rfl, v, rfl, b⟩, ?_, fun a ha => sub a ?_⟩
    · refine nd.sublist ?_
      simp
    · simp at ha ⊢
      rcases ha with q | q <;> simp [q]
  · have hs : ¬ i < σ.length := by rw [hr.len]; exact hi
    rw [List.set_eq_of_length_le (by omega), List.set_eq_of_length_le (by omega)]
    exact ⟨fp, hr, nd, sub⟩
/-- a slot is forgotten, whatever it holds then -/
theorem Env.setN (e : Env c H0 O H σ Γ) {i : Nat} {x : Option V} : Env c H0 O H (σ.set i x) (Γ.set i none) := by
  refine ⟨e.r0, e.j, e.fr, e.dm, ?_⟩
  obtain ⟨fp, hr, nd, sub⟩ := e.rep
  by_cases hi : i < Γ.length
  · obtain ⟨y, f, pre, post, h1, h2, h3, h4⟩ := hr.nth (s := Γ[i]) (List.getElem?_eq_getElem hi)
    subst h3
    refine ⟨pre ++ ([] ++ post), h4 O H _ _ [] (fun _ _ _ _ z => z) rfl, ?_, fun a ha => sub a ?_⟩
    · refine nd.sublist ?_
      simp
    · simp at ha ⊢
      rcases ha with q | q <;> simp [q]
  · have hs : ¬ i < σ.length := by rw [hr.len]; exact hi
    rw [List.set_eq_of_length_le (by omega), List.set_eq_of_length_le (by omega)]
    exact ⟨fp, hr, nd, sub⟩
/-- a slot is given a new list -/
theorem Env.setO (e : Env c H0 O H σ Γ) (r : Rr c H H') {i : Nat} {v : V} {d : PyData} {f : List Addr} (b : Fo c H' v d f) (nd' : f.Nodup) (new : ∀ a ∈ f, H a = none) :
    Env c H0 (f ++ O) H' (σ.set i (some v)) (Γ.set i (some (.o d))) := by
  have e' := e.on r
  have hdis : ∀ a ∈ f, a ∉ O := fun a ha hO => by
    obtain ⟨xs, q, _⟩ := e.dm a hO
    rw [new a ha] at q
    cases q
  have hn : ∀ a ∈ f, mns H O a = none := fun a ha => by
    rw [mns_out (hdis a ha)]; exact new a ha
  have same : Same (mns H O) (mns H' (f ++ O)) → True := fun _ => trivial
  have hrm : Rr c (mns H O) (mns H' (f ++ O)) := by
    have rm := r.mns e.j e.okO
    refine ⟨fun a o k h => ?_, fun _ st l q => ?_⟩
    · have h' := rm.1 a o k h
      obtain ⟨n1, h'⟩ := mns_some h'
      have : a ∉ f := fun z => by rw [hn a z] at h; cases h
      rw [mns_out (by simp [this, n1])]
      exact h'
    · obtain ⟨ns, x, k, h1, h2, h3, h4⟩ := e.j st l q
      obtain ⟨ns', x', k', g1, g2, g3, g4⟩ := e'.j st l q
      obtain ⟨m1, g1⟩ := mns_some g1
      obtain ⟨m2, g2⟩ := mns_some g2
      have a1 : st ∉ f := fun z => by rw [hn _ z] at h1; cases h1
      have a2 : l ∉ f := fun z => by rw [hn _ z] at h2; cases h2
      exact ⟨ns', x', k', by rw [mns_out (by simp [a1, m1])]; exact g1, by rw [mns_out (by simp [a2, m2])]; exact g2, g3, g4⟩
  have jn : Ji c (mns H' (f ++ O)) := hrm.2 e.j
  refine ⟨e.r0.tr hrm, jn, fun a ha => ?_, fun a ha => ?_, ?_⟩
  · rcases List.mem_append.mp ha with q | q
    · have := e.r0
      cases h : H0 a with
      | none => rfl
      | some o =>
        have jH0 : okA c a := fun st l q' z => by
          obtain ⟨ns, x, k, h1, _⟩ := e.j st l q'
          rw [← z, hn a q] at h1
          cases h1
        have := e.r0.1 a o jH0 h
        rw [hn a q] at this
        cases this
    · exact e.fr a q
  · rcases List.mem_append.mp ha with q | q
    · exact (b.isL a q).elim fun xs h => ⟨_, h, trivial⟩
    · exact e'.dm a q
  · obtain ⟨fp, hr, nd, sub⟩ := e.rep
    have keep : ∀ y t g, (∀ a ∈ g, a ∈ O) → RepO c O H y t g → RepO c (f ++ O) H' y t g := fun y t g hg z => by
      cases t with
      | none => exact z
      | some t =>
        cases t with
        | v d => exact ⟨z.1, z.2.elim fun v hv => ⟨v, hv.1, hv.2.mono e.j hrm⟩⟩
        | o d => exact z.elim fun v hv => ⟨v, hv.1, hv.2.up (fun _ _ s => r.tup e.jH s) fun a ha o ho => r.1 a o (e.okO a (hg a ha)) ho⟩
        | r y => exact z
        | d u => exact z.elim fun a ⟨w1, w2, w3, w4⟩ => ⟨a, w1, w2, r.1 a _ (e.okO a (hg a (by rw [w1]; simp))) w3, w4⟩
        | w ds => exact z.elim fun a ⟨xs, w1, w2, w3, w4⟩ => ⟨a, xs, w1, w2, r.1 a _ (e.okO a (hg a (by rw [w1]; simp))) w3, w4.mono e.j hrm⟩
    by_cases hi : i < Γ.length
    · obtain ⟨x, g, pre, post, h1, h2, h3, h4⟩ := hr.nth (s := Γ[i]) (List.getElem?_eq_getElem hi)
      subst h3
      refine ⟨pre ++ (f ++ post), h4 _ _ _ _ f (fun y t g' q z => keep y t g' (fun a ha => sub a (by have := q a ha; simp at this ⊢; rcases this with w | w <;> simp [w])) z) ⟨v, rfl, b⟩, ?_, fun a ha => ?_⟩
      · have n0 : (pre ++ post).Nodup := nd.sublist (by simp)
        rw [List.nodup_append] at n0 ⊢
        refine ⟨n0.1, ?_, ?_⟩
        · rw [List.nodup_append]
          refine ⟨nd', n0.2.1, fun a ha b' hb q => ?_⟩
          subst q
          exact hdis a ha (sub a (by simp [hb]))
        · intro a ha b' hb q
          subst q
          rcases List.mem_append.mp hb with w | w
          · exact hdis a w (sub a (by simp [ha]))
          · exact n0.2.2 a ha a w rfl
      · simp only [List.mem_append] at ha ⊢
        rcases ha with q | q | q
        · exact .inr (sub a (by simp [q]))
        · exact .inl q
        · exact .inr (sub a (by simp [q]))
    · have hs : ¬ i < σ.length := by rw [hr.len]; exact hi
      rw [List.set_eq_of_length_le (by omega), List.set_eq_of_length_le (by omega)]
      exact ⟨fp, hr.map fun x s g q z => keep x s g (fun a ha => sub a (q a ha)) z, nd, fun a ha => by simp [sub a ha]⟩
/-- a list of one's own is written: the slot's list at p -/
theorem Env.write (e : Env c H0 O H σ Γ) {i : Nat} {ds es : List PyData} (h : Γ[i]? = some (some (.o (.list ds)))) :
    ∃ p xs f, σ[i]? = some (some (.ref p)) ∧ H p = some (.lst xs) ∧ FoAll c H xs ds f ∧ p ∉ f ∧ (∀ a ∈ f, a ∈ O) ∧
      ∀ ys : List V, FoAll c (upd H p (.lst ys)) ys es f → Env c H0 O (upd H p (.lst ys)) σ (Γ.set i (some (.o (.list es)))) := by
  obtain ⟨fp, hr, nd, sub⟩ := e.rep
  obtain ⟨x, f0, pre, post, h1, h2, h3, h4⟩ := hr.nth h
  obtain ⟨v, hv, b⟩ := h2
  subst hv
  obtain ⟨p, xs, f, rfl, rfl, hp, hfa⟩ := b.list'
  subst h3
  have hpO : p ∈ O := sub p (by simp)
  have n2 := (List.nodup_append.mp nd).2.1
  have hpf : p ∉ f := fun z => by
    have := (List.nodup_append.mp n2).1
    exact (List.nodup_cons.mp this).1 z
  refine ⟨p, xs, f, h1, hp, hfa, hpf, fun a ha => sub a (by simp [ha]), fun ys hy => ?_⟩
  have em : mns (upd H p (.lst ys)) O = mns H O := by
    funext a
    by_cases ha : a ∈ O
    · rw [mns_in ha, mns_in ha]
    · rw [mns_out ha, mns_out ha, upd_ne (fun z => ha (by rw [z]; exact hpO))]
  refine ⟨by rw [em]; exact e.r0, by rw [em]; exact e.j, e.fr, fun a ha => ?_, ?_⟩
  · by_cases q : a = p
    · rw [q]; exact ⟨_, upd_same, trivial⟩
    · rw [upd_ne q]; exact e.dm a ha
  · have hσ : σ.set i (some (.ref p)) = σ := by
      obtain ⟨hlt, e1⟩ := List.getElem?_eq_some_iff.mp h1
      rw [← e1]
      exact List.set_getElem_self hlt
    have := h4 O (upd H p (.lst ys)) (some (.ref p)) (some (.o (.list es))) (p :: f) (fun y t g q z => ?_) ⟨.ref p, rfl, .lst upd_same hy⟩
    · rw [hσ] at this
      exact ⟨_, this, nd, sub⟩
    · cases t with
      | none => exact z
      | some t =>
        cases t with
        | v d => exact ⟨z.1, z.2.elim fun v hv => ⟨v, hv.1, by rw [em]; exact hv.2⟩⟩
        | o d =>
          refine z.elim fun v hv => ⟨v, hv.1, hv.2.up (fun _ _ s => sqT_upd hp s) fun a ha o ho => ?_⟩
          have : a ≠ p := fun w => by
            subst w
            have hm := q a ha
            rcases List.mem_append.mp hm with u | u
            · exact (List.nodup_append.mp nd).2.2 a u a (by simp) rfl
            · exact (List.nodup_append.mp n2).2.2 a (by simp) a u rfl
          rw [upd_ne this]
          exact ho
        | r y => exact z
        | d u =>
          refine z.elim fun a ⟨w1, w2, w3, w4⟩ => ⟨a, w1, w2, ?_, w4⟩
          have : a ≠ p := fun w => by
            subst w
            have hm := q a (by rw [w1]; simp)
            rcases List.mem_append.mp hm with u | u
            · exact (List.nodup_append.mp nd).2.2 a u a (by simp) rfl
            · exact (List.nodup_append.mp n2).2.2 a (by simp) a u rfl
          rw [upd_ne this]
          exact w3
        | w ds =>
          refine z.elim fun a ⟨xs, w1, w2, w3, w4⟩ => ⟨a, xs, w1, w2, ?_, by rw [em]; exact w4⟩
          have : a ≠ p := fun w => by
            subst w
            have hm := q a (by rw [w1]; simp)
            rcases List.mem_append.mp hm with u | u
            · exact (List.nodup_append.mp nd).2.2 a u a (by simp) rfl
            · exact (List.nodup_append.mp n2).2.2 a (by simp) a u rfl
          rw [upd_ne this]
          exact w3
/-- from now on this list is not written -/
theorem Env.freeze (e : Env c H0 O H σ Γ) {i : Nat} {d : PyData} (h : Γ[i]? = some (some (.o d))) : ∃ O', Env c H0 O' H σ (Γ.set i (some (.v d))) ∧ Same (mns H O) (mns H O') := by
  obtain ⟨fp, hr, nd, sub⟩ := e.rep
  obtain ⟨x, f, pre, post, h1, h2, h3, h4⟩ := hr.nth h
  obtain ⟨v, hv, b⟩ := h2
  subst hv
  subst h3
  have n2 := (List.nodup_append.mp nd).2.1
  have dis : ∀ a ∈ pre ++ post, a ∉ f := fun a ha hf => by
    rcases List.mem_append.mp ha with u | u
    · exact (List.nodup_append.mp nd).2.2 a u a (by simp [hf]) rfl
    · exact (List.nodup_append.mp n2).2.2 a hf a u rfl
  have hm : ∀ a, a ∈ O.filter (fun a => !decide (a ∈ f)) ↔ a ∈ O ∧ a ∉ f := fun a => by simp [List.mem_filter]
  have sm : Same (mns H O) (mns H (O.filter fun a => !decide (a ∈ f))) := mns_sub fun a ha => ((hm a).mp ha).1
  refine ⟨O.filter fun a => !decide (a ∈ f), ⟨e.r0.tr (Rr.same sm), e.j.same sm, fun a ha => e.fr a ((hm a).mp ha).1, fun a ha => e.dm a ((hm a).mp ha).1, ?_⟩, sm⟩
  have hσ : σ.set i (some v) = σ := by
    obtain ⟨hlt, e1⟩ := List.getElem?_eq_some_iff.mp h1
    rw [← e1]
    exact List.set_getElem_self hlt
  have hb : Bo c (mns H (O.filter fun a => !decide (a ∈ f))) v d := by
    refine Fo.bo (fun a ha => e.okO a (sub a (by simp [ha]))) (b.up (fun a xs s => sqT_mns (fun b' hb' => e.dm b' ((hm b').mp hb').1) s) fun a ha o ho => ?_)
    rw [mns_out fun z => ((hm a).mp z).2 ha]
    exact ho
  have := h4 (O.filter fun a => !decide (a ∈ f)) H (some v) (some (.v d)) [] (fun y t g q z => ?_) ⟨rfl, v, rfl, hb⟩
  · rw [hσ] at this
    exact ⟨_, this, nd.sublist (by simp), fun a ha => (hm a).mpr ⟨sub a (by simp at ha ⊢; rcases ha with w | w <;> simp [w]), dis a (by simpa using ha)⟩⟩
  · cases t with
    | none => exact z
    | some t =>
      cases t with
      | v d => exact ⟨z.1, z.2.elim fun v hv => ⟨v, hv.1, hv.2.same sm⟩⟩
      | o d => exact z
      | r y => exact z
      | d u => exact z
      | w ds => exact z.elim fun a ⟨xs, w1, w2, w3, w4⟩ => ⟨a, xs, w1, w2, w3, w4.same sm⟩
/-- a later entry is as good as an earlier one -/
theorem Env.base (e : Env c H0 O H σ Γ) : Env c (mns H O) O H σ Γ := ⟨Rr.rf, e.j, fun a ha => mns_in ha, e.dm, e.rep⟩
theorem Env.fromB {O1 : List Addr} {σ1 : L2.St} {Γ1 : List (Option Rs)} (e : Env c H0 O H σ Γ) (e1 : Env c (mns H O) O1 H1 σ1 Γ1) : Env c H0 O1 H1 σ1 Γ1 :=
  ⟨e.r0.tr e1.r0, e1.j, (fun a ha => by
    have h1 := e1.fr a ha
    cases h : H0 a with
    | none => rfl
    | some o =>
      have k : okA c a := fun st l q z => by
        obtain ⟨ns, x, k, g1, _⟩ := e.j st l q
        rw [← z, h1] at g1
        cases g1
      have := e.r0.1 a o k h
      rw [h1] at this
      cases this), e1.dm, e1.rep⟩
end Lm


namespace Lm
open PySem PySem.Spec PyProof.Rows L2
section
variable {X : Cx} {H : Hp}
def NewT (H : Hp) (xs : List V) (Q : VK) : Prop := ∀ p o, o.dict = none → H p = none → Q (.ref p) (upd H p (.frz o (.tup xs)))
theorem newT {pins : List (Addr × Obj)} {σ : L2.St} {s : Shared} {xs : List V} {us : List Value} {Q : VK} (I : Inv X pins σ H s) (r : Vals xs us) (z : xs.length ≤ sizeLine) (q : NewT H xs Q) :
    EP X pins σ Q (.ref s.heap.objs.size) { s with heap := s.heap.push { cls := .type "tuple", data := .seq us.toArray } } := by
  refine ⟨.ref s.heap.objs.size, upd H s.heap.objs.size (.frz { cls := .type "tuple", data := .seq us.toArray } (.tup xs)), I.laid (t' := s.toks) (fun b u e => Heap.get?_push_of_some _ e) (Nat.le_refl _) ?_, rfl, q _ _ rfl (I.hok.fresh (Nat.le_refl _))⟩
  exact ⟨Heap.get?_push_size _ rfl, z, us, r, ⟨_, Heap.get?_push_size _ rfl, rfl, _, rfl⟩⟩
def tTupN (t : TA) : TE := fun σ H Q => t σ H fun xs H1 => xs.length ≤ sizeLine ∧ NewT H1 xs Q
theorem pe_tupN {es : List Expr} {t : TA} {pos : Pos} {x1} (h : PA X es t) : PE X (.Tuple es x1 pos) (tTupN t) := by
  refine ⟨fun pins s σ H Q I hq => ?_⟩
  refine wpAny_Tuple_spliced (thn (h.run pos pins s σ H _ I hq) fun us s1 ⟨xs, H1, I1, r, z, q⟩ => ⟨by rw [← r.length]; exact z, ?_⟩)
  exact newT I1 r z q
/-- t + u -/
def rCatN (K : PySem.W.Frag) : R2 := fun x y H Q => ∃ a b xs ys, x = .ref a ∧ y = .ref b ∧ SqT K H a xs ∧ SqT K H b ys ∧ xs.length + ys.length ≤ sizeLine ∧
  (xs = [] → Q (.ref b) H) ∧ (xs ≠ [] → ys = [] → Q (.ref a) H) ∧ (xs ≠ [] → ys ≠ [] → NewT H (xs ++ ys) Q)
theorem op_catN : OpR X (binaryOp .Add) (rCatN X.K) := by
  intro pins s σ H x y v u Q I rx ry h
  obtain ⟨a, b, xs, ys, rfl, rfl, ha, hb, hz, q0, q1, q2⟩ := h
  cases rx
  cases ry
  obtain ⟨its, r1, p1, _⟩ := I.tuple ha
  obtain ⟨its2, r2, p2, _⟩ := I.tuple hb
  by_cases hx : xs = []
  · subst hx
    cases r1
    exact cat_tup0 p1 p2 ⟨.ref b, H, I, rfl, q0 rfl⟩
  · refine HT.cat_tup p1 p2 (fun z => hx (r1.nil_iff.mp z)) (fun z => ⟨.ref a, H, I, rfl, q1 hx (r2.nil_iff.mp z)⟩) (fun z => ?_) (by rw [← r1.length, ← r2.length]; exact hz)
    have := newT (Q := Q) I (r1.append r2) (by rw [List.length_append]; exact hz) (q2 hx (fun w => z (r2.nil_iff.mpr w)))
    exact this
/-- t[lo:hi] -/
def rSlN (K : PySem.W.Frag) : V → Option Int → Option Int → Hp → VK → Prop := fun x lo hi H Q => ∃ a xs, x = .ref a ∧ SqT K H a xs ∧
  (HT.sIx xs.length 0 lo = 0 ∧ HT.sIx xs.length xs.length hi = xs.length → Q (.ref a) H) ∧ (¬ (HT.sIx xs.length 0 lo = 0 ∧ HT.sIx xs.length xs.length hi = xs.length) → NewT H (cutV xs lo hi) Q)
theorem sl_tupN : SlR X (rSlN X.K) := by
  intro pins s σ H x v vl vu lo hi sl Q I rx hs pl pu h
  obtain ⟨a, xs, rfl, hx, q1, q2⟩ := h
  cases rx
  obtain ⟨its, r, ht, hz⟩ := I.tuple hx
  have hlen : its.toArray.size = xs.length := by rw [List.size_toArray]; exact r.length.symm
  refine ⟨"tuple", _, PyProof.Rows.slot_tuple_getitem.lookup, ht.typeIs, ?_⟩
  by_cases hw : HT.sIx xs.length 0 lo = 0 ∧ HT.sIx xs.length xs.length hi = xs.length
  · exact getItem_tuple_whole ht hs pl pu (by rw [hlen]; exact hw) ⟨.ref a, H, I, rfl, q1 hw⟩
  · refine HT.getItem_tuple_cut ht hs pl pu (by rw [hlen]; exact hw) ?_ (by rw [hlen]; exact hz)
    rw [hlen]
    have := newT (Q := Q) I ((r.drop (HT.sIx xs.length 0 lo)).take (HT.sIx xs.length xs.length hi - HT.sIx xs.length 0 lo)) (Nat.le_trans (cutV_length xs lo hi) hz) (q2 hw)
    exact this
end
end Lm
namespace Lm
open PySem PySem.Spec PyProof.Rows L2
section
variable {X : Cx}
end
end Lm


namespace Lm
open PySem PySem.Spec PyProof.Rows L2
variable {c : Ct} {H H' H0 H1 H2 H3 : Hp} {O : List Addr} {σ : L2.St} {Γ : List (Option Rs)}

/-- what an expression gives: a value that stays, a new list, something to be read at once -/
inductive Kd | v | o | b
def Res (c : Ct) (O : List Addr) (H H2 : Hp) (v : V) (d : PyData) : Kd → Prop
  | .v => Bo c (mns H2 O) v d
  | .o => ∃ fp, Fo c H2 v d fp ∧ fp.Nodup ∧ ∀ a ∈ fp, H a = none
  | .b => Bo c H2 v d
theorem Res.bo {v : V} {d : PyData} {k : Kd} (e : Env c H0 O H σ Γ) (h : Res c O H H2 v d k) : Bo c H2 v d := by
  cases k with
  | v => exact Bo.same mns_same h
  | o =>
    obtain ⟨fp, f, nd, new⟩ := h
    exact f.bo fun a ha => okA.fresh e.jH (new a ha)
  | b => exact h
theorem Res.on {v : V} {d : PyData} {k : Kd} (e : Env c H0 O H σ Γ) (r1 : Rr c H H2) (r : Rr c H2 H3) (h : Res c O H H2 v d k) : Res c O H H3 v d k := by
  have e2 := e.on r1
  cases k with
  | v => exact Bo.mono e2.j (r.mns e2.j e2.okO) h
  | o =>
    obtain ⟨fp, f, nd, new⟩ := h
    exact ⟨fp, f.up (fun _ _ s => r.tup e2.jH s) (fun a ha o q => r.1 a o (okA.fresh e.jH (new a ha)) q), nd, new⟩
  | b => exact Bo.mono e2.jH r h
/-- fresh behind is fresh before -/
theorem Res.back {v : V} {d : PyData} {k : Kd} (e : Env c H0 O H σ Γ) (r1 : Rr c H H2) (h : Res c O H2 H3 v d k) : Res c O H H3 v d k := by
  cases k with
  | v => exact h
  | o =>
    obtain ⟨fp, f, nd, new⟩ := h
    exact ⟨fp, f, nd, fun a ha => r1.back e.jH (new a ha)⟩
  | b => exact h
theorem Bo.flatM {v : V} {d : PyData} (e : Env c H0 O H σ Γ) (r : Rr c H H2) (q : flatD d = true) (h : Bo c H2 v d) : Bo c (mns H2 O) v d :=
  h.flatTo (fun a xs s => sqT_mns (fun b hb => (e.on r).dm b hb) s) q

def Ev (c : Ct) (te : TE) (Γ : List (Option Rs)) (k : Kd) (d : PyData) : Prop :=
  ∀ H0 O H σ, Env c H0 O H σ Γ → ∀ Q : VK, (∀ v H2, Rr c H H2 → Res c O H H2 v d k → Q v H2) → te σ H Q
/-- .. one of several -/
def EvN (c : Ct) (te : TE) (Γ : List (Option Rs)) (k : Kd) (P : PyData → Prop) : Prop :=
  ∀ H0 O H σ, Env c H0 O H σ Γ → ∀ Q : VK, (∀ v d H2, P d → Rr c H H2 → Res c O H H2 v d k → Q v H2) → te σ H Q
def EvT (c : Ct) (tt : TT) (Γ : List (Option Rs)) (b : Bool) : Prop :=
  ∀ H0 O H σ, Env c H0 O H σ Γ → ∀ Q : Bool → Hp → Prop, (∀ H2, Rr c H H2 → Q b H2) → tt σ H Q
def EvTN (c : Ct) (tt : TT) (Γ : List (Option Rs)) : Prop :=
  ∀ H0 O H σ, Env c H0 O H σ Γ → ∀ Q : Bool → Hp → Prop, (∀ b H2, Rr c H H2 → Q b H2) → tt σ H Q
/-- arguments, to be read; (kv) each a value that stays -/
def EvA (c : Ct) (ta : TA) (Γ : List (Option Rs)) (kv : Bool) (ds : List PyData) : Prop :=
  ∀ H0 O H σ, Env c H0 O H σ Γ → ∀ Q : List V → Hp → Prop, (∀ vs H2, Rr c H H2 → BoAll c (if kv then mns H2 O else H2) vs ds → Q vs H2) → ta σ H Q
section
variable {te ta tb tx : TE} {tt tu : TT} {tr : TA} {k ka kb : Kd} {d x y z : PyData} {i j : Int} {a b : Bool} {kv : Bool} {ds : List PyData}
theorem Ev.n (h : Ev c te Γ k d) : EvN c te Γ k (fun x => x = d) := fun H0 O H σ e Q q => h H0 O H σ e Q fun v H2 r s => q v d H2 rfl r s
theorem EvN.det (h : EvN c te Γ k (fun x => x = d)) : Ev c te Γ k d := fun H0 O H σ e Q q => h H0 O H σ e Q fun v d H2 p r s => by subst p; exact q v H2 r s
theorem EvN.imp {P P' : PyData → Prop} (h : EvN c te Γ k P) (i : ∀ d, P d → P' d) : EvN c te Γ k P' := fun H0 O H σ e Q q => h H0 O H σ e Q fun v d H2 p => q v d H2 (i d p)
theorem Ev.to (h : Ev c te Γ k x) (e : x = y) : Ev c te Γ k y := e ▸ h
theorem EvT.to (h : EvT c tt Γ a) (e : a = b) : EvT c tt Γ b := e ▸ h
/-- flat data stay -/
theorem Ev.fl (h : Ev c te Γ k d) (f : flatD d = true) : Ev c te Γ .v d := fun H0 O H σ e Q q => h H0 O H σ e Q fun v H2 r s => q v H2 r (Bo.flatM e r f (Res.bo e s))
theorem Ev.fo (h : Ev c te Γ k d) (f : flatD d = true) : Ev c te Γ .o d := fun H0 O H σ e Q q => h H0 O H σ e Q fun v H2 r s => q v H2 r ⟨[], .leaf f (Res.bo e s), List.nodup_nil, fun _ h => nomatch h⟩
theorem EvN.fo {P : PyData → Prop} (h : EvN c te Γ k P) (f : ∀ d, P d → flatD d = true) : EvN c te Γ .o P := fun H0 O H σ e Q q => h H0 O H σ e Q fun v d H2 p r s => q v d H2 p r ⟨[], .leaf (f d p) (Res.bo e s), List.nodup_nil, fun _ h => nomatch h⟩
theorem EvN.fl {P : PyData → Prop} (h : EvN c te Γ k P) (f : ∀ d, P d → flatD d = true) : EvN c te Γ .v P := fun H0 O H σ e Q q => h H0 O H σ e Q fun v d H2 p r s => q v d H2 p r (Bo.flatM e r (f d p) (Res.bo e s))

/-! ### leaves -/
theorem d_int : Ev c (tC (.int i)) Γ .v (.int i) := fun H0 O H σ e Q q => q _ H Rr.rf (.int i)
theorem d_str {s : Str} : Ev c (tC (.str s)) Γ .v (.str s) := fun H0 O H σ e Q q => q _ H Rr.rf (.str s)
theorem d_non : Ev c (tC .non) Γ .v .none := fun H0 O H σ e Q q => q _ H Rr.rf .non
theorem d_var {n : Nat} (h : Γ[n]? = some (some (.v d))) : Ev c (tVar n) Γ .v d := fun H0 O H σ e Q q => by
  obtain ⟨v, hv, b⟩ := e.slotV h
  exact ⟨v, hv, q v H Rr.rf b⟩
/-! ### two operands -/
theorem d_bin {r : R2} (ha : Ev c ta Γ ka x) (hb : Ev c tb Γ kb y)
    (hr : ∀ H O v u (Q : VK), Bo c H v x → Bo c H u y → (∀ v' H2, Rr c H H2 → Bo c (mns H2 O) v' z → Q v' H2) → r v u H Q) : Ev c (tOp r ta tb) Γ .v z := fun H0 O H σ e Q q =>
  ha H0 O H σ e _ fun v H1 r1 s1 => hb H0 O H1 σ (e.on r1) _ fun u H2 r2 s2 =>
    hr H2 O v u Q (Res.bo e (Res.on e r1 r2 s1)) (Res.bo (e.on r1) s2) fun v' H3 r3 b => q v' H3 ((r1.tr r2).tr r3) b
theorem d_I0 {g : Int → Int → V} {w : V} (ha : Ev c ta Γ ka (.int i)) (hb : Ev c tb Γ kb (.int j)) (hw : g i j = w) (hz : ∀ H, Bo c H w z) : Ev c (tOp (rI0 g) ta tb) Γ .v z :=
  d_bin ha hb fun H O v u Q bv bu q => ⟨i, j, bv.int', bu.int', q _ H Rr.rf (hw ▸ hz _)⟩
theorem d_sub (ha : Ev c ta Γ ka (.int i)) (hb : Ev c tb Γ kb (.int j)) : Ev c (tOp (rI0 fun i j => .int (i - j)) ta tb) Γ .v (.int (i - j)) := d_I0 ha hb rfl fun _ => .int _
theorem d_lt (ha : Ev c ta Γ ka (.int i)) (hb : Ev c tb Γ kb (.int j)) : Ev c (tOp (rI0 fun i j => .bl (decide (i < j))) ta tb) Γ .v (.bool (decide (i < j))) := d_I0 ha hb rfl fun _ => .bl _
theorem d_le (ha : Ev c ta Γ ka (.int i)) (hb : Ev c tb Γ kb (.int j)) : Ev c (tOp (rI0 fun i j => .bl (decide (i ≤ j))) ta tb) Γ .v (.bool (decide (i ≤ j))) := d_I0 ha hb rfl fun _ => .bl _
theorem d_gt (ha : Ev c ta Γ ka (.int i)) (hb : Ev c tb Γ kb (.int j)) : Ev c (tOp (rI0 fun i j => .bl (decide (j < i))) ta tb) Γ .v (.bool (decide (j < i))) := d_I0 ha hb rfl fun _ => .bl _
/-- == and != of scalars -/
def scalD : PyData → Option V
  | .none => some .non
  | .bool b => some (.bl b)
  | .int i => some (.int i)
  | .str s => some (.str s)
  | _ => none
theorem Bo.scal {v w : V} (h : Bo c H v d) (e : scalD d = some w) : v = w := by
  cases h with
  | non => exact Option.some.inj e
  | bl _ => exact Option.some.inj e
  | int _ => exact Option.some.inj e
  | str _ => exact Option.some.inj e
  | lst _ _ _ => cases e
  | tup _ _ => cases e
theorem decI {i j : Int} : decide (V.int i = V.int j) = decide (i = j) := by
  by_cases h : i = j
  · subst h; simp
  · rw [decide_eq_false h, decide_eq_false (fun e => h (V.int.inj e))]
def isNoneD : PyData → Bool
  | .none => true
  | _ => false
theorem Bo.isN {v : V} (h : Bo c H v d) : decide (v = V.non) = isNoneD d := by
  cases h <;> simp [isNoneD]
/-- is None -/
theorem d_isN (ha : Ev c ta Γ ka x) : Ev c (tOp (fun x y H Q => y = .non ∧ Q (.bl (decide (x = .non))) H) ta (tC .non)) Γ .v (.bool (isNoneD x)) :=
  d_bin ha d_non fun H O v u Q bv bu q => ⟨bu.non', by rw [bv.isN]; exact q _ H Rr.rf (.bl _)⟩
theorem d_notN (ha : Ev c ta Γ ka x) : Ev c (tOp (fun x y H Q => y = .non ∧ Q (.bl (!decide (x = .non))) H) ta (tC .non)) Γ .v (.bool (!(isNoneD x))) :=
  d_bin ha d_non fun H O v u Q bv bu q => ⟨bu.non', by rw [bv.isN]; exact q _ H Rr.rf (.bl _)⟩
/-- an item -/
theorem atI_bo {v : List V} (h : BoAll c H v ds) (e : atI ds i = some d) : ∃ x, atI v i = some x ∧ Bo c H x d := by
  unfold atI at e ⊢
  rw [h.len]
  cases q : ixN ds.length i with
  | none => rw [q] at e; cases e
  | some n =>
    rw [q] at e
    exact h.gets e
/-! ### truth -/
theorem d_notV (ha : Ev c ta Γ ka (.bool a)) : Ev c (tNotV ta) Γ .v (.bool (!a)) := fun H0 O H σ e Q q =>
  ha H0 O H σ e _ fun v H1 r1 s1 => ⟨a, (Res.bo e s1).bl', q _ H1 r1 (.bl _)⟩
theorem d_andV (ha : Ev c ta Γ ka (.bool a)) (hb : a = true → Ev c tb Γ .v (.bool b)) : Ev c (tAndV ta tb) Γ .v (.bool (a && b)) := fun H0 O H σ e Q q =>
  ha H0 O H σ e _ fun v H1 r1 s1 => ⟨a, (Res.bo e s1).bl', by
    cases a with
    | true =>
      refine iteT (hb rfl H0 O H1 σ (e.on r1) _ fun u H2 r2 s2 => ?_)
      rw [(Res.bo (e.on r1) s2).bl']
      exact q _ H2 (r1.tr r2) (.bl _)
    | false => exact iteF (q _ H1 r1 (.bl _))⟩
theorem t_test (h : Ev c te Γ k (.bool a)) : EvT c (tTest te) Γ a := fun H0 O H σ e Q q => h H0 O H σ e _ fun v H2 r s => ⟨a, (Res.bo e s).bl', q H2 r⟩
theorem t_B (h : Ev c te Γ k (.bool a)) : EvT c (tB te) Γ a := fun H0 O H σ e Q q => h H0 O H σ e _ fun v H2 r s => ⟨a, (Res.bo e s).bl', q H2 r⟩
theorem t_not (h : EvT c tt Γ a) : EvT c (tNot tt) Γ (!a) := fun H0 O H σ e Q q => h H0 O H σ e _ fun H2 r => q H2 r
theorem t_and (h : EvT c tt Γ a) (g : a = true → EvT c tu Γ b) : EvT c (tAnd tt tu) Γ (a && b) := fun H0 O H σ e Q q => h H0 O H σ e _ fun H2 r => by
  cases a with
  | true => exact iteT (g rfl H0 O H2 σ (e.on r) _ fun H3 r3 => q H3 (r.tr r3))
  | false => exact iteF (q H2 r)
theorem t_yes : EvT c tYes Γ true := fun H0 O H σ e Q q => q H Rr.rf
theorem d_if (h : EvT c tt Γ a) (h1 : a = true → Ev c ta Γ k d) (h2 : a = false → Ev c tb Γ k d) : Ev c (tIf tt ta tb) Γ k d := fun H0 O H σ e Q q => h H0 O H σ e _ fun H1 r1 => by
  cases a with
  | true => exact iteT (h1 rfl H0 O H1 σ (e.on r1) _ fun v H2 r2 s => q v H2 (r1.tr r2) (s.back e r1))
  | false => exact iteF (h2 rfl H0 O H1 σ (e.on r1) _ fun v H2 r2 s => q v H2 (r1.tr r2) (s.back e r1))
/-! ### arguments -/
theorem a_nil : EvA c tNil Γ kv [] := fun H0 O H σ e Q q => q [] H Rr.rf .nil
theorem a_cons (h : Ev c te Γ k d) (hr : EvA c tr Γ false ds) : EvA c (tCons te tr) Γ false (d :: ds) := fun H0 O H σ e Q q =>
  h H0 O H σ e _ fun v H1 r1 s1 => hr H0 O H1 σ (e.on r1) _ fun vs H2 r2 s2 => q _ H2 (r1.tr r2) (.cons (Res.bo e (s1.on e r1 r2)) s2)
theorem a_consV (h : Ev c te Γ .v d) (hr : EvA c tr Γ true ds) : EvA c (tCons te tr) Γ true (d :: ds) := fun H0 O H σ e Q q =>
  h H0 O H σ e _ fun v H1 r1 s1 => hr H0 O H1 σ (e.on r1) _ fun vs H2 r2 s2 => q _ H2 (r1.tr r2) (.cons (s1.on e r1 r2) s2)
end
end Lm


namespace Lm
open PySem PySem.Spec PyProof.Rows L2
variable {c : Ct} {H H' H0 H1 H2 H3 : Hp} {O : List Addr} {σ : L2.St} {Γ Γ' : List (Option Rs)}

/-! ### what is walked -/
/-- an item: data, or a tuple made for the target alone -/
inductive Im where
  | d (x : PyData)
  | t (xs : List Im)
mutual
inductive Lo (c : Ct) (F : Hp) (fz : Bool) (H : Hp) : V → Im → Prop
  | leaf {v : V} {d : PyData} : (flatD d = true ∧ Bo c H v d) ∨ (fz = true ∧ Bo c F v d) → Lo c F fz H v (.d d)
  | tup {a : Addr} {xs : List V} {ds : List Im} : SqT c.K H a xs → LoAll c F fz H xs ds → Lo c F fz H (.ref a) (.t ds)
inductive LoAll (c : Ct) (F : Hp) (fz : Bool) (H : Hp) : List V → List Im → Prop
  | nil : LoAll c F fz H [] []
  | cons {v : V} {vs : List V} {d : Im} {ds : List Im} : Lo c F fz H v d → LoAll c F fz H vs ds → LoAll c F fz H (v :: vs) (d :: ds)
end
theorem LoAll.ofFlat {F : Hp} {fz : Bool} : ∀ {v : List V} {d : List PyData}, flatAll d = true → BoAll c H v d → LoAll c F fz H v (d.map Im.d)
  | _, _, _, .nil => .nil
  | _, _, q, .cons a b => by
    have q' : (flatD _ && flatAll _) = true := q
    rw [Bool.and_eq_true] at q'
    exact .cons (.leaf (.inl ⟨q'.1, a⟩)) (LoAll.ofFlat q'.2 b)
theorem LoAll.ofFz {F : Hp} : ∀ {v : List V} {d : List PyData}, BoAll c F v d → LoAll c F true H v (d.map Im.d)
  | _, _, .nil => .nil
  | _, _, .cons a b => .cons (.leaf (.inr ⟨rfl, a⟩)) (LoAll.ofFz b)
theorem LoAll.len {F : Hp} {fz : Bool} : ∀ {v : List V} {d : List Im}, LoAll c F fz H v d → v.length = d.length
  | _, _, .nil => rfl
  | _, _, .cons _ b => by simp [LoAll.len b]
def WD (c : Ct) (F : Hp) (fz : Bool) (J : It) (ds : List Im) : Prop :=
  Ji c F ∧ Walk J ds.length (fun H => Rr c F H) (fun i H x H' => Same H H' ∧ ∃ d, ds[i]? = some d ∧ Lo c F fz H' x d)
def EvI (c : Ct) (wi : TI) (Γ : List (Option Rs)) (fz : Bool) (ds : List Im) : Prop :=
  ∀ H0 O H σ, Env c H0 O H σ Γ → ∀ R : It → Hp → Prop, (∀ J H1, Rr c H H1 → WD c (if fz then mns H1 O else H1) fz J ds → R J H1) → wi σ H R
/-- a target takes an item -/
def EvG (c : Ct) (g : TG) (d : Im) (Γ Γ' : List (Option Rs)) (js : List Nat) : Prop :=
  ∀ H0 O H σ F fz x, Env c H0 O H σ Γ → Ji c F → Rr c F H → (fz = true → Rr c F (mns H O)) → Lo c F fz H x d → ∀ Q : L2.St → Hp → Prop,
    (∀ σ', Env c H0 O H σ' Γ' → (∀ vs, (∀ j ∈ js, j ∈ vs) → wipe σ' vs = wipe σ vs) → Q σ' H) → g x σ H Q
def EvGs (c : Ct) (g : TGs) (ds : List Im) (Γ Γ' : List (Option Rs)) (js : List Nat) : Prop :=
  ∀ H0 O H σ F fz xs, Env c H0 O H σ Γ → Ji c F → Rr c F H → (fz = true → Rr c F (mns H O)) → LoAll c F fz H xs ds → ∀ Q : L2.St → Hp → Prop,
    (∀ σ', Env c H0 O H σ' Γ' → (∀ vs, (∀ j ∈ js, j ∈ vs) → wipe σ' vs = wipe σ vs) → Q σ' H) → g xs σ H Q
theorem wipe_set {x : Option V} {j : Nat} {σ : L2.St} : ∀ {vs : List Nat}, j ∈ vs → wipe (σ.set j x) vs = wipe σ vs
  | [], h => by simp at h
  | v :: vs, h => by
    unfold wipe
    by_cases hj : j ∈ vs
    · rw [wipe_set hj]
    · have e : j = v := by simpa [hj] using h
      subst e
      have : ∀ (us : List Nat) (σ : L2.St), (wipe (σ.set j x) us).set j none = (wipe σ us).set j none := by
        intro us
        induction us with
        | nil => intro σ; simp [wipe]
        | cons u us ih =>
          intro σ
          show ((wipe (σ.set j x) us).set u none).set j none = ((wipe σ us).set u none).set j none
          by_cases q : u = j
          · subst q; simpa using ih σ
          · rw [List.set_comm _ _ q, ih σ, List.set_comm _ _ (fun z => q z.symm)]
      exact this vs σ
theorem wipe_wipe {σ : L2.St} : ∀ {vs us : List Nat}, (∀ v ∈ vs, v ∈ us) → wipe (wipe σ vs) us = wipe σ us
  | [], us, h => rfl
  | v :: vs, us, h => by
    show wipe ((wipe σ vs).set v none) us = wipe σ us
    rw [wipe_set (h v (by simp)), wipe_wipe fun w hw => h w (by simp [hw])]
def wipeG (Γ : List (Option Rs)) : List Nat → List (Option Rs)
  | [] => Γ
  | v :: vs => (wipeG Γ vs).set v none
theorem Env.wipe (e : Env c H0 O H σ Γ) : ∀ vs : List Nat, Env c H0 O H (L2.wipe σ vs) (wipeG Γ vs)
  | [] => e
  | v :: vs => (Env.wipe e vs).setN
theorem g_name {j : Nat} {d : PyData} : EvG c (gName j) (.d d) Γ (Γ.set j (some (.v d))) [j] := fun H0 O H σ F fz x e jF rF rM h Q q => by
  have b : Bo c (mns H O) x d := by
    cases h with
    | leaf h =>
      rcases h with ⟨f, b⟩ | ⟨f, b⟩
      · exact b.flatTo (fun a xs s => sqT_mns (fun b hb => e.dm b hb) s) f
      · exact b.mono jF (rM f)
  exact q _ (e.setV b) fun vs hv => wipe_set (hv j (by simp))
theorem g_nil : EvGs c gNil [] Γ Γ [] := fun H0 O H σ F fz xs e jF rF rM h Q q => by
  cases h
  exact ⟨rfl, q σ e fun _ _ => rfl⟩
theorem g_cons {g : TG} {gs : TGs} {d : Im} {ds : List Im} {Γ1 Γ2 : List (Option Rs)} {js ks : List Nat} (h : EvG c g d Γ Γ1 js) (hs : EvGs c gs ds Γ1 Γ2 ks) : EvGs c (gCons g gs) (d :: ds) Γ Γ2 (js ++ ks) := fun H0 O H σ F fz xs e jF rF rM l Q q => by
  cases l with
  | cons a b =>
    exact ⟨_, _, rfl, h H0 O H σ F fz _ e jF rF rM a _ fun σ1 e1 w1 => hs H0 O H σ1 F fz _ e1 jF rF rM b _ fun σ2 e2 w2 => q σ2 e2 fun vs hv =>
      (w2 vs fun j hj => hv j (by simp [hj])).trans (w1 vs fun j hj => hv j (by simp [hj]))⟩
theorem g_tup {n : Nat} {gs : TGs} {ds : List Im} {js : List Nat} (hn : ds.length = n) (hs : EvGs c gs ds Γ Γ' js) : EvG c (gTup c.K n gs) (.t ds) Γ Γ' js := fun H0 O H σ F fz x e jF rF rM h Q q => by
  cases h with
  | tup s al => exact ⟨_, _, rfl, s, al.len.trans hn, hs H0 O H σ F fz _ e jF rF rM al Q q⟩
end Lm


namespace Lm
open PySem PySem.Spec PyProof.Rows L2
variable {c : Ct} {H H' H0 H1 H2 H3 : Hp} {O : List Addr} {σ : L2.St} {Γ Γ' : List (Option Rs)}
variable {te ta tb tx tl : TE} {tt tu : TT} {tr : TA} {k ka kb : Kd} {d x y z : PyData} {i j : Int} {a b : Bool} {kv fz : Bool} {ds es : List PyData}

/-! ### what is walked: lists, tuples, ranges -/
theorem sizeOk {n : Nat} (h : n ≤ 1000000) : n ≤ sizeLine := Nat.le_trans h (by decide)
/-- the frozen part -/
theorem Res.frozen {v : V} (e : Env c H0 O H σ Γ) (r : Rr c H H2) (h : Res c O H H2 v d k) (hk : k ≠ .b) : Bo c (mns H2 O) v d := by
  cases k with
  | v => exact h
  | o =>
    obtain ⟨fp, f, nd, new⟩ := h
    have e2 := e.on r
    have no : ∀ a ∈ fp, a ∉ O := fun a ha hO => by
      obtain ⟨xs, q, _⟩ := e.dm a hO
      rw [new a ha] at q
      cases q
    exact (f.up (fun a xs s => sqT_mns (fun b hb => e2.dm b hb) s) fun a ha o q => by rw [mns_out (no a ha)]; exact q).bo fun a ha => okA.fresh e.jH (new a ha)
  | b => exact absurd rfl hk
/-- the upI from lo on, n of them -/
def upI (lo : Int) (n : Nat) : List Int := (List.range n).map fun (i : Nat) => lo + (i : Int)
theorem i_range {F : Hp} (jF : Ji c F) {lo : Int} {n : Nat} : WD c F fz (Itr lo n) ((upI lo n).map fun i => Im.d (.int i)) := by
  refine ⟨jF, ?_⟩
  have hl : ((upI lo n).map fun i => Im.d (.int i)).length = n := by simp [upI]
  rw [hl]
  refine walk_range.mono (fun _ _ => trivial) fun i H x H' hi g y => ?_
  obtain ⟨rfl, rfl⟩ := y
  exact ⟨Same.refl _, .d (.int (lo + i)), by simp [upI, hi], .leaf (.inl ⟨rfl, .int _⟩)⟩
theorem i_rng1 {n : Int} (h : EvA c tr Γ kv [.int n]) (hn : n ≤ 1000000) (hn' : -1000000 ≤ n) : EvI c (iRng1 tr) Γ true ((upI 0 n.toNat).map fun i => Im.d (.int i)) := fun H0 O H σ e R q =>
  h H0 O H σ e _ fun vs H1 r s => by
    cases s with
    | cons b bs =>
      cases bs
      have := b.int'
      subst this
      exact ⟨n, rfl, by omega, by omega, q _ H1 r (i_range (e.on r).j)⟩
/-! ### comprehensions -/
theorem flatAll_one {d : PyData} {ds : List PyData} (h : flatAll ds = true) (m : d ∈ ds) : flatD d = true := by
  induction ds with
  | nil => simp at m
  | cons a l ih =>
    have q' : (flatD a && flatAll l) = true := h
    rw [Bool.and_eq_true] at q'
    rcases List.mem_cons.mp m with w | w
    · rw [w]; exact q'.1
    · exact ih q'.2 w
theorem ifFz {F : Hp} {H1 : Hp} {O : List Addr} (e : Env c H0 O H σ Γ) (r1 : Rr c H H1) (r : Rr c H1 H2) : Rr c (if fz then mns H1 O else H1) H2 ∧ (fz = true → Rr c (if fz then mns H1 O else H1) (mns H2 O)) := by
  cases fz with
  | true => exact ⟨(Rr.same mns_same).tr r, fun _ => r.mns (e.on r1).j e.okO⟩
  | false => exact ⟨r, fun h => nomatch h⟩
theorem n_lc {wi : TI} {g : TG} {vs : List Nat} {items : List Im} (M : Nat → List PyData → Prop) (hi : EvI c wi Γ fz items) (hl : items.length ≤ 1000000) (h0 : M 0 [])
    (hb : ∀ (n : Nat) (a : Im) (acc : List PyData), items[n]? = some a → M n acc → ∃ Γ' js, EvG c g a (wipeG Γ vs) Γ' js ∧ (∀ j ∈ js, j ∈ vs) ∧
      ∃ (b : Bool) (P : PyData → Prop), EvT c tt Γ' b ∧ (b = true → EvN c te Γ' .o P ∧ ∀ d, P d → M (n + 1) (acc ++ [d])) ∧ (b = false → M (n + 1) acc)) :
    EvN c (tLc wi g tt te vs) Γ .o (fun d => ∃ acc, d = .list acc ∧ M items.length acc) := fun H0 O H σ e Q q =>
  hi H0 O H σ e _ fun J H1 r1 w D hD => by
    obtain ⟨jF, w⟩ := w
    refine lc_it w (fun n H' => Rr c H1 H' ∧ ∃ acc ds fp, H' D = some (.lst acc) ∧ FoAll c H' acc ds fp ∧ fp.Nodup ∧ (∀ a ∈ fp, H1 a = none) ∧ D ∉ fp ∧ ds.length ≤ n ∧ M n ds) ?_ ?_ ?_ ?_
    · exact ⟨Rr.same fun b o z => by rw [upd_ne (ne_of_none z hD)]; exact z, [], [], [], upd_same, .nil, List.nodup_nil, (fun _ h => nomatch h), (fun h => nomatch h), Nat.le_refl _, h0⟩
    · intro n H' _ p
      exact (ifFz (F := H) e r1 p.1).1
    · rintro n x H' H'' hn ⟨p1, acc, ds, fp, p2, p3, p4, p5, p6, p7, p8⟩ ⟨sm, im, him, lo⟩
      have e2 : Env c H0 O H'' σ Γ := e.on ((r1.tr p1).tr (Rr.same sm))
      have fzz := ifFz (fz := fz) (F := H) e r1 (p1.tr (Rr.same sm))
      obtain ⟨Γ', js, hg, hjs, b, P, ht, hy, hno⟩ := hb n im ds him p8
      refine hg H0 O H'' _ _ fz x (e2.wipe vs) jF fzz.1 fzz.2 lo _ fun σ2 e3 hw => ⟨(hw vs hjs).trans (wipe_wipe fun _ h => h), ht H0 O H'' σ2 e3 _ fun H3 r3 => ?_⟩
      have p3' : FoAll c H'' acc ds fp := p3.up (fun _ _ s => sqT_same sm s) fun a _ o z => sm a o z
      have okf : ∀ a ∈ fp, okA c a := fun a ha => okA.fresh (e.on r1).jH (p5 a ha)
      have okD : okA c D := okA.fresh (e.on r1).jH hD
      have f3 : FoAll c H3 acc ds fp := p3'.up (fun _ _ s => r3.tup e2.jH s) fun a ha o z => r3.1 a o (okf a ha) z
      have D3 : H3 D = some (.lst acc) := r3.1 D _ okD (sm _ _ p2)
      have r13 : Rr c H1 H3 := (p1.tr (Rr.same sm)).tr r3
      cases b with
      | true =>
        refine iteT ?_
        obtain ⟨hyN, hyM⟩ := hy rfl
        refine hyN H0 O H3 σ2 (e3.on r3) _ fun v d H4 pd r4 s4 => ?_
        obtain ⟨fq, f4, nq, newq⟩ := s4
        have e3' := e3.on r3
        have D4 : H4 D = some (.lst acc) := r4.1 D _ okD D3
        have f3' : FoAll c H4 acc ds fp := f3.up (fun _ _ s => r4.tup e3'.jH s) fun a ha o z => r4.1 a o (okf a ha) z
        have Dq : D ∉ fq := fun z => by rw [newq D z] at D3; cases D3
        have all : FoAll c H4 (acc ++ [v]) (ds ++ [d]) (fp ++ (fq ++ [])) := f3'.app (.cons f4 .nil)
        rw [List.append_nil] at all
        have lacc : acc.length = ds.length := (f3'.bo okf).len
        have hle : ds.length ≤ 1000000 := by omega
        have nodq : ∀ a ∈ fp, a ∉ fq := fun a ha hq => by
          obtain ⟨xs, z⟩ := f3.isL a ha
          rw [newq a hq] at z; cases z
        refine ⟨acc, D4, by rw [lacc, sizeLine_eq]; omega, ?_, acc ++ [v], ds ++ [d], fp ++ fq, upd_same, ?_, ?_, ?_, ?_, by simp; omega, hyM d pd⟩
        · refine ⟨fun a o ok z => ?_, fun jj => ?_⟩
          · rw [upd_ne (ne_of_none z hD)]; exact (r13.tr r4).1 a o ok z
          · intro st l eq
            obtain ⟨ns, x, k, g1, g2, g3, g4⟩ := (r13.tr r4).2 jj st l eq
            have d1 : st ≠ D := fun z => by
              obtain ⟨ns', x', k', g1', _⟩ := jj st l eq
              rw [z, hD] at g1'; cases g1'
            have d2 : l ≠ D := fun z => by
              obtain ⟨ns', x', k', _, g2', _⟩ := jj st l eq
              rw [z, hD] at g2'; cases g2'
            exact ⟨ns, x, k, by rw [upd_ne d1]; exact g1, by rw [upd_ne d2]; exact g2, g3, g4⟩
        · refine all.up (fun _ _ s => sqT_upd D4 s) fun a ha o z => ?_
          have : a ≠ D := fun w => by
            subst w
            rcases List.mem_append.mp ha with u | u
            · exact p6 u
            · exact Dq u
          rw [upd_ne this]; exact z
        · rw [List.nodup_append]
          exact ⟨p4, nq, fun a ha b hb z => by subst z; exact nodq a ha hb⟩
        · intro a ha
          rcases List.mem_append.mp ha with u | u
          · exact p5 a u
          · exact r13.back (e.on r1).jH (newq a u)
        · intro z
          rcases List.mem_append.mp z with u | u
          · exact p6 u
          · exact Dq u
      | false =>
        exact iteF ⟨r13, acc, ds, fp, D3, f3, p4, p5, p6, by omega, hno rfl⟩
    · rintro H' ⟨p1, acc, ds, fp, p2, p3, p4, p5, p6, p7, p8⟩
      refine q (.ref D) (.list ds) H' ⟨ds, rfl, p8⟩ (r1.tr p1) ⟨D :: fp, .lst p2 p3, ?_, fun a ha => ?_⟩
      · exact List.nodup_cons.mpr ⟨p6, p4⟩
      · rcases List.mem_cons.mp ha with w | w
        · rw [w]; exact r1.back e.jH hD
        · exact r1.back e.jH (p5 a w)
theorem d_lc {α : Type} {wi : TI} {g : TG} {vs : List Nat} {l : List α} {en : α → Im} (p : α → Bool) (m : α → PyData) (hi : EvI c wi Γ fz (l.map en)) (hl : l.length ≤ 1000000)
    (hb : ∀ a ∈ l, ∃ Γ' js, EvG c g (en a) (wipeG Γ vs) Γ' js ∧ (∀ j ∈ js, j ∈ vs) ∧ EvT c tt Γ' (p a) ∧ (p a = true → Ev c te Γ' .o (m a))) :
    Ev c (tLc wi g tt te vs) Γ .o (.list ((l.filter p).map m)) := by
  refine ((n_lc (fun n acc => acc = ((l.take n).filter p).map m) hi (by simpa using hl) rfl ?_).imp ?_).det
  · intro n a acc hn hacc
    rw [List.getElem?_map] at hn
    cases ha : l[n]? with
    | none => rw [ha] at hn; cases hn
    | some a0 =>
      rw [ha] at hn
      have : en a0 = a := Option.some.inj hn
      subst this
      have tk : l.take (n + 1) = l.take n ++ [a0] := by
        rw [List.take_add_one, ha]; rfl
      obtain ⟨Γ', js, h1, h2, h3, h4⟩ := hb a0 (List.mem_of_getElem? ha)
      refine ⟨Γ', js, h1, h2, p a0, fun d => d = m a0, h3, fun hp => ⟨(h4 hp).n, fun d hd => ?_⟩, fun hp => ?_⟩
      · rw [hacc, tk, hd]; simp [hp]
      · rw [hacc, tk]; simp [hp]
  · rintro d ⟨acc, rfl, h⟩
    have : (l.map en).length = l.length := by simp
    rw [this, List.take_length] at h
    rw [h]
/-- without a test -/
theorem d_lcA {α : Type} {wi : TI} {g : TG} {vs : List Nat} {l : List α} {en : α → Im} (m : α → PyData) (hi : EvI c wi Γ fz (l.map en)) (hl : l.length ≤ 1000000)
    (hb : ∀ a ∈ l, ∃ Γ' js, EvG c g (en a) (wipeG Γ vs) Γ' js ∧ (∀ j ∈ js, j ∈ vs) ∧ Ev c te Γ' .o (m a)) :
    Ev c (tLc wi g tYes te vs) Γ .o (.list (l.map m)) := by
  have := d_lc (te := te) (tt := tYes) (g := g) (vs := vs) (fun _ => true) m hi hl fun a ha => by
    obtain ⟨Γ', js, h1, h2, h3⟩ := hb a ha
    exact ⟨Γ', js, h1, h2, t_yes, fun _ => h3⟩
  have e : l.filter (fun _ => true) = l := List.filter_eq_self.mpr fun _ _ => rfl
  rwa [e] at this
end Lm


namespace Lm
open PySem PySem.Spec PyProof.Rows L2
variable {c : Ct} {H H' H0 H1 H2 H3 : Hp} {O : List Addr} {σ : L2.St} {Γ Γ' Γ1 : List (Option Rs)}
variable {te ta tb tx tl : TE} {tt tu : TT} {tr : TA} {k ka kb : Kd} {d x y z : PyData} {i j : Int} {a b : Bool} {kv fz : Bool} {ds es : List PyData}

/-! ### how a statement ends -/
inductive Out where
  | nx (Γ : List (Option Rs))
  | rt (k : Kd) (d : PyData)
  | bk (Γ : List (Option Rs))
  | ct (Γ : List (Option Rs))
def Rt (c : Ct) (H0 H : Hp) (v : V) (d : PyData) : Kd → Prop
  | .v => flatD d = true ∧ Bo c H v d
  | .o => ∃ fp, Fo c H v d fp ∧ fp.Nodup ∧ ∀ a ∈ fp, H0 a = none
  | .b => (∃ x, c.so = some x) ∧ Bo c H v d
def Sat (c : Ct) (H0 : Hp) (D : Ends) : Out → Prop
  | .nx Γ => ∀ O H σ, Env c H0 O H σ Γ → D.nx σ H
  | .rt k d => ∀ v H, Rr c H0 H → Rt c H0 H v d k → D.rt v H
  | .bk Γ => ∀ O H σ, Env c H0 O H σ Γ → D.bk σ H
  | .ct Γ => ∀ O H σ, Env c H0 O H σ Γ → D.ct σ H
def Sd (c : Ct) (t : TS) (Γ : List (Option Rs)) (P : Out → Prop) : Prop :=
  ∀ H0 O H σ D, Env c H0 O H σ Γ → (∀ o, P o → Sat c H0 D o) → t D σ H
section
variable {t u w : TS} {P P1 : Out → Prop} {n : Nat}
theorem Env.back0 (e : Env c H0 O H σ Γ) {a : Addr} (h : mns H O a = none) : H0 a = none := by
  cases q : H0 a with
  | none => rfl
  | some o =>
    have k : okA c a := fun st l z w => by
      obtain ⟨ns, x, k, g1, _⟩ := e.j st l z
      rw [← w, h] at g1
      cases g1
    have := e.r0.1 a o k q
    rw [h] at this
    cases this
theorem s_next (h : P (.nx Γ)) : Sd c tNext Γ P := fun H0 O H σ D e s => s _ h O H σ e
theorem s_seq (h : Sd c t Γ P1) (hn : ∀ Γ1, P1 (.nx Γ1) → Sd c u Γ1 P) (hr : ∀ k d, P1 (.rt k d) → P (.rt k d)) (hb : ∀ Γ1, P1 (.bk Γ1) → P (.bk Γ1)) (hc : ∀ Γ1, P1 (.ct Γ1) → P (.ct Γ1)) : Sd c (tSeq t u) Γ P := fun H0 O H σ D e s =>
  h H0 O H σ _ e fun o po => match o with
    | .nx Γ1 => fun O1 H1 σ1 e1 => hn Γ1 po H0 O1 H1 σ1 D e1 s
    | .rt k d => fun v H1 r q => s _ (hr k d po) v H1 r q
    | .bk Γ1 => fun O1 H1 σ1 e1 => s _ (hb Γ1 po) O1 H1 σ1 e1
    | .ct Γ1 => fun O1 H1 σ1 e1 => s _ (hc Γ1 po) O1 H1 σ1 e1
theorem s_seq1 (h : Sd c t Γ (fun o => o = .nx Γ1)) (hn : Sd c u Γ1 P) : Sd c (tSeq t u) Γ P :=
  s_seq h (fun _ e => by cases e; exact hn) (fun _ _ e => nomatch e) (fun _ e => nomatch e) (fun _ e => nomatch e)
theorem Sd.imp (h : Sd c t Γ P1) (i : ∀ o, P1 o → P o) : Sd c t Γ P := fun H0 O H σ D e s => h H0 O H σ D e fun o po => s o (i o po)
/-- another description of the slots -/
theorem Sd.pre (h : Sd c t Γ1 P) (i : ∀ H0 O H σ, Env c H0 O H σ Γ → ∃ O', Env c H0 O' H σ Γ1) : Sd c t Γ P := fun H0 O H σ D e s => by
  obtain ⟨O', e'⟩ := i H0 O H σ e
  exact h H0 O' H σ D e' s
theorem s_freeze (h : Γ[n]? = some (some (.o d))) (hs : Sd c t (Γ.set n (some (.v d))) P) : Sd c t Γ P :=
  hs.pre fun H0 O H σ e => let ⟨O', e', _⟩ := e.freeze h; ⟨O', e'⟩
/-- what an expression gave is stored: to be returned -/
theorem Rt.of {v : V} (e : Env c H0 O H σ Γ) (r : Rr c H H2) (h : Res c O H H2 v d k) (hk : k = .o ∨ (k = .v ∧ flatD d = true)) : Rt c H0 H2 v d k := by
  rcases hk with rfl | ⟨rfl, f⟩
  · obtain ⟨fp, q, nd, new⟩ := h
    refine ⟨fp, q, nd, fun a ha => e.back0 ?_⟩
    have : a ∉ O := fun z => by
      obtain ⟨xs, w, _⟩ := e.dm a z
      rw [new a ha] at w; cases w
    rw [mns_out this]; exact new a ha
  · exact ⟨f, Bo.same mns_same h⟩
theorem s_ret (h : Ev c te Γ k d) (hk : k = .o ∨ (k = .v ∧ flatD d = true)) (p : P (.rt k d)) : Sd c (tRet te) Γ P := fun H0 O H σ D e s =>
  h H0 O H σ e _ fun v H2 r q => s _ p v H2 (e.rH.tr r) (Rt.of e r q hk)
/-- what stays is returned, lists in it too: to be read at once -/
theorem s_retB {x : Addr × Addr} (Pd : PyData → Prop) (hs : c.so = some x) (h : EvN c te Γ .v Pd) (p : ∀ d, Pd d → P (.rt .b d)) : Sd c (tRet te) Γ P := fun H0 O H σ D e s =>
  h H0 O H σ e _ fun v d H2 pd r q => s _ (p d pd) v H2 (e.rH.tr r) ⟨⟨x, hs⟩, Bo.same mns_same q⟩
/-- a list of one's own is returned -/
theorem s_retO (h : Γ[n]? = some (some (.o d))) (p : P (.rt .o d)) : Sd c (tRet (tVar n)) Γ P := fun H0 O H σ D e s => by
  obtain ⟨v, fp, hv, f, nd, sub⟩ := e.slotO h
  exact ⟨v, hv, s _ p v H e.rH ⟨fp, f, nd, fun a ha => e.fr a (sub a ha)⟩⟩
theorem s_asg (h : Ev c te Γ .v d) (p : P (.nx (Γ.set n (some (.v d))))) : Sd c (tAsg te (gName n)) Γ P := fun H0 O H σ D e s =>
  h H0 O H σ e _ fun v H2 r q => s _ p O H2 _ ((e.on r).setV q)
theorem s_asgO (h : Ev c te Γ .o d) (p : P (.nx (Γ.set n (some (.o d))))) : Sd c (tAsg te (gName n)) Γ P := fun H0 O H σ D e s =>
  h H0 O H σ e _ fun v H2 r ⟨fp, f, nd, new⟩ => s _ p _ H2 _ (e.setO r f nd new)
theorem q_asg (h : Ev c te Γ .v d) (p : Sd c u (Γ.set n (some (.v d))) P) : Sd c (tSeq (tAsg te (gName n)) u) Γ P := s_seq1 (s_asg h rfl) p
theorem q_asgO (h : Ev c te Γ .o d) (p : Sd c u (Γ.set n (some (.o d))) P) : Sd c (tSeq (tAsg te (gName n)) u) Γ P := s_seq1 (s_asgO h rfl) p
theorem q_asgN (Pd : PyData → Prop) (h : EvN c te Γ .v Pd) (p : ∀ d, Pd d → Sd c u (Γ.set n (some (.v d))) P) : Sd c (tSeq (tAsg te (gName n)) u) Γ P := fun H0 O H σ D e s =>
  h H0 O H σ e _ fun v d H2 pd r q => p d pd H0 O H2 _ D ((e.on r).setV q) s
theorem q_drop (h : Ev c te Γ k d) (p : Sd c u Γ P) : Sd c (tSeq (tDrop te) u) Γ P := fun H0 O H σ D e s =>
  h H0 O H σ e _ fun v H2 r q => p H0 O H2 σ D (e.on r) s
theorem s_drop (h : Ev c te Γ k d) (p : P (.nx Γ)) : Sd c (tDrop te) Γ P := fun H0 O H σ D e s =>
  h H0 O H σ e _ fun v H2 r q => s _ p O H2 σ (e.on r)
theorem s_if (h : EvT c tt Γ a) (h1 : a = true → Sd c t Γ P) (h2 : a = false → Sd c u Γ P) : Sd c (tIfS tt t u) Γ P := fun H0 O H σ D e s =>
  h H0 O H σ e _ fun H2 r => by
    cases a with
    | true => exact iteT (h1 rfl H0 O H2 σ D (e.on r) s)
    | false => exact iteF (h2 rfl H0 O H2 σ D (e.on r) s)
theorem s_ifN (h : EvTN c tt Γ) (h1 : Sd c t Γ P) (h2 : Sd c u Γ P) : Sd c (tIfS tt t u) Γ P := fun H0 O H σ D e s =>
  h H0 O H σ e _ fun b H2 r => by
    cases b with
    | true => exact iteT (h1 H0 O H2 σ D (e.on r) s)
    | false => exact iteF (h2 H0 O H2 σ D (e.on r) s)
/-- if, then the rest -/
theorem q_if (h : EvT c tt Γ a) (h1 : a = true → Sd c (tSeq t w) Γ P) (h2 : a = false → Sd c (tSeq u w) Γ P) : Sd c (tSeq (tIfS tt t u) w) Γ P := fun H0 O H σ D e s =>
  h H0 O H σ e _ fun H2 r => by
    cases a with
    | true => exact iteT (h1 rfl H0 O H2 σ D (e.on r) s)
    | false => exact iteF (h2 rfl H0 O H2 σ D (e.on r) s)
theorem q_next (h : Sd c u Γ P) : Sd c (tSeq tNext u) Γ P := fun H0 O H σ D e s => h H0 O H σ D e s
theorem q_ret (h : Ev c te Γ k d) (hk : k = .o ∨ (k = .v ∧ flatD d = true)) (p : P (.rt k d)) : Sd c (tSeq (tRet te) u) Γ P := fun H0 O H σ D e s =>
  h H0 O H σ e _ fun v H2 r q => s _ p v H2 (e.rH.tr r) (Rt.of e r q hk)
/-- if that surely is not so (or is) -/
theorem q_no (h : EvT c tt Γ false) (h2 : Sd c w Γ P) : Sd c (tSeq (tIfS tt t tNext) w) Γ P := q_if h (fun e => nomatch e) (fun _ => q_next h2)
theorem s_no (h : EvT c tt Γ false) (h2 : Sd c u Γ P) : Sd c (tIfS tt t u) Γ P := s_if h (fun e => nomatch e) (fun _ => h2)
theorem s_yes (h : EvT c tt Γ true) (h2 : Sd c t Γ P) : Sd c (tIfS tt t u) Γ P := s_if h (fun _ => h2) (fun e => nomatch e)
/-- x += e -/
theorem s_aug {f : Int → Int → Int} (hx : Γ[n]? = some (some (.v (.int i)))) (h : Ev c te Γ k (.int j)) (p : P (.nx (Γ.set n (some (.v (.int (f i j))))))) : Sd c (tAug n te (ipI f)) Γ P := fun H0 O H σ D e s => by
  obtain ⟨v, hv, b⟩ := e.slotV hx
  refine ⟨v, hv, h H0 O H σ e _ fun w H2 r q => ⟨i, j, b.int', (Res.bo e q).int', s _ p O H2 _ ((e.on r).setV (.int _))⟩⟩
/-- xs.append(e) -/
theorem s_app (hx : Γ[n]? = some (some (.o (.list ds)))) (h : Ev c te Γ k d) (hf : flatD d = true) (hl : ds.length < 1000000) (p : P (.nx (Γ.set n (some (.o (.list (ds ++ [d]))))))) : Sd c (tDrop (tBM c.K "list" rAppend (tVar n) (tCons te tNil))) Γ P := fun H0 O H σ D e s => by
  obtain ⟨q, xs, f, hq, hp, fa, qf, qO, _⟩ := e.write (es := ds ++ [d]) hx
  refine ⟨.ref q, hq, .inl ⟨rfl, xs, .inl (.inl hp)⟩, h H0 O H σ e _ fun v H2 r rs => ?_⟩
  have e2 := e.on r
  obtain ⟨q', xs', f', hq', hp', fa', qf', qO', wr⟩ := e2.write (es := ds ++ [d]) hx
  have : q' = q := by rw [hq] at hq'; cases hq'; rfl
  subst this
  have bo : Bo c H2 v d := Res.bo e rs
  have lx : xs'.length = ds.length := (fa'.bo fun a ha => e.okO a (qO' a ha)).len
  refine ⟨q', xs', v, rfl, rfl, hp', by rw [lx, sizeLine_eq]; omega, s _ p O _ σ (wr (xs' ++ [v]) ?_)⟩
  have := fa'.app (.cons (.leaf hf bo) .nil : FoAll c H2 [v] [d] ([] ++ []))
  rw [List.append_nil, List.append_nil] at this
  exact this.up (fun _ _ s => sqT_upd hp' s) fun a ha o z => by
    have : a ≠ q' := fun w => qf' (w ▸ ha)
    rw [upd_ne this]; exact z
theorem q_app (hx : Γ[n]? = some (some (.o (.list ds)))) (h : Ev c te Γ k d) (hf : flatD d = true) (hl : ds.length < 1000000) (p : Sd c u (Γ.set n (some (.o (.list (ds ++ [d]))))) P) : Sd c (tSeq (tDrop (tBM c.K "list" rAppend (tVar n) (tCons te tNil))) u) Γ P :=
  s_seq1 (s_app hx h hf hl rfl) p
/-! ### for -/
theorem s_for {wi : TI} {g : TG} {tb : TS} {items : List Im} (hi : EvI c wi Γ true items) (I : Nat → List (Option Rs) → Prop) (h0 : I 0 Γ)
    (hs : ∀ n a Γ1, items[n]? = some a → I n Γ1 → ∃ Γ2 js, EvG c g a Γ1 Γ2 js ∧
      Sd c tb Γ2 (fun o => (∃ Γ3, (o = .nx Γ3 ∨ o = .ct Γ3) ∧ I (n + 1) Γ3) ∨ (∃ Γ3, o = .bk Γ3 ∧ P (.nx Γ3)) ∨ ∃ k d, o = .rt k d ∧ P o))
    (hd : ∀ Γ1, I items.length Γ1 → P (.nx Γ1)) : Sd c (tFor wi g tb) Γ P := fun H0 O H σ D e s =>
  hi H0 O H σ e _ fun J H1 r1 w => by
    obtain ⟨jF, w⟩ := w
    have e1 := e.on r1
    refine for_it w (fun n σ' H' => ∃ O' Γ', I n Γ' ∧ Env c (mns H1 O) O' H' σ' Γ') ⟨O, Γ, h0, e1.base⟩ ?_ ?_ ?_
    · rintro n σ' H' _ ⟨O', Γ', _, e'⟩
      exact e'.rH
    · rintro n x σ' H' H'' hn ⟨O', Γ', hI, e'⟩ ⟨sm, im, him, lo⟩
      have e2 := e'.on (Rr.same sm)
      obtain ⟨Γ2, js, hg, hb⟩ := hs n im Γ' him hI
      refine hg _ _ _ _ _ true x e2 jF e2.rH (fun _ => e2.r0) lo _ fun σ2 e3 _ => hb _ _ _ _ _ e3 fun o po => ?_
      rcases po with ⟨Γ3, ho, h3⟩ | ⟨Γ3, ho, h3⟩ | ⟨k, d, ho, h3⟩
      · rcases ho with rfl | rfl
        · exact fun O4 H4 σ4 e4 => ⟨O4, Γ3, h3, e4⟩
        · exact fun O4 H4 σ4 e4 => ⟨O4, Γ3, h3, e4⟩
      · subst ho
        exact fun O4 H4 σ4 e4 => s _ h3 O4 H4 σ4 (e1.fromB e4)
      · subst ho
        intro v H4 r4 rt
        refine s _ h3 v H4 ((e.r0.tr (r1.mns e.j e.okO)).tr r4) ?_
        cases k with
        | v => exact rt
        | o =>
          obtain ⟨fp, q, nd, new⟩ := rt
          exact ⟨fp, q, nd, fun a ha => e1.back0 (new a ha)⟩
        | b => exact rt
    · rintro σ' H' ⟨O', Γ', hI, e'⟩
      exact s _ (hd Γ' hI) O' H' σ' (e1.fromB e')
theorem q_for {wi : TI} {g : TG} {tb : TS} {items : List Im} (hi : EvI c wi Γ true items) (I : Nat → List (Option Rs) → Prop) (h0 : I 0 Γ)
    (hs : ∀ n a Γ1, items[n]? = some a → I n Γ1 → ∃ Γ2 js, EvG c g a Γ1 Γ2 js ∧
      Sd c tb Γ2 (fun o => (∃ Γ3, (o = .nx Γ3 ∨ o = .ct Γ3) ∧ I (n + 1) Γ3) ∨ (∃ Γ3, o = .bk Γ3 ∧ Sd c u Γ3 P) ∨ ∃ k d, o = .rt k d ∧ P o))
    (hd : ∀ Γ1, I items.length Γ1 → Sd c u Γ1 P) : Sd c (tSeq (tFor wi g tb) u) Γ P :=
  s_seq (P1 := fun o => match o with | .nx Γ3 => Sd c u Γ3 P | .rt k d => P (.rt k d) | _ => False)
    (s_for hi I h0 (fun n a Γ1 h1 h2 => by
      obtain ⟨Γ2, js, hg, hb⟩ := hs n a Γ1 h1 h2
      refine ⟨Γ2, js, hg, hb.imp fun o po => ?_⟩
      rcases po with w | ⟨Γ3, ho, h3⟩ | ⟨k, d, ho, h3⟩
      · exact .inl w
      · exact .inr (.inl ⟨Γ3, ho, h3⟩)
      · subst ho; exact .inr (.inr ⟨k, d, rfl, h3⟩)) hd) (fun _ h => h) (fun _ _ h => h) (fun _ h => h.elim) (fun _ h => h.elim)
end

/-! ### new tuples and lists; built-ins -/
theorem newTk {xs : List V} {Q : VK} (h : ∀ p H2, H p = none → Same H H2 → TpN c.K H2 p xs → Q (.ref p) H2) : NewT H xs Q := fun p o ho hp =>
  h p _ hp (fun b u z => by rw [upd_ne (ne_of_none z hp)]; exact z) (.inl ⟨o, ho, upd_same⟩)
theorem BoAll.vm {O : List Addr} {vs : List V} (h : BoAll c (if true = true then mns H O else H) vs ds) : BoAll c (mns H O) vs ds := h
theorem new_notO (e : Env c H0 O H σ Γ) {p : Addr} (h : H p = none) : p ∉ O := fun z => by
  obtain ⟨xs, w, _⟩ := e.dm p z
  rw [h] at w; cases w
theorem tpN_mns (e : Env c H0 O H σ Γ) (r : Rr c H H2) {p : Addr} {xs : List V} (h : TpN c.K H2 p xs) : TpN c.K (mns H2 O) p xs := sqT_mns (fun b hb => (e.on r).dm b hb) h
theorem d_tup (h : EvA c tr Γ true ds) (hl : ds.length ≤ 1000000) : Ev c (tTupN tr) Γ .v (.tuple ds) := fun H0 O H σ e Q q =>
  h H0 O H σ e _ fun vs H1 r s => by
    have s' := BoAll.vm s
    refine ⟨by rw [s'.len]; exact sizeOk hl, newTk (c := c) fun p H2 hp sm tp => q _ H2 (r.tr (Rr.same sm)) ?_⟩
    have r2 : Rr c H H2 := r.tr (Rr.same sm)
    exact .tup (tpN_mns e r2 tp) (s'.mono (e.on r).j ((Rr.same sm : Rr c H1 H2).mns (e.on r).j e.okO))
theorem d_lst (h : EvA c tr Γ kv ds) (hf : flatAll ds = true) (hl : ds.length ≤ 1000000) : Ev c (tLst tr) Γ .o (.list ds) := fun H0 O H σ e Q q =>
  h H0 O H σ e _ fun vs H1 r s => by
    have s' : BoAll c H1 vs ds := by
      cases kv with
      | true => exact BoAll.same mns_same (BoAll.vm s)
      | false => exact s
    refine ⟨by rw [s'.len]; exact sizeOk hl, fun p hp => q _ _ (r.tr (Rr.same fun b u z => by rw [upd_ne (ne_of_none z hp)]; exact z)) ?_⟩
    have sm : Same H1 (upd H1 p (.lst vs)) := fun b u z => by rw [upd_ne (ne_of_none z hp)]; exact z
    exact ⟨[p], .lst upd_same (FoAll.leaves hf (s'.same sm)), by simp, fun a ha => by
      have : a = p := by simpa using ha
      rw [this]; exact r.back e.jH hp⟩
/-- a call by values -/
theorem d_cb {r : List V → Hp → VK → Prop} (h : EvA c tr Γ false ds) (hr : ∀ H O vs (Q : VK), BoAll c H vs ds → (∀ v H2, Rr c H H2 → Bo c (mns H2 O) v z → Q v H2) → r vs H Q) : Ev c (tCB r tr) Γ .v z := fun H0 O H σ e Q q =>
  h H0 O H σ e _ fun vs H1 r1 s => hr H1 O vs Q s fun v H2 r2 b => q v H2 (r1.tr r2) b
theorem BoAll.one {v : List V} (h : BoAll c H v [d]) : ∃ x, v = [x] ∧ Bo c H x d := by
  cases h with
  | cons a b => cases b; exact ⟨_, rfl, a⟩
theorem BoAll.two {v : List V} (h : BoAll c H v [d, x]) : ∃ y z, v = [y, z] ∧ Bo c H y d ∧ Bo c H z x := by
  cases h with
  | cons a b =>
    cases b with
    | cons a' b => cases b; exact ⟨_, _, rfl, a, a'⟩
def rLen (K : PySem.W.Frag) : List V → Hp → VK → Prop := fun xs H Q => ∃ p ys, xs = [.ref p] ∧ (SqL K H p ys ∨ SqT K H p ys) ∧ Q (.int ys.length) H
theorem d_lenT (h : Ev c te Γ k (.tuple ds)) : Ev c (tCB (rLen c.K) (tCons te tNil)) Γ .v (.int ds.length) :=
  d_cb (a_cons h a_nil) fun H O vs Q s q => by
    obtain ⟨x, rfl, b⟩ := s.one
    obtain ⟨p, xs, rfl, s, al⟩ := b.tup'
    exact ⟨p, xs, rfl, .inr s.sq, by rw [al.len]; exact q _ H Rr.rf (.int _)⟩
theorem d_lenL (h : Ev c te Γ k (.list ds)) : Ev c (tCB (rLen c.K) (tCons te tNil)) Γ .v (.int ds.length) :=
  d_cb (a_cons h a_nil) fun H O vs Q s q => by
    obtain ⟨x, rfl, b⟩ := s.one
    obtain ⟨p, xs, rfl, _, s, al⟩ := b.lst'
    exact ⟨p, xs, rfl, .inl s, by rw [al.len]; exact q _ H Rr.rf (.int _)⟩
theorem d_all {bs : List Bool} (h : Ev c te Γ k (.list (bs.map .bool))) : Ev c (tCB (rAll c.K) (tCons te tNil)) Γ .v (.bool (bs.all id)) :=
  d_cb (a_cons h a_nil) fun H O vs Q s q => by
    obtain ⟨x, rfl, b⟩ := s.one
    obtain ⟨p, xs, rfl, _, s, al⟩ := b.lst'
    have := al.bools
    subst this
    exact ⟨p, bs, rfl, s, q _ H Rr.rf (.bl _)⟩
end Lm


namespace Lm
open PySem PySem.Spec PyProof.Rows L2
variable {c : Ct} {H H' H0 H1 H2 H3 : Hp} {O : List Addr} {σ : L2.St} {Γ Γ' Γ1 : List (Option Rs)}
variable {te ta tb tx tl : TE} {tt tu : TT} {tr : TA} {k ka kb : Kd} {d x y z : PyData} {i j : Int} {a b : Bool} {kv fz : Bool} {ds es : List PyData}

/-! ### promises of defs over data -/
abbrev pc (K : PySem.W.Frag) : Ct := ⟨K, none⟩
/-- args, how the answer is held, the answer -/
abbrev Pre := List PyData → Kd → PyData → Prop
def spD (K : PySem.W.Frag) (pre : Pre) : Sp := fun vs H Q _ => ∃ ds k d, BoAll (pc K) H vs ds ∧ pre ds k d ∧ ∀ v H', Same H H' → Rt (pc K) H H' v d k → Q v H'
/-- with the stream first: one of several answers -/
abbrev PreS := List PyData → Kd → (PyData → Prop) → Prop
abbrev sc (K : PySem.W.Frag) (st l : Addr) : Ct := ⟨K, some (st, l)⟩
def spS (K : PySem.W.Frag) (pre : PreS) : Sp := fun vs H Q _ => ∃ st l vs' ds k P, vs = .ref st :: vs' ∧ Str1 K st l H ∧ BoAll (sc K st l) H vs' ds ∧ pre ds k P ∧ ∀ v d H', P d → Rr (sc K st l) H H' → Rt (sc K st l) H H' v d k → Q v H'
mutual
theorem Fo.ct {c' : Ct} (hk : c'.K = c.K) : ∀ {v : V} {d : PyData} {fp : List Addr}, Fo c H v d fp → Fo c' H v d fp
  | _, _, _, .leaf q b => .leaf q (b.flat hk q)
  | _, _, _, .lst e a => .lst e (FoAll.ct hk a)
theorem FoAll.ct {c' : Ct} (hk : c'.K = c.K) : ∀ {v : List V} {d : List PyData} {fp : List Addr}, FoAll c H v d fp → FoAll c' H v d fp
  | _, _, _, .nil => .nil
  | _, _, _, .cons a b => .cons (Fo.ct hk a) (FoAll.ct hk b)
end
theorem Rt.res {v : V} (e : Env c H0 O H σ Γ) (r : Rr c H H2) (h : Rt c H H2 v d k) : Res c O H H2 v d k := by
  cases k with
  | v => exact Bo.flatM e r h.1 h.2
  | o => exact h
  | b => exact h.2
theorem d_call {pre : Pre} {E : XK} (h : EvA c tr Γ false ds) (hp : pre ds k d) : Ev c (tCall (spD c.K pre) [] E tr) Γ k d := fun H0 O H σ e Q q =>
  h H0 O H σ e _ fun vs H1 r s => by
    refine ⟨ds, k, d, by rw [List.append_nil]; exact s.pure, hp, fun v H2 sm rt => q v H2 (r.tr (Rr.same sm)) ?_⟩
    have r2 : Rr c H H2 := r.tr (Rr.same sm)
    cases k with
    | v => exact (Bo.flat (c := pc c.K) (c' := c) rfl rt.1 rt.2).flatM e r2 rt.1
    | o =>
      obtain ⟨fp, f, nd, new⟩ := rt
      exact ⟨fp, Fo.ct (c := pc c.K) (c' := c) rfl f, nd, fun a ha => r.back e.jH (new a ha)⟩
    | b => obtain ⟨⟨_, e⟩, _⟩ := rt; exact nomatch e
theorem n_call {pre : PreS} {E : XK} {st l : Addr} {P : PyData → Prop} {n : Nat} (hc : c.so = some (st, l)) (hst : Γ[n]? = some (some (.r (.ref st)))) (h : EvA c tr Γ false ds) (hp : pre ds k P) :
    EvN c (tCall (spS c.K pre) [] E (tCons (tVar n) tr)) Γ k P := fun H0 O H σ e Q q => by
  have hcc : c = sc c.K st l := by cases c; cases hc; rfl
  refine ⟨_, e.slotR hst, h H0 O H σ e _ fun vs H1 r s => ?_⟩
  refine ⟨st, l, vs, ds, k, P, by simp, (e.on r).jH st l hc, by rw [← hcc]; exact s, hp, fun v d H2 pd r2 rt => ?_⟩
  rw [← hcc] at r2 rt
  refine q v d H2 pd (r.tr r2) ?_
  exact (Rt.res (e.on r) r2 rt).back e r
/-! ### a def's body -/
def argsG (ds : List PyData) (n : Nat) : List (Option Rs) := ds.map (fun d => some (.v d)) ++ List.replicate (n - ds.length) none
theorem reps_none {O : List Addr} : ∀ n : Nat, Reps c O H (List.replicate n none) (List.replicate n none) []
  | 0 => .nil
  | n + 1 => .cons (f := []) (fs := []) rfl (reps_none n)
theorem reps_args {O : List Addr} {rest : L2.St} {restG : List (Option Rs)} (hr : Reps c O H rest restG []) : ∀ {vs : List V} {ds : List PyData}, BoAll c (mns H O) vs ds → Reps c O H (vs.map some ++ rest) (ds.map (fun d => some (.v d)) ++ restG) []
  | _, _, .nil => hr
  | _, _, .cons a b => .cons (f := []) (fs := []) ⟨rfl, _, rfl, a⟩ (reps_args hr b)
theorem env_args {N : List Str} {vs : List V} (j : Ji c H) (h : BoAll c H vs ds) : Env c H [] H (start N vs) (argsG ds N.length) := by
  refine ⟨Rr.same (by rw [mns_nil]; exact Same.refl _), by rw [mns_nil]; exact j, (fun _ h => nomatch h), (fun _ h => nomatch h), [], ?_, List.nodup_nil, (fun _ h => nomatch h)⟩
  unfold L2.start argsG
  rw [h.len]
  exact reps_args (reps_none _) (by rw [mns_nil]; exact h)
theorem Ji.pc {K : PySem.W.Frag} {H : Hp} : Ji (pc K) H := fun _ _ e => nomatch e
/-- the body of a def without the stream -/
theorem run_pure {K : PySem.W.Frag} {N : List Str} {t : TS} {pre : Pre} {vs : List V} {Q : VK} {E : XK} (hs : ∀ ds k d, pre ds k d → Sd (pc K) t (argsG ds N.length) (fun o => o = .rt k d ∨ (k = .v ∧ d = .none ∧ ∃ Γ, o = .nx Γ)))
    (h : spD K pre vs H Q E) : t { nx := fun _ H' => Q .non H', rt := Q } (start N vs) H := by
  obtain ⟨ds, k, d, hb, hp, hq⟩ := h
  have sm : ∀ H', Rr (Lm.pc K) H H' → Same H H' := fun H' r a o z => r.1 a o (fun _ _ e => nomatch e) z
  refine hs ds k d hp H [] H (start N vs) _ (env_args Ji.pc hb) fun o po => ?_
  rcases po with rfl | ⟨rfl, rfl, Γ, rfl⟩
  · exact fun v H' r rt => hq v H' (sm H' r) rt
  · intro O H' σ e
    exact hq .non H' (sm H' (e.r0.tr (Rr.same mns_same))) ⟨rfl, .non⟩
theorem spD_len {K : PySem.W.Frag} {pre : Pre} {vs : List V} {Q : VK} {E : XK} {n : Nat} (h : spD K pre vs H Q E) (hl : ∀ ds k d, pre ds k d → ds.length = n) : vs.length = n := by
  obtain ⟨ds, k, d, hb, hp, _⟩ := h
  rw [hb.len, hl ds k d hp]
/-- the body of a def with the stream first -/
theorem run_str {K : PySem.W.Frag} {N : List Str} {t : TS} {pre : PreS} {vs : List V} {Q : VK} {E : XK}
    (hs : ∀ st l ds k P, pre ds k P → Sd (sc K st l) t (some (.r (.ref st)) :: (ds.map (fun d => some (.v d)) ++ List.replicate (N.length - (ds.length + 1)) none)) (fun o => ∃ d, o = .rt k d ∧ P d))
    (h : spS K pre vs H Q E) : t { nx := fun _ H' => Q .non H', rt := Q } (start N vs) H := by
  obtain ⟨st, l, vs', ds, k, P, rfl, hst, hb, hp, hq⟩ := h
  have j : Ji (sc K st l) H := fun st' l' e => by cases e; exact hst
  refine hs st l ds k P hp H [] H (start N (.ref st :: vs')) _ ⟨Rr.same (by rw [mns_nil]; exact Same.refl _), by rw [mns_nil]; exact j, (fun _ h => nomatch h), (fun _ h => nomatch h), [], ?_, List.nodup_nil, (fun _ h => nomatch h)⟩ fun o po => ?_
  · unfold L2.start
    have : (V.ref st :: vs').length = ds.length + 1 := by simp [hb.len]
    rw [this]
    exact .cons (f := []) (fs := []) ⟨rfl, rfl⟩ (reps_args (reps_none _) (by rw [mns_nil]; exact hb))
  · obtain ⟨d, rfl, pd⟩ := po
    exact fun v H' r rt => hq v d H' pd r rt
theorem spS_len {K : PySem.W.Frag} {pre : PreS} {vs : List V} {Q : VK} {E : XK} {n : Nat} (h : spS K pre vs H Q E) (hl : ∀ ds k P, pre ds k P → ds.length + 1 = n) : vs.length = n := by
  obtain ⟨st, l, vs', ds, k, P, rfl, _, hb, hp, _⟩ := h
  simp [hb.len, hl ds k P hp]
/-- what a caller knows of a def: where it stands, what it promises -/
structure Cal (P : Program) (w : World) (K : PySem.W.Frag) (mg : Str → Option Value) (base : Heap) (CX : CXT) (k : Nat) (x : Str) (ps : List Str) (sp : Sp) : Prop where
  ok : ∃ f fd, FnOk P w K mg base CX k f fd ps sp ∧ mg x = some (.ref f) ∧ PySem.W.keepIn K (.ref f) = true ∧ Binds K fd ps []
section
variable {X : Cx}
theorem pe_cal {CX : CXT} {E : XK} {k : Nat} {x : Str} {ps : List Str} {sp : Sp} {p pos : Pos} {e : Expr} {es : List Expr} {t : TA} (F : Cal X.prog X.w X.K X.mg X.base CX k x ps sp) (hr : Room k X.A) (hg : Gl X x) (hx : Passes CX X E) (ha : PA X (e :: es) t)
    (hdb : (x == ("__debug__" : Str)) = false := by decide) (he : starEach (e :: es) X.env = (false, eval e X.env) :: starEach es X.env := by rfl) (hpl : (backTo pos (starEach es X.env)).any (·.1) = false := by rfl) :
    PE X (.Call (.Name x p) (e :: es) [] pos) (tCall sp [] E t) := by
  obtain ⟨f, fd, F1, F2, F3, F4⟩ := F.ok
  exact pe_call F1 hr hg F2 F3 F4 .nil hx ha hdb he hpl
end
/-! ### methods of tuples -/
end Lm


namespace Lm
open PySem PySem.Spec PyProof.Rows L2
/-! ### enumerate(tuple) -/
/-- the turns of enumerate over the tuple at a: its items as they stand, each in a pair -/
def IteT (K : PySem.W.Frag) (a : Addr) : It where
  go := fun i H => ∃ (xs : List V) (x : V), SqT K H a xs ∧ xs[i]? = some x
  yld := fun i H v H' => ∃ T x, v = .ref T ∧ H T = none ∧ H' = upd H T (.tup [.int (i : Nat), x]) ∧ ∀ xs, SqT K H a xs → xs[i]? = some x
  stop := fun i H => ∃ xs : List V, SqT K H a xs ∧ xs.length = i
theorem turnEnumT {P : Program} {w : World} {K : PySem.W.Frag} {elts : List Expr} {kk : Nat} {tpos : Pos} (a e it : Addr) :
    Turn P w K (.Tuple elts kk tpos) (IteT K a) [e, it] e fun i h => (∃ old, IsEnum h e it ((i : Nat) : Int) old) ∧ h.IsTupleIter it a i ∧ e ≠ it ∧ a ≠ it where
  mem := List.mem_cons_self
  obj := by
    rintro i h ⟨⟨old, he⟩, ⟨o, ho, hc, hd⟩, _⟩ b hb
    rcases List.mem_cons.mp hb with rfl | hb
    · exact ⟨_, he, fun v q => nomatch q⟩
    · cases List.mem_singleton.mp hb
      exact ⟨o, ho, fun v q => by rw [hd] at q; cases q⟩
  keep := by
    rintro i h h' ⟨⟨old, he⟩, hi, hne⟩ k
    exact ⟨⟨old, k e List.mem_cons_self _ he⟩, hi.at fun o q => k it (List.mem_cons_of_mem _ List.mem_cons_self) o q, hne⟩
  item := by
    intro X hP hw hK hc i pins s σ H E I hf ⟨⟨old, he⟩, hit, hne, hai⟩ ⟨xs, x, hq, hx⟩
    subst hP hw hK
    obtain ⟨its, rv, p, hz⟩ := I.tuple hq
    obtain ⟨u, hu, ru⟩ := rv.get hx
    have hlt : i < its.toArray.size := by rw [List.size_toArray]; exact (List.getElem?_eq_some_iff.mp hu).1
    have hel := Heap.lt_size he
    have hil : it < s.heap.objs.size := let ⟨_, q, _⟩ := hit; Heap.lt_size q
    have hea : e ≠ a := fun z => by
      have h0 := (hf e List.mem_cons_self).1
      obtain ⟨ob, g, gc, n, gd⟩ := p
      rw [← z, he] at g
      cases g
      exact absurd gc (by simp)
    have DT := Draws.tuple (prog := X.prog) (w := X.w) (A := X.A.in1) (show X.A.in1.handled = none from I.ok.hd hc) it a hai its.toArray
    refine PySem.wpAny_pyNext_enum_itemD DT he ⟨hit, p⟩ hlt hne (by simpa [hne] using hea) fun x' h' tk hx' ho hs' hT hsz hk => ?_
    have ex : x' = u := by
      have : its[i]? = some x' := by simpa using hx'
      rw [hu] at this
      exact (Option.some.inj this).symm
    subst ex
    refine ⟨_, rfl, wpAny_letOwnedTupleGo_enum (s := { s with heap := h', toks := tk + 1 }) ho fun h'' he' sb => ?_⟩
    have hT2 := (sb.2 _ (Nat.ne_of_gt hel)).trans hT
    have new : ObjOk X.prog X.w (upd H s.heap.objs.size (.tup [.int (i : Nat), x])) h'' s.heap.objs.size (.tup [.int (i : Nat), x]) :=
      ⟨(by decide : 2 ≤ sizeLine), [.int i tk, x'], .cons ⟨_, rfl⟩ (.cons ru .nil), _, hT2, rfl, _, rfl⟩
    have I1 := I.turnedNew (t' := tk + 1) (ch := [e, it]) (fun b ob hb q => (sb.2 b fun z => hb (z ▸ List.mem_cons_self)).trans (hk b ob (fun z => hb (z ▸ List.mem_cons_self)) (fun z => hb (z ▸ List.mem_cons_of_mem _ List.mem_cons_self)) q)) hf (Nat.le_refl _) new
    refine ⟨.ref s.heap.objs.size, _, I1, rfl, ⟨_, x, rfl, I.hok.fresh (Nat.le_refl _), rfl, fun ys hy => by rw [I.tuple_inj hy hq]; exact hx⟩, ⟨⟨x', ?_⟩, hs'.1.at fun o q => (sb.2 it hne.symm).trans q, hne, hai⟩, fun b hb => ?_⟩
    · have e1 : ((i + 1 : Nat) : Int) = (i : Int) + 1 := by omega
      rw [e1]; exact he'
    · have hb' : b < s.heap.objs.size := by
        rcases List.mem_cons.mp hb with rfl | hb
        · exact hel
        · cases List.mem_singleton.mp hb; exact hil
      rw [upd_ne (Nat.ne_of_lt hb')]
      exact (hf b hb).1
  done := by
    intro X hP hw hK hc i pins s σ H E I hf ⟨⟨old, he⟩, hit, hne, hai⟩ ⟨xs, hq, hx⟩
    subst hP hw hK
    obtain ⟨its, rv, p, hz⟩ := I.tuple hq
    obtain ⟨f0, f1, f2, f3, f4, f5⟩ := hf it (List.mem_cons_of_mem _ List.mem_cons_self)
    have hl : its.toArray.size = i := by rw [List.size_toArray, ← rv.length]; exact hx
    have DT := Draws.tuple (prog := X.prog) (w := X.w) (A := X.A.in1) (show X.A.in1.handled = none from I.ok.hd hc) it a hai its.toArray
    rw [hl] at DT
    exact PySem.wpAny_pyNext_enum_endD DT he ⟨hit, p⟩
      fun h' eb => ⟨rfl, I.turned (t' := s.toks) (fun b o hb q => eb b o hb q) f0 f1 f3 f4 f5⟩
  self := fun A i s Q E ⟨⟨_, he⟩, _⟩ h => wpAny_pyIter_enum he h
theorem meetsEnumT {l : Addr} {items : Array Value} :
    Meets (Builtin.«enumerate.__new__» ⟨[.type "enumerate", .ref l], []⟩) fun _ R s => s.heap.IsTuple l items ∧
      R (.ok (.ret (.ref (s.heap.push { cls := .type "tuple_iterator", data := .fields #[.ref l, .int 0 0] }).objs.size)))
        { s with heap := (s.heap.push { cls := .type "tuple_iterator", data := .fields #[.ref l, .int 0 0] }).push { cls := .type "enumerate", data := .fields #[.none, .bool false, .ref s.heap.objs.size, rawInt 0, .none, .none] } } :=
  .of_wp fun prog w A R s h => by
    obtain ⟨hp, g, d, tk, os⟩ := s
    obtain ⟨hl, h⟩ := h
    have q1 : ∀ {A' : Around} {E Q : Value → Shared → Prop}, Q (.ref hp.objs.size) ⟨hp.push { cls := .type "tuple_iterator", data := .fields #[.ref l, .int 0 0] }, g, d, tk, os⟩ → wpAny (model prog w) A' (pyIter (.ref l)) Q E ⟨hp, g, d, tk, os⟩ := fun q => wpAny_pyIter_tuple hl q
    have hsub := sub_enumerate
    wp_walk using q1
    refine wpAny_stack_any fun st => wpAny_pure ?_
    split
    · rename_i c _ _ _ _ _
      cases (c == Value.type "enumerate") <;> (wp_walk using q1; exact ⟨_, rfl, h⟩)
    · wp_walk using q1
      exact ⟨_, rfl, h⟩
theorem callEnumT {prog : Program} {w : World} {A : Around} {E : Value → Shared → Prop} {s : Shared} {l : Addr} {items : Array Value} {Q : Value → Shared → Prop} (hL : s.heap.IsTuple l items)
    (h : ∀ h', IsEnum h' (s.heap.objs.size + 1) s.heap.objs.size 0 .none → h'.IsTupleIter s.heap.objs.size l 0 → (∀ b o, s.heap.get? b = some o → h'.get? b = some o) → Q (.ref (s.heap.objs.size + 1)) { s with heap := h' }) :
    wpAny (model prog w) A (call (.type "enumerate") [.ref l]) Q E s := by
  refine callType_new F.called_enumerate (by decide) (F.typeCall_enumerate_1 _) (F.newCall_enumerate_1 _) (fun obj => F.args_object_init_2 obj _) F.entry_enumerate_new meetsEnumT ⟨hL, ?_⟩
  generalize hto : ({ cls := .type "tuple_iterator", data := .fields #[.ref l, .int 0 0] } : Obj) = to
  have hz : (s.heap.push to).objs.size = s.heap.objs.size + 1 := Heap.size_push ..
  show _ ∧ _
  rw [hz]
  have he : IsEnum ((s.heap.push to).push { cls := .type "enumerate", data := .fields #[.none, .bool false, .ref s.heap.objs.size, rawInt 0, .none, .none] }) (s.heap.objs.size + 1) s.heap.objs.size 0 .none := by
    have := Heap.get?_push_size (s.heap.push to) (o := { cls := .type "enumerate", data := .fields #[.none, .bool false, .ref s.heap.objs.size, rawInt 0, .none, .none] }) rfl
    rw [hz] at this
    exact this
  have hfree : to.isFreed = false := by rw [← hto]; rfl
  refine ⟨⟨_, he, rfl⟩, h _ he ?_ fun b o x => Heap.get?_push_of_some _ (Heap.get?_push_of_some _ x)⟩
  exact ⟨to, Heap.get?_push_of_some _ (Heap.get?_push_size _ hfree), by rw [← hto], by rw [← hto]; rfl⟩
def iEnumA (K : PySem.W.Frag) (ta : TA) : TI := fun σ H R => ta σ H fun vs H1 => ∃ a xs, vs = [.ref a] ∧ ((SqL K H1 a xs ∧ R (Ite K a) H1) ∨ (SqT K H1 a xs ∧ R (IteT K a) H1))
theorem pi_enumA {X : Cx} {e : Expr} {ta : TA} {p pos tpos : Pos} {elts : List Expr} {kk : Nat} (hg : Gl X "enumerate") (hm : X.mg "enumerate" = none) (ha : PA X [e] ta) (hs : starEach [e] X.env = [(false, eval e X.env)] := by rfl) :
    PI X (.Tuple elts kk tpos) (.Call (.Name "enumerate" p) [e] [] pos) (iEnumA X.K ta) := by
  refine ⟨fun pins s σ H R I h => Call_ (ld_blt I hg hm boot_enumerate (PyProof.Rows.callWith_type1 (thn (ha.run pos pins s σ H _ I h) fun us s1 ⟨vs, H1, I1, r1, q1⟩ => ?_) hs rfl))⟩
  obtain ⟨a, xs, rfl, q⟩ := q1
  obtain ⟨u, rfl, ru⟩ := vals1 r1
  cases ru
  have fresh2 : ∀ b ∈ [s1.heap.objs.size + 1, s1.heap.objs.size], FpOk X pins H1 b := fun b hb => by
    have hle : s1.heap.objs.size ≤ b := by
      rcases List.mem_cons.mp hb with rfl | hb
      · exact Nat.le_succ _
      · cases List.mem_singleton.mp hb; exact Nat.le_refl _
    exact I1.fpOk hle (I1.hok.fresh hle)
  rcases q with ⟨hq, q⟩ | ⟨hq, q⟩
  · obtain ⟨its, rv, p', hz⟩ := I1.list hq
    refine call_enumerate_list p'.isList fun h' he hit hsz hk => wpAny_pyIter_enum he ?_
    exact ⟨_, _, _, _, H1, rfl, I1.kept (t' := s1.toks) hk, turn_enum a (s1.heap.objs.size + 1) s1.heap.objs.size, ⟨⟨.none, he⟩, hit, Nat.succ_ne_self _⟩, fresh2, q⟩
  · obtain ⟨its, rv, p', hz⟩ := I1.tuple hq
    have ha : a < s1.heap.objs.size := let ⟨_, g, _⟩ := p'; Heap.lt_size g
    refine callEnumT p' fun h' he hit hk => wpAny_pyIter_enum he ?_
    exact ⟨_, _, _, _, H1, rfl, I1.kept (t' := s1.toks) hk, turnEnumT a (s1.heap.objs.size + 1) s1.heap.objs.size, ⟨⟨.none, he⟩, hit, Nat.succ_ne_self _, Nat.ne_of_lt ha⟩, fresh2, q⟩
end Lm


namespace Lm
open PySem PySem.Spec PyProof.Rows L2
section
variable {X : Cx}
/-! ### rules that serve several kinds of values: the derivation need not know which -/
def rAddA (K : PySem.W.Frag) : R2 := fun x y H Q => rI0 (fun i j => .int (i + j)) x y H Q ∨ rCatN K x y H Q ∨ rCat x y H Q
theorem op_addA : OpR X (binaryOp .Add) (rAddA X.K) := op_add.or (op_catN.or op_cat)
def rMulA : R2 := fun x y H Q => rI CMul (fun i j => .int (i * j)) x y H Q ∨ rRep x y H Q
theorem op_mulA : OpR X (binaryOp .Mult) rMulA := op_mul.or op_rep
def rEqA (K : PySem.W.Frag) : R2 := fun x y H Q => rEq x y H Q ∨ rEqD K x y H Q
theorem op_eqA (hu : X.A.units + 64 < cLine) : OpR X (compareOp .Eq) (rEqA X.K) := op_eq.or (op_eqD hu)
def rNeA (K : PySem.W.Frag) : R2 := fun x y H Q => rNe x y H Q ∨ rNeD K x y H Q
theorem op_neA (hu : X.A.units + 64 < cLine) : OpR X (compareOp .NotEq) (rNeA X.K) := op_ne.or (op_neD hu)
def rUnits {k : Nat} {A : Around} (hr : Room k A) : A.units + 64 < cLine := by have := hr.un; omega
end
variable {c : Ct} {H H' H0 H1 H2 H3 : Hp} {O : List Addr} {σ : L2.St} {Γ Γ' Γ1 : List (Option Rs)}
variable {te ta tb tx tl : TE} {tt tu : TT} {tr : TA} {k ka kb kc : Kd} {d x y z : PyData} {i j : Int} {a b : Bool} {kv fz : Bool} {ds es : List PyData}
theorem e_add (ha : Ev c ta Γ ka (.int i)) (hb : Ev c tb Γ kb (.int j)) : Ev c (tOp (rAddA c.K) ta tb) Γ .v (.int (i + j)) :=
  d_bin ha hb fun H O v u Q bv bu q => .inl ⟨i, j, bv.int', bu.int', q _ H Rr.rf (.int _)⟩
theorem e_neI (ha : Ev c ta Γ ka (.int i)) (hb : Ev c tb Γ kb (.int j)) : Ev c (tOp (rNeA c.K) ta tb) Γ .v (.bool (!decide (i = j))) :=
  d_bin ha hb fun H O v u Q bv bu q => .inl ⟨by rw [bv.int', bu.int']; rfl, by rw [bv.int', bu.int', decI]; exact q _ H Rr.rf (.bl _)⟩
theorem e_eqS {v w : V} (ha : Ev c ta Γ ka x) (hb : Ev c tb Γ kb y) (hx : scalD x = some v) (hy : scalD y = some w) (hs : scal v w = true) (hz : decide (v = w) = a) : Ev c (tOp (rEqA c.K) ta tb) Γ .v (.bool a) :=
  d_bin ha hb fun H O v' u' Q bv bu q => .inl ⟨by rw [bv.scal hx, bu.scal hy]; exact hs, by rw [bv.scal hx, bu.scal hy, hz]; exact q _ H Rr.rf (.bl _)⟩
theorem e_ixT (ha : Ev c ta Γ ka (.tuple ds)) (hb : Ev c tb Γ kb (.int i)) (he : atI ds i = some d) (hf : flatD d = true) : Ev c (tOp (rIx c.K) ta tb) Γ .v d := fun H0 O H σ e Q q =>
  ha H0 O H σ e _ fun v H1 r1 s1 => hb H0 O H1 σ (e.on r1) _ fun u H2 r2 s2 => by
    obtain ⟨p, xs, rfl, s, al⟩ := (Res.bo e (Res.on e r1 r2 s1)).tup'
    obtain ⟨x, hx, bx⟩ := atI_bo al he
    exact .inr (.inl ⟨p, xs, i, x, rfl, (Res.bo (e.on r1) s2).int', s.sq, hx, q x H2 (r1.tr r2) (Bo.flatM e (r1.tr r2) hf bx)⟩)
/-- an item of a frozen tuple, whatever it is -/
theorem e_ixTv (ha : Ev c ta Γ .v (.tuple ds)) (hb : Ev c tb Γ kb (.int i)) (he : atI ds i = some d) : Ev c (tOp (rIx c.K) ta tb) Γ .v d := fun H0 O H σ e Q q =>
  ha H0 O H σ e _ fun v H1 r1 s1 => hb H0 O H1 σ (e.on r1) _ fun u H2 r2 s2 => by
    obtain ⟨p, xs, rfl, s, al⟩ := Bo.tup' (Res.on e r1 r2 s1)
    obtain ⟨x, hx, bx⟩ := atI_bo al he
    exact .inr (.inl ⟨p, xs, i, x, rfl, (Res.bo (e.on r1) s2).int', (sqT_same mns_same s).sq, hx, q x H2 (r1.tr r2) bx⟩)
theorem e_ixLv (ha : Ev c ta Γ .v (.list ds)) (hb : Ev c tb Γ kb (.int i)) (he : atI ds i = some d) : Ev c (tOp (rIx c.K) ta tb) Γ .v d := fun H0 O H σ e Q q =>
  ha H0 O H σ e _ fun v H1 r1 s1 => hb H0 O H1 σ (e.on r1) _ fun u H2 r2 s2 => by
    obtain ⟨p, xs, rfl, _, s, al⟩ := Bo.lst' (Res.on e r1 r2 s1)
    obtain ⟨x, hx, bx⟩ := atI_bo al he
    exact .inl ⟨p, xs, i, x, rfl, (Res.bo (e.on r1) s2).int', mns_same.seq s, hx, q x H2 (r1.tr r2) bx⟩
/-! ### isinstance -/
def tyD : PyData → String
  | .none => "NoneType"
  | .bool _ => "bool"
  | .int _ => "int"
  | .str _ => "str"
  | .list _ => "list"
  | .tuple _ => "tuple"
  | .dict _ => "dict"
theorem Bo.ty {v : V} (h : Bo c H v d) : TyX c.K H v (.type (tyD d)) := by
  cases h with
  | non => exact .base .non
  | bl b => exact .base (.bl b)
  | int i => exact .base (.int i)
  | str x => exact .base (.str x)
  | lst _ s a =>
    rcases s with (s | ⟨o, s⟩) | ⟨o, its, n, h1, h2, _⟩
    · exact .base (.lst s)
    · exact .base (.frz s)
    · exact .kList h1 h2
  | tup s a =>
    rcases s with ⟨o, _, s⟩ | ⟨o, its, n, h1, h2, _⟩
    · exact .fTuple s
    · exact .kTuple h1 h2
theorem e_isi {n : String} (h : Ev c te Γ k d) (e : kitB (tyD d) n = some b) : Ev c (tCB (rIsi c.K) (tCons te (tCons (tC (.ty n)) tNil))) Γ .v (.bool b) := fun H0 O H σ en Q q =>
  h H0 O H σ en _ fun v H1 r1 s1 => ⟨v, .ty n, _, _, b, rfl, .ty n, (Res.bo en s1).ty, kit_ty e, q _ H1 r1 (.bl b)⟩
/-! ### what is walked -/
/-- the places and the items -/
def enumI (ds : List PyData) : List Im := ds.zipIdx.map fun p => .t [.d (.int (p.2 : Nat)), .d p.1]
theorem enum_core {J : It} {xs : List V} {F : Hp} (jF : Ji c F) (hw : Walk J xs.length (fun H => Rr c F H) (YPair (fun i => some (.int (i : Nat))) fun i => xs[i]?)) (hb : BoAll c F xs ds) (hf : fz = true ∨ flatAll ds = true) : WD c F fz J (enumI ds) := by
  refine ⟨jF, ?_⟩
  have hl : xs.length = (enumI ds).length := by rw [hb.len]; simp [enumI]
  rw [hl] at hw
  refine hw.mono (fun _ h => h) fun i H x H' hi g y => ?_
  obtain ⟨T, x1, x2, rfl, hT, rfl, h1, h2⟩ := y
  cases h1
  obtain ⟨d, hd, bd⟩ := hb.get h2
  have sm : Same H (upd H T (.tup [.int (i : Nat), x2])) := fun b o z => by rw [upd_ne (ne_of_none z hT)]; exact z
  refine ⟨sm, .t [.d (.int (i : Nat)), .d d], ?_, .tup (.inl (.inl upd_same)) (.cons (.leaf (.inl ⟨rfl, .int _⟩)) (.cons (.leaf ?_) .nil))⟩
  · simp [enumI, hd]
  · rcases hf with hf | hf
    · exact .inr ⟨hf, bd⟩
    · exact .inl ⟨flatAll_one hf (List.mem_of_getElem? hd), bd.mono jF (g.tr (Rr.same sm))⟩
end Lm


namespace Lm
open PySem PySem.Spec PyProof.Rows L2
section
variable {prog : Program} {w : World} {A : Around} {E : Value → Shared → Prop} {s : Shared}
end
section
variable {X : Cx}
theorem cr_len : CallR X (.builtin "len") (rLen X.K) := call_len_seq
/-- a module's int -/
theorem pe_const {x : Str} {n : Int} {pos : Pos} (hg : Gl X x) (hm : ∃ t, X.mg x = some (.int n t)) (hd : (x == ("__debug__" : Str)) = false := by decide) : PE X (.Name x pos) (tC (.int n)) := by
  obtain ⟨t, h⟩ := hm
  exact pe_glob hg h ⟨t, rfl⟩ hd
/-- a built-in class as a value -/
theorem pe_ty {x : Str} {n : String} {pos : Pos} (hg : Gl X x) (hm : X.mg x = none) (hv : bootBuiltins x = some (.type n)) (hn : x ≠ "__name__" := by decide) (hd : (x == ("__debug__" : Str)) = false := by decide) : PE X (.Name x pos) (tC (.ty n)) :=
  pe_bltn hg hm hv rfl hn hd
/-- list(x) -/
def rListA (K : PySem.W.Frag) : List V → Hp → VK → Prop := fun xs H Q => ∃ p ys, xs = [.ref p] ∧ (SqL K H p ys ∨ SqT K H p ys) ∧ ∀ l, H l = none → Q (.ref l) (upd H l (.lst ys))
theorem cr_list : CallR X (.type "list") (rListA X.K) := call_list_of
end
variable {c : Ct} {H H' H0 H1 H2 H3 : Hp} {O : List Addr} {σ : L2.St} {Γ Γ' Γ1 : List (Option Rs)}
variable {te ta tb tx tl : TE} {tt tu : TT} {tr : TA} {k ka kb kc : Kd} {d x y z : PyData} {i j : Int} {a b : Bool} {kv fz : Bool} {ds es : List PyData}
end Lm
namespace Lm
open PySem PySem.Spec PyProof.Rows L2
variable {c : Ct} {Γ : List (Option Rs)} {te : TE} {tt : TT} {fz : Bool} {α : Type} {wi : TI} {g : TG} {vs : List Nat} {l : List α} {en : α → Im}
theorem d_lcB (m : α → Bool) (hi : EvI c wi Γ fz (l.map en)) (hl : l.length ≤ 1000000)
    (hb : ∀ a ∈ l, ∃ Γ' js, EvG c g (en a) (wipeG Γ vs) Γ' js ∧ (∀ j ∈ js, j ∈ vs) ∧ ∃ k, Ev c te Γ' k (.bool (m a))) : Ev c (tLc wi g tYes te vs) Γ .o (.list ((l.map m).map .bool)) := by
  have := d_lcA (te := te) (g := g) (vs := vs) (fun a => PyData.bool (m a)) hi hl fun a ha => by
    obtain ⟨Γ', js, h1, h2, k, h3⟩ := hb a ha
    exact ⟨Γ', js, h1, h2, h3.fo rfl⟩
  rw [List.map_map]
  exact this
end Lm
namespace Lm
open PySem
theorem flatT (ns : List Int) : flatD (.tuple (ns.map .int)) = true := flatAll_ints ns
end Lm
namespace Lm
open PySem PySem.Spec PyProof.Rows L2
end Lm
namespace Lm
open PySem PySem.Spec PyProof.Rows L2
theorem kv_ne : Kd.v ≠ Kd.b := fun h => nomatch h
theorem ko_ne : Kd.o ≠ Kd.b := fun h => nomatch h
end Lm


/-! the rules, the written part given by name (within a comprehension's block it may not be read off the context) -/
namespace Lm
open PySem PySem.Spec PyProof.Rows L2
section
variable {X : Cx} {K : PySem.W.Frag} (hK : X.K = K)
include hK
theorem k_add : OpR X (binaryOp .Add) (rAddA K) := hK ▸ op_addA
theorem k_eq (hu : X.A.units + 64 < cLine) : OpR X (compareOp .Eq) (rEqA K) := hK ▸ op_eqA hu
theorem k_ne (hu : X.A.units + 64 < cLine) : OpR X (compareOp .NotEq) (rNeA K) := hK ▸ op_neA hu
theorem k_ix : IxR X (rIx K) := hK ▸ ix_seq
theorem k_isi : CallR X (.builtin "isinstance") (rIsi K) := hK ▸ call_isi
theorem k_len : CallR X (.builtin "len") (rLen K) := hK ▸ cr_len
theorem k_all (hc : X.calm = true) : CallR X (.builtin "all") (rAll K) := hK ▸ cr_all hc
theorem k_list : CallR X (.type "list") (rListA K) := hK ▸ cr_list
theorem k_enum {e : Expr} {ta : TA} {p pos tpos : Pos} {elts : List Expr} {kk : Nat} (hg : Gl X "enumerate") (hm : X.mg "enumerate" = none) (ha : PA X [e] ta) (hs : starEach [e] X.env = [(false, eval e X.env)] := by rfl) :
    PI X (.Tuple elts kk tpos) (.Call (.Name "enumerate" p) [e] [] pos) (iEnumA K ta) := hK ▸ pi_enumA hg hm ha hs
theorem k_tup {es : List Expr} {k : Nat} {t : TGs} {n : Nat} {pos : Pos} (hc : X.calm = true) (h : PGs X es t)
    (hn : (assignEach es X.env).length = n := by rfl) (hst : (assignEach es X.env).findIdx? (·.1) = none := by rfl) : PG X (.Tuple es k pos) (gTup K n t) := hK ▸ pg_tup hc h hn hst
theorem k_bm {T : String} {name : Str} {id : String} {r : V → List V → Hp → VK → Prop} {o e : Expr} {es : List Expr} {to : TE} {t : TA} {apos cpos : Pos} (pa : PlainAttrs T) (slot : Slot T name id) (hty : typeOf (.builtin id) = pure (.type "method_descriptor")) (hm : MtR X id r) (ho : PE X o to) (ha : PA X (e :: es) t)
    (hbase : attributeBase o name X.env (eval o X.env) = eval o X.env := by rfl)
    (hfew : ((backTo cpos (starEach (e :: es) X.env)).all (fun x => !x.1) && (backToKw cpos (keywordEach [] X.env)).all (fun x => x.1.isSome) && decide ((e :: es).length + ([] : List Keyword).length + (if ([] : List Keyword).isEmpty then 0 else 1) < 30)) = true := by rfl)
    (hline : (apos.endLine == cpos.line) = true := by rfl) (hs : starEach (e :: es) X.env = (false, eval e X.env) :: starEach es X.env := by rfl) (hplain : (backTo cpos (starEach es X.env)).any (·.1) = false := by rfl) :
    PE X (.Call (.Attribute o name apos) (e :: es) [] cpos) (tBM K T r to t) := hK ▸ pe_bm pa slot hty hm ho ha hbase hfew hline hs hplain
end
end Lm


/-! the law's own start and end -/
namespace Lm
open PySem PySem.Spec PyProof.Rows L2
variable {c : Ct} {H H' H0 H1 H2 H3 : Hp} {O : List Addr} {σ : L2.St} {Γ Γ' Γ1 : List (Option Rs)}
variable {te ta tb tx tl : TE} {tt tu : TT} {tr : TA} {k ka kb kc : Kd} {d x y z : PyData} {i j : Int} {a b : Bool} {kv fz : Bool} {ds es : List PyData}
/-- law's: a list of at most 63 ints is handed in, True comes out -/
def spLaw (K : PySem.W.Frag) : Sp := fun vs H Q _ => ∃ (a : Addr) (ns : List Int), vs = [.ref a] ∧ SqL K H a (ns.map V.int) ∧ ns.length ≤ 63 ∧ ∀ H', Q (.bl true) H'
def spStream (K : PySem.W.Frag) : Sp := fun vs H Q _ => ∃ (a : Addr) (ns : List Int), vs = [.ref a] ∧ SqL K H a (ns.map V.int) ∧ ns.length ≤ 63 ∧ ∀ st l H', Same H H' → H st = none → Str1 K st l H' → Q (.ref st) H'
theorem run_law {K : PySem.W.Frag} {N : List Str} {t : TS} {vs : List V} {Q : VK} {E E' : XK} (hN : 2 ≤ N.length)
    (hs : ∀ st l, Sd (sc K st l) t (none :: some (.r (.ref st)) :: List.replicate (N.length - 2) none) (fun o => o = .rt .v (.bool true))) (h : spLaw K vs H Q E) :
    tSeq (tAsg (tCall (spStream K) [] E' (tCons (tVar 0) tNil)) (gName 1)) t { nx := fun _ H' => Q .non H', rt := Q } (start N vs) H := by
  obtain ⟨a, ns, rfl, hS, hl, hq⟩ := h
  have es : start N [.ref a] = some (.ref a) :: List.replicate (N.length - 1) none := rfl
  rw [es]
  refine ⟨.ref a, rfl, a, ns, rfl, hS, hl, fun st l H1 sm hst str => ?_⟩
  have j : Ji (sc K st l) H1 := fun st' l' e => by cases e; exact str
  refine hs st l H1 [] H1 _ _ ⟨Rr.same (by rw [mns_nil]; exact Same.refl _), by rw [mns_nil]; exact j, (fun _ h => nomatch h), (fun _ h => nomatch h), [], ?_, List.nodup_nil, (fun _ h => nomatch h)⟩ fun o po => ?_
  · have e2 : List.replicate (N.length - 1) (none : Option V) = none :: List.replicate (N.length - 2) none := by
      have : N.length - 1 = (N.length - 2) + 1 := by omega
      rw [this, List.replicate_succ]
    rw [e2]
    exact .cons (f := []) (fs := []) rfl (.cons (f := []) (fs := []) ⟨rfl, rfl⟩ (reps_none _))
  · subst po
    intro v H' _ rt
    have := rt.2.bl'
    subst this
    exact hq H'
/-! one of several answers -/
theorem n_bin {r : R2} {Pa Pb P : PyData → Prop} (ha : EvN c ta Γ ka Pa) (hb : EvN c tb Γ kb Pb)
    (hr : ∀ x y, Pa x → Pb y → ∃ z, P z ∧ ∀ H O v u (Q : VK), Bo c H v x → Bo c H u y → (∀ v' H2, Rr c H H2 → Bo c (mns H2 O) v' z → Q v' H2) → r v u H Q) : EvN c (tOp r ta tb) Γ .v P := fun H0 O H σ e Q q =>
  ha H0 O H σ e _ fun v x H1 px r1 s1 => hb H0 O H1 σ (e.on r1) _ fun u y H2 py r2 s2 => by
    obtain ⟨z, pz, hz⟩ := hr x y px py
    exact hz H2 O v u Q (Res.bo e (Res.on e r1 r2 s1)) (Res.bo (e.on r1) s2) fun v' H3 r3 b => q v' z H3 pz ((r1.tr r2).tr r3) b
/-- some int with Q -/
abbrev SomeI (Q : Int → Prop) : PyData → Prop := fun d => ∃ n : Int, d = .int n ∧ Q n
theorem n_add {Qa Qb Q : Int → Prop} (ha : EvN c ta Γ ka (SomeI Qa)) (hb : EvN c tb Γ kb (SomeI Qb)) (h : ∀ m n, Qa m → Qb n → Q (m + n)) : EvN c (tOp (rAddA c.K) ta tb) Γ .v (SomeI Q) :=
  n_bin ha hb fun x y ⟨m, hm, qm⟩ ⟨n, hn, qn⟩ => ⟨.int (m + n), ⟨_, rfl, h m n qm qn⟩, fun H O v u Q bv bu q => by
    subst hm; subst hn
    exact .inl ⟨m, n, bv.int', bu.int', q _ H Rr.rf (.int _)⟩⟩
theorem Ev.sm {Q : Int → Prop} (h : Ev c te Γ k (.int i)) (q : Q i) : EvN c te Γ k (SomeI Q) := h.n.imp fun d e => ⟨i, e, q⟩
/-- a comparison of drawn ints, as a test of either answer -/
theorem tn_cmp {r : R2} {Qa Qb : Int → Prop} (ha : EvN c ta Γ ka (SomeI Qa)) (hb : EvN c tb Γ kb (SomeI Qb))
    (hr : ∀ m n H (Q : VK), (∀ b, Q (.bl b) H) → r (.int m) (.int n) H Q) : EvTN c (tTest (tOp r ta tb)) Γ := fun H0 O H σ e Q q =>
  ha H0 O H σ e _ fun v x H1 ⟨m, hm, _⟩ r1 s1 => hb H0 O H1 σ (e.on r1) _ fun u y H2 ⟨n, hn, _⟩ r2 s2 => by
    subst hm; subst hn
    rw [(Res.bo e (Res.on e r1 r2 s1)).int', (Res.bo (e.on r1) s2).int']
    exact hr m n H2 _ fun b => ⟨b, rfl, q b H2 (r1.tr r2)⟩
theorem tn_eq {Qa Qb : Int → Prop} (ha : EvN c ta Γ ka (SomeI Qa)) (hb : EvN c tb Γ kb (SomeI Qb)) : EvTN c (tTest (tOp (rEqA c.K) ta tb)) Γ :=
  tn_cmp ha hb fun m n H Q q => .inl ⟨rfl, q _⟩
end Lm


/-! what the defs promise -/
namespace Lm
open PySem PySem.Spec PyProof.Rows L2
/-- is an int from lo to hi -/
def isIntD : PyData → Int → Int → Bool
  | .int i, lo, hi => decide (lo ≤ i) && decide (i ≤ hi)
  | _, _, _ => false
def isIntTy : PyData → Bool
  | .int _ => true
  | .bool _ => true
  | _ => false
def isBoolTy : PyData → Bool
  | .bool _ => true
  | _ => false
theorem kit_int (x : PyData) : kitB (tyD x) "int" = some (isIntTy x) := by cases x <;> (simp only [tyD, isIntTy, isBoolTy]; decide +kernel)
theorem kit_bool (x : PyData) : kitB (tyD x) "bool" = some (isBoolTy x) := by cases x <;> (simp only [tyD, isIntTy, isBoolTy]; decide +kernel)
def sp_require (K : PySem.W.Frag) : Sp := spD K fun ds k d => ∃ nm, ds = [.bool true, .str nm] ∧ k = .v ∧ d = .none
/-- a tuple of ints from lo to hi -/
def areInts : PyData → Int → Int → Bool
  | .tuple ds, lo, hi => ds.all fun d => isIntD d lo hi
  | _, _, _ => false
def isTupTy : PyData → Bool
  | .tuple _ => true
  | _ => false
theorem kit_tuple (x : PyData) : kitB (tyD x) "tuple" = some (isTupTy x) := by cases x <;> (simp only [tyD, isTupTy]; decide +kernel)
/-- tuples are not too long -/
def SmallT (x : PyData) : Prop := ∀ es, x = .tuple es → es.length ≤ 1000000
def intD : PyData → Int
  | .int i => i
  | _ => 0
/-- how often each variant occurs -/
def countsI (ns : List Int) (v : Int) : List Int := (upI 0 v.toNat).map fun i => (ns.count i : Int)
/-- an assignment of at most 20 buckets to v variants -/
structure Asg (ns : List Int) (v : Int) : Prop where
  len : ns.length ≤ 20
  rng : ∀ n ∈ ns, 0 ≤ n ∧ n < v
def sp__law_next (K : PySem.W.Frag) : Sp := spS K fun ds k P => ∃ m : Int, ds = [.int m] ∧ 0 < m ∧ m < 1073741824 ∧ k = .v ∧ P = fun d => ∃ n : Int, d = .int n ∧ 0 ≤ n ∧ n < m
theorem Str1.put {K : PySem.W.Frag} {st l : Addr} {H : Hp} {ns : List Int} {x k : Int} (h2 : H l = some (.lst (ns.map V.int))) (h3 : l ≠ st) (h4 : 0 ≤ k) : Str1 K st l (upd H st (.lst [.ref l, .int x, .int k])) :=
  ⟨ns, x, k, upd_same, by rw [upd_ne h3]; exact h2, h3, h4⟩


/-! the law's helpers -/

def sp__law_stream := spStream
def isIntNB : PyData → Bool
  | .int _ => true
  | _ => false
def sp__law_is_integer (K : PySem.W.Frag) : Sp := spD K fun ds k d => ∃ x, ds = [x] ∧ k = .v ∧ d = .bool (isIntNB x)
/-- data that _law_equal may look at, to some depth -/
inductive EqOk : Nat → PyData → Prop
  | non {n} : EqOk n .none
  | bl {n} (b : Bool) : EqOk n (.bool b)
  | int {n} (i : Int) : EqOk n (.int i)
  | str {n} (s : Str) : EqOk n (.str s)
  | lst {n} {xs : List PyData} : xs.length ≤ 1000000 → (∀ x ∈ xs, EqOk n x) → EqOk (n + 1) (.list xs)
  | tup {n} {xs : List PyData} : xs.length ≤ 1000000 → (∀ x ∈ xs, EqOk n x) → EqOk (n + 1) (.tuple xs)
def spEq (K : PySem.W.Frag) : Nat → Sp
  | 0 => fun _ _ _ _ => False
  | n + 1 => spD K fun ds k d => ∃ x, ds = [x, x] ∧ EqOk n x ∧ k = .v ∧ d = .bool true
def sp__law_equal (K : PySem.W.Frag) : Sp := spEq K 8
theorem EqOk.up {n : Nat} {x : PyData} (h : EqOk n x) : ∀ {m : Nat}, n ≤ m → EqOk m x := by
  induction h with
  | non => intro m _; exact .non
  | bl b => intro m _; exact .bl b
  | int i => intro m _; exact .int i
  | str s => intro m _; exact .str s
  | lst hl _ ih =>
    intro m hm
    cases m with
    | zero => omega
    | succ m => exact .lst hl fun x hx => ih x hx (by omega)
  | tup hl _ ih =>
    intro m hm
    cases m with
    | zero => omega
    | succ m => exact .tup hl fun x hx => ih x hx (by omega)


theorem upI0 (v : Nat) : upI 0 v = (List.range v).map fun (i : Nat) => (i : Int) := by
  unfold upI
  apply List.map_congr_left
  intro i _
  omega
theorem upI_count {v : Nat} {n : Int} (h0 : 0 ≤ n) (h1 : n < v) : (upI 0 v).count n = 1 := by
  obtain ⟨m, rfl⟩ := Int.eq_ofNat_of_zero_le h0
  have hm : m < v := by omega
  rw [upI0, List.count_eq_countP, List.countP_map]
  have e : ((fun x : Int => x == (m : Int)) ∘ fun (i : Nat) => (i : Int)) = fun i : Nat => i == m := by
    funext i
    show ((i : Int) == (m : Int)) = (i == m)
    rw [Bool.eq_iff_iff]
    simp
    omega
  rw [e]
  have : List.countP (fun i => i == m) (List.range v) = (List.range v).count m := rfl
  rw [this, List.nodup_range.count]
  simp [hm]
theorem count_sum (v : Nat) : ∀ ns : List Int, (∀ n ∈ ns, 0 ≤ n ∧ n < (v : Int)) → ((upI 0 v).map fun i => (ns.count i : Int)).sum = ns.length := by
  intro ns
  induction ns with
  | nil =>
    intro _
    generalize upI 0 v = l
    induction l with
    | nil => rfl
    | cons a l ih =>
      rw [List.map_cons, List.sum_cons, ih]
      rfl
  | cons n ns ih =>
    intro hv
    have ih' := ih fun m hm => hv m (by simp [hm])
    have hn := hv n (by simp)
    have key : ∀ l : List Int, (l.map fun i => ((n :: ns).count i : Int)).sum = (l.map fun i => (ns.count i : Int)).sum + l.count n := by
      intro l
      induction l with
      | nil => rfl
      | cons a l ihl =>
        rw [List.map_cons, List.sum_cons, List.map_cons, List.sum_cons, ihl, List.count_cons, List.count_cons]
        by_cases h : n = a
        · subst h
          rw [beq_self_eq_true, if_pos rfl]
          omega
        · rw [beq_eq_false_iff_ne.mpr h, beq_eq_false_iff_ne.mpr (fun e => h e.symm)]
          simp
          omega
    rw [key, ih', upI_count hn.1 hn.2]
    simp
def isListTy : PyData → Bool
  | .list _ => true
  | _ => false
def isStrTy : PyData → Bool
  | .str _ => true
  | _ => false
theorem kit_list (x : PyData) : kitB (tyD x) "list" = some (isListTy x) := by cases x <;> (simp only [tyD, isListTy]; decide +kernel)
theorem kit_str (x : PyData) : kitB (tyD x) "str" = some (isStrTy x) := by cases x <;> (simp only [tyD, isStrTy]; decide +kernel)
theorem atI_i {ds : List PyData} {i : Nat} {d : PyData} (h : ds[i]? = some d) : atI ds ((0 : Int) + (i : Int)) = some d := by rw [Int.zero_add]; exact atI_nat h

end Lm


/-! more rules: a list unpacked, tuple.index of an int, the number of a tuple's different ints, list.pop(i) -/
namespace Lm
open PySem PySem.Spec PyProof.Rows L2
section
variable {prog : Program} {w : World} {A : Around} {E : Value → Shared → Prop} {s : Shared}
theorem drawL {it t : Addr} {items : Array Value} (hne : t ≠ it) : ∀ (n i : Nat) (s : Shared) (Q : List Value → Shared → Prop), s.heap.IsListIter it t i → s.heap.IsList t items → i + n ≤ items.size →
    (∀ h', h'.IsListIter it t (i + n) → Heap.SameBut it s.heap h' → Q ((items.toList.drop i).take n) { s with heap := h' }) → wpAny (model prog w) A (draw (.ref it) n) Q E s
  | 0, i, s, Q, hit, _, _, hQ => by
    show wpAny _ _ (pure []) Q E s
    exact wpAny_pure (by simpa using hQ s.heap hit (Heap.SameBut.refl ..))
  | n + 1, i, s, Q, hit, ht, hle, hQ => by
    have hlt : i < items.size := by omega
    show wpAny _ _ (pyNext (.ref it) >>= _) Q E s
    refine wpAny_bind (wpAny_pyNext_list_item hit ht (x := items[i]) (by simp [hlt]) fun h₁ hit₁ hs₁ => ?_)
    refine wpAny_bind (wpAny_holding (drawL hne n (i + 1) _ _ hit₁ (ht.extBut hs₁.extBut hne) (by omega) fun h₂ hit₂ hs₂ => wpAny_pure ?_))
    have e1 : items.toList.drop i = items[i] :: items.toList.drop (i + 1) := by simp [List.drop_eq_getElem_cons, hlt]
    have e2 := hQ h₂ (by rw [show i + (n + 1) = i + 1 + n by omega]; exact hit₂) (hs₁.trans hs₂)
    rw [e1, List.take_succ_cons] at e2
    exact e2
theorem unpackL {t : Addr} {items : Array Value} {Q : List Value → Shared → Prop} (hh : A.handled = none) (ht : s.heap.IsList t items)
    (hQ : ∀ h', Heap.ExtBut s.heap.objs.size s.heap h' → Q items.toList { s with heap := h' }) : wpAny (model prog w) A (unpackItems (.ref t) items.size none) Q E s := by
  have hlt : t ≠ s.heap.objs.size := by obtain ⟨o, ho, _⟩ := ht; exact Nat.ne_of_lt (Heap.lt_size ho)
  unfold unpackItems
  refine wpAny_bind ?_
  · unfold notIterableAtAll
    refine wpAny_bind (wpAny_specialOf ht.typeIs F.slot_list_iter.lookup ?_)
    refine wpAny_pure ?_
    simp only [Bool.false_eq_true, if_false]
    refine wpAny_bind (wpAny_holding (wpAny_pyIter_list ht ?_))
    refine wpAny_bind (wpAny_holding (drawL hlt items.size 0 _ _ ⟨_, Heap.get?_push_size _ rfl, rfl, rfl⟩ (ht.push _) (by omega) fun h₁ hit₁ hs₁ => ?_))
    have e1 : List.take items.size (List.drop 0 items.toList) = items.toList := by
      rw [List.drop_zero]; exact List.take_of_length_le (by simp)
    rw [e1, if_neg (by simp)]
    have ht₁ : h₁.IsList t items := (ht.push _).extBut hs₁.extBut hlt
    refine wpAny_bind (wpAny_holding (wpAny_pyNext_list_end hh hit₁ ht₁ (by simp) fun h₂ he₂ => ?_))
    simp only [Option.isSome_none, Bool.false_eq_true, if_false]
    exact wpAny_pure (hQ h₂ fun b o hb e => he₂ b o hb (hs₁.extBut b o hb (Heap.get?_push_of_some _ e)))
theorem assignTupL {env : PySem.Env} {elts : List Expr} {x1} {pos : Pos} {t : Addr} {items : Array Value} {Q : Unit → Shared → Prop} (hh : A.handled = none) (ht : s.heap.IsList t items)
    (hn : (assignEach elts env).length = items.size) (hstar : (assignEach elts env).findIdx? (·.1) = none)
    (h : ∀ h', Heap.ExtBut s.heap.objs.size s.heap h' → wpAny (model prog w) A (assignInOrder ((assignEach elts env).map (·.2)) items.toList) Q E { s with heap := h' }) :
    wpAny (model prog w) A (assign (.Tuple elts x1 pos) env (.ref t)) Q E s := by
  rw [arm_assign_Tuple]
  refine wpAny_bind (wpAny_standAt ?_)
  unfold unpack
  rw [hn, hstar]
  exact wpAny_bind (wpAny_holding (unpackL hh ht h))
end
/-- (a, b, ..) = a tuple or a list of that length -/
def gTupA (K : PySem.W.Frag) (n : Nat) (t : TGs) : TG := fun v σ H Q => ∃ a xs, v = .ref a ∧ (SqT K H a xs ∨ SqL K H a xs) ∧ xs.length = n ∧ t xs σ H Q
section
variable {X : Cx}
theorem pg_tupA {es : List Expr} {k : Nat} {t : TGs} {n : Nat} {pos : Pos} (hc : X.calm = true) (h : PGs X es t)
    (hn : (assignEach es X.env).length = n := by rfl) (hst : (assignEach es X.env).findIdx? (·.1) = none := by rfl) : PG X (.Tuple es k pos) (gTupA X.K n t) := by
  refine ⟨fun pins s σ H v u Q I r hw => ?_⟩
  obtain ⟨a, xs, e1, hq, hl, hw⟩ := hw
  rcases hq with hq | hq
  · exact (pg_tup hc h hn hst).run pins s σ H v u Q I r ⟨a, xs, e1, hq, hl, hw⟩
  · subst e1
    cases r
    obtain ⟨its, rv, ht, hz⟩ := I.list hq
    refine assignTupL (I.ok.hd hc) ht.isList (by simp [hn, ← hl, rv.length]) hst fun h' hx => ?_
    have I1 : Inv X pins σ H { s with heap := h' } := I.kept (t' := s.toks) fun b o e => hx b o (Nat.ne_of_lt (Heap.lt_size e)) e
    exact h.run pins _ σ H xs _ Q I1 (by simpa using rv) hw
theorem length_sub : ∀ {as bs : List Int}, as.Nodup → (∀ k, k ∈ as → k ∈ bs) → as.length ≤ bs.length
  | [], _, _, _ => Nat.zero_le _
  | a :: as, bs, ha, h => by
    have hm : a ∈ bs := h a (by simp)
    obtain ⟨hna, hnd⟩ := List.nodup_cons.mp ha
    have := length_sub (bs := bs.erase a) hnd fun k q => (List.mem_erase_of_ne fun (z : k = a) => hna (by rw [← z]; exact q)).mpr (h k (by simp [q]))
    rw [List.length_erase_of_mem hm] at this
    have : 0 < bs.length := List.length_pos_of_mem hm
    simp only [List.length_cons]
    omega
end
section
variable {X : Cx} {K : PySem.W.Frag} (hK : X.K = K)
include hK
theorem k_tupA {es : List Expr} {k : Nat} {t : TGs} {n : Nat} {pos : Pos} (hc : X.calm = true) (h : PGs X es t)
    (hn : (assignEach es X.env).length = n := by rfl) (hst : (assignEach es X.env).findIdx? (·.1) = none := by rfl) : PG X (.Tuple es k pos) (gTupA K n t) := hK ▸ pg_tupA hc h hn hst
end
end Lm


namespace Lm
open PySem PySem.Spec PyProof.Rows L2
variable {c : Ct} {H H' H0 H1 H2 H3 : Hp} {O : List Addr} {σ : L2.St} {Γ Γ' Γ1 : List (Option Rs)}
variable {te ta tb tx tl : TE} {tt tu : TT} {tr : TA} {k ka kb kc : Kd} {d x y z : PyData} {i j : Int} {a b : Bool} {kv fz : Bool} {ds es : List PyData}
/-! ### zip of two tuples -/
/-! ### calls -/
/-! ### unpacking -/
theorem q_unp {n : Nat} {gs : TGs} {u : TS} {P : Out → Prop} (Pd : PyData → Prop) (h : EvN c te Γ k Pd)
    (p : ∀ d, Pd d → ∃ ds Γ' js, (d = .tuple ds ∨ d = .list ds) ∧ flatAll ds = true ∧ ds.length = n ∧ EvGs c gs (ds.map Im.d) Γ Γ' js ∧ Sd c u Γ' P) : Sd c (tSeq (tAsg te (gTupA c.K n gs)) u) Γ P := fun H0 O H σ D e s =>
  h H0 O H σ e _ fun v d H2 pd r rs => by
    obtain ⟨ds, Γ', js, hd, hf, hn, hg, hu⟩ := p d pd
    have e2 := e.on r
    have key : ∃ a xs, v = .ref a ∧ (SqT c.K H2 a xs ∨ SqL c.K H2 a xs) ∧ BoAll c H2 xs ds := by
      rcases hd with rfl | rfl
      · obtain ⟨a, xs, rfl, sl, al⟩ := (Res.bo e rs).tup'
        exact ⟨a, xs, rfl, .inl sl.sq, al⟩
      · obtain ⟨a, xs, rfl, _, sl, al⟩ := (Res.bo e rs).lst'
        exact ⟨a, xs, rfl, .inr sl, al⟩
    obtain ⟨a, xs, rfl, sl, al⟩ := key
    exact ⟨a, xs, rfl, sl, al.len.trans hn, hg H0 O H2 σ H2 false xs e2 e2.jH Rr.rf (fun z => nomatch z) (.ofFlat hf al) _ fun σ' e' _ => hu H0 O H2 σ' D e' s⟩
end Lm


/-! what more defs promise: allocations, orders -/
namespace Lm
open PySem PySem.Spec PyProof.Rows L2
/-- an allocation of b buckets to v variants -/
structure Alc (ns : List Int) (v b : Int) : Prop where
  len : (ns.length : Int) = v
  sum : ns.sum = b
  nn : ∀ n ∈ ns, 0 ≤ n
theorem sum_nn : ∀ {ns : List Int}, (∀ n ∈ ns, 0 ≤ n) → 0 ≤ ns.sum
  | [], _ => by simp
  | n :: ns, h => by
    have h1 := sum_nn (ns := ns) fun m hm => h m (by simp [hm])
    have h2 := h n (by simp)
    simp only [List.sum_cons]; omega
theorem le_sum : ∀ {ns : List Int}, (∀ n ∈ ns, 0 ≤ n) → ∀ m ∈ ns, m ≤ ns.sum
  | [], _, m, hm => nomatch hm
  | n :: ns, h, m, hm => by
    have h1 := sum_nn (ns := ns) fun m hm => h m (by simp [hm])
    have h2 := h n (by simp)
    simp only [List.sum_cons]
    rcases List.mem_cons.mp hm with q | q
    · rw [q]; omega
    · have := le_sum (ns := ns) (fun m hm => h m (by simp [hm])) m q
      omega
theorem Alc.le {ns : List Int} {v b : Int} (h : Alc ns v b) : ∀ n ∈ ns, n ≤ b := fun n hn => h.sum ▸ le_sum h.nn n hn
/-- the numbers from 0 to m - 1, each once -/
structure IsOrd (ns : List Int) (m : Int) : Prop where
  len : (ns.length : Int) = m
  nd : ns.Nodup
  rng : ∀ n ∈ ns, 0 ≤ n ∧ n < m
def placedI (ns os : List Int) : List Int := (upI 0 os.length).map fun i => ns.getD (os.idxOf i) 0
/-! orders: every number has its place -/
theorem nodup_inj {ns : List Int} (h : ns.Nodup) {i j : Nat} (hi : i < ns.length) (hj : j < ns.length) (e : ns[i] = ns[j]) : i = j := by
  have p := List.pairwise_iff_getElem.mp h
  rcases Nat.lt_trichotomy i j with q | q | q
  · exact absurd e (p i j hi hj q)
  · exact q
  · exact absurd e.symm (p j i hj hi q)
theorem perm_sum {as bs : List Int} (h : as.Perm bs) : as.sum = bs.sum := by
  induction h with
  | nil => rfl
  | cons x _ ih => simp [ih]
  | swap x y l => simp only [List.sum_cons]; omega
  | trans _ _ ih1 ih2 => exact ih1.trans ih2
theorem mem_upI {n : Nat} {i : Int} : i ∈ upI 0 n ↔ 0 ≤ i ∧ i < n := by
  unfold upI
  rw [List.mem_map]
  constructor
  · rintro ⟨m, hm, rfl⟩
    have := List.mem_range.mp hm
    omega
  · rintro ⟨h0, h1⟩
    exact ⟨i.toNat, List.mem_range.mpr (by omega), by omega⟩
theorem nodup_upI (n : Nat) : (upI 0 n).Nodup := by
  rw [upI0]
  exact List.Pairwise.map _ (fun a b h e => h (Int.ofNat.inj e)) List.nodup_range
theorem IsOrd.mem {ns : List Int} {m : Int} (h : IsOrd ns m) {i : Int} (h0 : 0 ≤ i) (h1 : i < m) : i ∈ ns := by
  refine Decidable.byContradiction fun hn => ?_
  have h2 : (i :: ns).length ≤ (upI 0 ns.length).length := length_sub (List.nodup_cons.mpr ⟨hn, h.nd⟩) fun k hk => by
    have hl := h.len
    rcases List.mem_cons.mp hk with q | q
    · rw [q, mem_upI]; omega
    · rw [mem_upI]; have := h.rng k q; omega
  simp [upI] at h2
  omega
theorem IsOrd.perm {ns : List Int} {m : Int} (h : IsOrd ns m) : (upI 0 ns.length).Perm ns := by
  refine (List.perm_iff_count.mpr fun i => ?_)
  by_cases q : 0 ≤ i ∧ i < (ns.length : Int)
  · rw [upI_count q.1 q.2, h.nd.count]
    rw [if_pos (h.mem q.1 (by have := h.len; omega))]
  · rw [List.count_eq_zero_of_not_mem (fun z => q (mem_upI.mp z)), List.count_eq_zero_of_not_mem (fun z => q (by have := h.rng i z; have := h.len; omega))]
theorem IsOrd.idx {ns : List Int} {m : Int} (h : IsOrd ns m) {i : Int} (h0 : 0 ≤ i) (h1 : i < m) : ∃ hj : ns.idxOf i < ns.length, ns[ns.idxOf i]? = some i ∧ ∀ n, n < ns.idxOf i → ns[n]? ≠ some i := by
  have hj : ns.idxOf i < ns.length := List.idxOf_lt_length_of_mem (h.mem h0 h1)
  refine ⟨hj, ?_, fun n hn e => ?_⟩
  · rw [List.getElem?_eq_getElem hj, List.getElem_idxOf hj]
  · have hl : n < ns.length := by omega
    have e1 : ns[n] = i := by rw [List.getElem?_eq_getElem hl] at e; exact Option.some.inj e
    have e2 : ns[ns.idxOf i] = i := List.getElem_idxOf hj
    have := nodup_inj h.nd hl hj (e1.trans e2.symm)
    omega
theorem IsOrd.idxOf_get {ns : List Int} {m : Int} (h : IsOrd ns m) {j : Nat} (hj : j < ns.length) : ns.idxOf ns[j] = j := by
  have hm : ns[j] ∈ ns := List.getElem_mem hj
  have hl : ns.idxOf ns[j] < ns.length := List.idxOf_lt_length_of_mem hm
  exact nodup_inj h.nd hl hj (List.getElem_idxOf hl)
/-- a sum over the placed is the sum over the old -/
theorem IsOrd.sums {os : List Int} {m : Int} (h : IsOrd os m) (f : Nat → Int) : ((upI 0 os.length).map fun i => f (os.idxOf i)).sum = ((List.range os.length).map f).sum := by
  have e : os.map (fun i => f (os.idxOf i)) = (List.range os.length).map f := by
    apply List.ext_getElem
    · simp
    · intro j h1 h2
      simp only [List.getElem_map, List.getElem_range]
      rw [h.idxOf_get (by simpa using h1)]
  rw [← e]
  exact perm_sum (h.perm.map _)
theorem sum_range {ns : List Int} : ((List.range ns.length).map fun j => ns.getD j 0).sum = ns.sum := by
  congr 1
  apply List.ext_getElem
  · simp
  · intro j h1 h2
    have h2' : j < ns.length := h2
    simp [List.getD_eq_getElem?_getD, List.getElem?_eq_getElem h2']
theorem IsOrd.alc {ns os : List Int} {v b : Int} (h : Alc ns v b) (o : IsOrd os v) : Alc (placedI ns os) v b := by
  have hl : os.length = ns.length := by have := h.len; have := o.len; omega
  refine ⟨?_, ?_, ?_⟩
  · simp [placedI, upI, o.len]
  · unfold placedI
    rw [o.sums fun j => ns.getD j 0, hl, sum_range, h.sum]
  · intro n hn
    obtain ⟨i, _, rfl⟩ := List.mem_map.mp hn
    rw [List.getD_eq_getElem?_getD]
    cases q : ns[os.idxOf i]? with
    | none => exact Int.le_refl _
    | some x => exact h.nn x (List.mem_of_getElem? q)
def t0 (a b : Int) : Int := if 0 > a - b then 0 else a - b
end Lm


/-! allocations: how they are made, what goes over -/
namespace Lm
open PySem PySem.Spec PyProof.Rows L2
theorem sum_set : ∀ {ns : List Int} {m : Nat} {x : Int}, m < ns.length → (ns.set m x).sum = ns.sum - ns.getD m 0 + x
  | [], _, _, h => by simp at h
  | n :: ns, 0, x, _ => by
    show x + ns.sum = (n + ns.sum) - n + x
    omega
  | n :: ns, m + 1, x, h => by
    have := sum_set (ns := ns) (m := m) (x := x) (by simpa using h)
    show n + (ns.set m x).sum = (n + ns.sum) - ns.getD m 0 + x
    omega
theorem Alc.one {ns : List Int} {v : Int} {b m : Nat} (h : Alc ns v b) (hm : m < ns.length) : Alc (ns.set m (ns.getD m 0 + 1)) v ((b + 1 : Nat) : Int) := by
  refine ⟨by rw [List.length_set]; exact h.len, ?_, fun n hn => ?_⟩
  · have := h.sum
    rw [sum_set hm]
    omega
  · rcases List.mem_or_eq_of_mem_set hn with q | q
    · exact h.nn n q
    · have : ns.getD m 0 ∈ ns := by
        rw [List.getD_eq_getElem?_getD, List.getElem?_eq_getElem hm]
        exact List.getElem_mem hm
      have := h.nn _ this
      omega
/-! ### sums over two lists at once -/
def zs (f : Int → Int → Int) (ns ms : List Int) : Int := ((List.range ns.length).map fun j => f (ns.getD j 0) (ms.getD j 0)).sum
theorem zs_cons {f : Int → Int → Int} {n m : Int} {ns ms : List Int} : zs f (n :: ns) (m :: ms) = f n m + zs f ns ms := by
  unfold zs
  rw [List.length_cons, List.range_succ_eq_map, List.map_cons, List.sum_cons, List.map_map]
  rfl
variable {ns ms ps : List Int} {v b : Int}
/-- a list that is filled place by place -/
structure Due (ns os due : List Int) (v : Int) (n : Nat) : Prop where
  len : (due.length : Int) = v
  got : ∀ j, j < n → due.getD (os.getD j 0).toNat 0 = ns.getD j 0
theorem gd_lt {l : List Int} {j : Nat} (h : j < l.length) : l.getD j 0 = l[j] := by
  rw [List.getD_eq_getElem?_getD, List.getElem?_eq_getElem h]
  rfl
theorem gd_mem {l : List Int} {j : Nat} (h : j < l.length) : l.getD j 0 ∈ l := by rw [gd_lt h]; exact List.getElem_mem h
variable {os due : List Int} {n : Nat}
theorem Due.step (d : Due ns os due v n) (ho : IsOrd os v) (hn : n < os.length) : Due ns os (due.set (os.getD n 0).toNat (ns.getD n 0)) v (n + 1) := by
  refine ⟨by rw [List.length_set]; exact d.len, fun j hj => ?_⟩
  have hl := d.len
  have r1 := ho.rng _ (gd_mem hn)
  have h1 : (os.getD n 0).toNat < due.length := by omega
  by_cases q : j = n
  · subst q
    rw [List.getD_eq_getElem?_getD, List.getElem?_set_self h1]
    rfl
  · have hj' : j < n := by omega
    have hjl : j < os.length := by omega
    have r2 := ho.rng _ (gd_mem hjl)
    have ne : (os.getD n 0).toNat ≠ (os.getD j 0).toNat := fun e => by
      have e2 : os.getD j 0 = os.getD n 0 := by omega
      rw [gd_lt hn, gd_lt hjl] at e2
      exact q (nodup_inj ho.nd hjl hn e2)
    rw [List.getD_eq_getElem?_getD, List.getElem?_set_ne ne, ← List.getD_eq_getElem?_getD]
    exact d.got j hj'
theorem upI_at {n m : Nat} {a : Im} (h : ((upI 0 n).map fun i => Im.d (.int i))[m]? = some a) : m < n ∧ a = .d (.int (m : Int)) := by
  unfold upI at h
  rw [List.map_map, List.getElem?_map] at h
  cases q : (List.range n)[m]? with
  | none => rw [q] at h; cases h
  | some j =>
    rw [q] at h
    have hm : m < n := by have := (List.getElem?_eq_some_iff.mp q).1; simpa using this
    have hj : j = m := by rw [List.getElem?_range hm] at q; exact (Option.some.inj q).symm
    subst hj
    refine ⟨hm, (Option.some.inj h).symm.trans ?_⟩
    show Im.d (.int (0 + (j : Int))) = _
    rw [Int.zero_add]
end Lm


/-! pairs of assignments, moves, renaming and rearranging -/
namespace Lm
open PySem PySem.Spec PyProof.Rows L2
def ne1 (a b : Int) : Int := if a = b then 0 else 1
def backI (os : List Int) : List Int := (upI 0 os.length).map fun i => (os.idxOf i : Int)
variable {ns ms os : List Int} {v m b : Int}
theorem backI_len : (backI os).length = os.length := by simp [backI, upI]
theorem IsOrd.back (o : IsOrd os m) : IsOrd (backI os) m := by
  have hl := o.len
  refine ⟨by rw [backI_len]; exact hl, ?_, fun n hn => ?_⟩
  · unfold backI
    rw [List.nodup_iff_pairwise_ne, List.pairwise_map]
    refine List.Pairwise.imp_of_mem ?_ (List.nodup_iff_pairwise_ne.mp (nodup_upI os.length))
    intro a c ha hc hne e
    have a1 := mem_upI.mp ha
    have c1 := mem_upI.mp hc
    obtain ⟨_, ga, _⟩ := o.idx (i := a) a1.1 (by omega)
    obtain ⟨_, gc, _⟩ := o.idx (i := c) c1.1 (by omega)
    have e' : os.idxOf a = os.idxOf c := by omega
    rw [e', gc] at ga
    exact hne (Option.some.inj ga).symm
  · obtain ⟨i, hi, rfl⟩ := List.mem_map.mp hn
    have a1 := mem_upI.mp hi
    obtain ⟨hj, _, _⟩ := o.idx (i := i) a1.1 (by omega)
    omega
theorem countsI_len : (countsI ns v).length = v.toNat := by simp [countsI, upI]
theorem countsI_get {i : Nat} (h : (i : Int) < v) : (countsI ns v).getD i 0 = (ns.count (i : Int) : Int) := by
  unfold countsI
  rw [List.getD_eq_getElem?_getD]
  have : i < v.toNat := by omega
  simp [upI, this]
theorem Asg.alc (h : Asg ns v) (hv : 0 ≤ v) : Alc (countsI ns v) v ns.length := by
  refine ⟨by rw [countsI_len]; omega, ?_, fun n hn => ?_⟩
  · exact count_sum v.toNat ns fun n hn => by have := h.rng n hn; omega
  · obtain ⟨i, _, rfl⟩ := List.mem_map.mp hn
    omega
/-- a list of data that is filled place by place with ints -/
structure DueD (ns os : List Int) (due : List PyData) (v : Int) (n : Nat) : Prop where
  len : (due.length : Int) = v
  flat : ∀ d ∈ due, flatD d = true
  got : ∀ j, j < n → due[(os.getD j 0).toNat]? = some (.int (ns.getD j 0))
theorem DueD.fl {due : List PyData} {n : Nat} (d : DueD ns os due v n) : flatAll due = true := flatAll_mem d.flat
theorem DueD.step {due : List PyData} {n : Nat} (d : DueD ns os due v n) (ho : IsOrd os v) (hn : n < os.length) : DueD ns os (due.set (os.getD n 0).toNat (.int (ns.getD n 0))) v (n + 1) := by
  have hl := d.len
  have r1 := ho.rng _ (gd_mem hn)
  have h1 : (os.getD n 0).toNat < due.length := by omega
  refine ⟨by rw [List.length_set]; exact d.len, fun x hx => ?_, fun j hj => ?_⟩
  · rcases List.mem_or_eq_of_mem_set hx with q | q
    · exact d.flat x q
    · rw [q]; rfl
  by_cases q : j = n
  · subst q
    rw [List.getElem?_set_self h1]
  · have hj' : j < n := by omega
    have hjl : j < os.length := by omega
    have r2 := ho.rng _ (gd_mem hjl)
    have ne : (os.getD n 0).toNat ≠ (os.getD j 0).toNat := fun e => by
      have e2 : os.getD j 0 = os.getD n 0 := by omega
      rw [gd_lt hn, gd_lt hjl] at e2
      exact q (nodup_inj ho.nd hjl hn e2)
    rw [List.getElem?_set_ne ne]
    exact d.got j hj'
end Lm


/-! the least churn is what goes over -/
namespace Lm
open PySem PySem.Spec PyProof.Rows L2
variable {f g h ns ms : List Int} {v : Int}
/-- all assignments of n buckets to v variants -/
def allL (v : Int) : Nat → List (List Int)
  | 0 => [[]]
  | n + 1 => (allL v n).flatMap fun r => (upI 0 v.toNat).map fun x => r ++ [x]
theorem mem_allL (hv : 0 ≤ v) : ∀ (n : Nat) (r : List Int), r ∈ allL v n ↔ r.length = n ∧ ∀ x ∈ r, 0 ≤ x ∧ x < v
  | 0, r => by
    constructor
    · intro h
      have : r = [] := by simpa [allL] using h
      subst this
      exact ⟨rfl, fun _ h => nomatch h⟩
    · rintro ⟨h, _⟩
      rw [List.eq_nil_of_length_eq_zero h]
      simp [allL]
  | n + 1, r => by
    unfold allL
    rw [List.mem_flatMap]
    constructor
    · rintro ⟨q, hq, h⟩
      obtain ⟨x, hx, rfl⟩ := List.mem_map.mp h
      obtain ⟨h1, h2⟩ := (mem_allL hv n q).mp hq
      refine ⟨by simp [h1], fun y hy => ?_⟩
      rcases List.mem_append.mp hy with w | w
      · exact h2 y w
      · rw [List.mem_singleton.mp w]
        have := mem_upI.mp hx
        omega
    · rintro ⟨h1, h2⟩
      have hne : r ≠ [] := fun z => by rw [z] at h1; simp at h1
      refine ⟨r.dropLast, (mem_allL hv n _).mpr ⟨by rw [List.length_dropLast]; omega, fun x hx => h2 x (List.dropLast_subset r hx)⟩, List.mem_map.mpr ⟨r.getLast hne, mem_upI.mpr ?_, List.dropLast_concat_getLast hne⟩⟩
      have := h2 _ (List.getLast_mem hne)
      omega
end Lm


/-! a list handed from one name to another, list.extend, tuples put together, all assignments -/
namespace Lm
open PySem PySem.Spec PyProof.Rows L2
section
variable {c : Ct} {H H' H0 H1 H2 H3 : Hp} {O : List Addr} {σ : L2.St} {Γ Γ' Γ1 : List (Option Rs)}
variable {te ta tb : TE} {k ka kb : Kd} {d : PyData} {i j : Int} {ds es : List PyData} {u : TS} {P : Out → Prop} {n m : Nat}
end
abbrev tupD (r : List Int) : PyData := .tuple (r.map .int)
end Lm


/-! own lists within an own list: rows[i][j] = .. -/
namespace Lm
open PySem PySem.Spec PyProof.Rows L2
variable {c : Ct} {H H' H0 H1 H2 H3 : Hp} {O : List Addr} {σ : L2.St} {Γ Γ' Γ1 : List (Option Rs)}
theorem FoAll.nth : ∀ {xs : List V} {ds : List PyData} {f : List Addr} {i : Nat} {d : PyData}, FoAll c H xs ds f → ds[i]? = some d →
    ∃ x g pre post, xs[i]? = some x ∧ Fo c H x d g ∧ f = pre ++ (g ++ post) ∧ ∀ (H' : Hp) (x' : V) (d' : PyData) (g' : List Addr), (∀ a xs, TpN c.K H a xs → TpN c.K H' a xs) → (∀ a ∈ pre ++ post, ∀ o, H a = some o → H' a = some o) → Fo c H' x' d' g' →
      FoAll c H' (xs.set i x') (ds.set i d') (pre ++ (g' ++ post))
  | _, _, _, _, _, .nil, h => by simp at h
  | _, _, _, 0, d, .cons (v := v) (f := f) (fs := fs) a b, h => by
    have e : _ = d := Option.some.inj h
    subst e
    exact ⟨v, f, [], fs, rfl, a, rfl, fun H' x' d' g' hT hk fo => FoAll.cons (f := g') (fs := fs) fo (b.up hT fun y hy => hk y (by simpa using hy))⟩
  | _, _, _, i + 1, d, .cons (v := v) (f := f) (fs := fs) a b, h => by
    obtain ⟨x, g, pre, post, h1, h2, h3, h4⟩ := FoAll.nth (i := i) b (by simpa using h)
    refine ⟨x, g, f ++ pre, post, by simpa using h1, h2, by rw [h3, List.append_assoc], fun H' x' d' g' hT hk fo => ?_⟩
    have r := h4 H' x' d' g' hT (fun y hy o z => hk y (by simp at hy ⊢; rcases hy with w | w <;> simp [w]) o z) fo
    rw [List.append_assoc]
    exact .cons (a.up hT fun y hy => hk y (by simp [hy])) r
end Lm


/-! states, their ways -/
namespace Lm
open PySem PySem.Spec PyProof.Rows L2
section
variable {X : Cx}
end
section
variable {c : Ct} {Γ : List (Option Rs)} {te ta tb : TE} {k ka kb : Kd} {u : TS} {P : Out → Prop} {n : Nat} {i j : Int}
end
/-- a state whose ways can be counted -/
structure StOk (ns ls es : List Int) : Prop where
  len : ns.length = ls.length
  l1 : ns.length ≤ 1000
  l2 : es.length ≤ 1000
  le : ∀ p ∈ ns.zip ls, 0 ≤ p.2 ∧ p.2 ≤ p.1 ∧ p.1 ≤ 20
  nn : ∀ e ∈ es, 0 ≤ e
  sum : es.sum ≤ 20
end Lm


/-! slices of tuples; min and max of lists; sorted of lists; int of a truth; sums over three lists: what is in the middle -/
namespace Lm
open PySem PySem.Spec PyProof.Rows L2
section
variable {X : Cx} {K : PySem.W.Frag} (hK : X.K = K)
include hK
end
variable {c : Ct} {H H' H0 H1 H2 H3 : Hp} {O : List Addr} {Γ Γ' Γ1 : List (Option Rs)}
variable {te ta tb tx : TE} {tl th : TO} {k ka kb : Kd} {d x y z : PyData} {i j : Int} {a b : Bool} {ds es : List PyData}
def Eo (c : Ct) (t : TO) (Γ : List (Option Rs)) (o : Option Int) : Prop :=
  ∀ H0 O H σ, Env c H0 O H σ Γ → ∀ Q : Option Int → Hp → Prop, (∀ H2, Rr c H H2 → Q o H2) → t σ H Q
theorem o_none : Eo c tNoPart Γ none := fun H0 O H σ e Q q => q H Rr.rf
theorem o_some (h : Ev c te Γ k (.int i)) : Eo c (tPart te) Γ (some i) := fun H0 O H σ e Q q => h H0 O H σ e _ fun v H2 r s => ⟨i, (Res.bo e s).int', q H2 r⟩
def cutD {α : Type} (ds : List α) (lo hi : Option Int) : List α := (ds.drop (HT.sIx ds.length 0 lo)).take (HT.sIx ds.length ds.length hi - HT.sIx ds.length 0 lo)
theorem BoAll.cut {vs : List V} {lo hi : Option Int} (h : BoAll c H vs ds) : BoAll c H (cutV vs lo hi) (cutD ds lo hi) := by
  unfold cutV cutD
  rw [h.len]
  exact (h.drop _).take _
theorem cutD_lo {α : Type} {ds : List α} {t : Nat} (h : t ≤ ds.length) : cutD ds (some (t : Int)) none = ds.drop t := by
  unfold cutD
  rw [HT.sIx_nat, HT.sIx_none, Nat.min_eq_left h]
  apply List.take_of_length_le
  simp
theorem cutD_hi {α : Type} {ds : List α} {t : Nat} (h : t ≤ ds.length) : cutD ds none (some (t : Int)) = ds.take t := by
  unfold cutD
  rw [HT.sIx_nat, HT.sIx_none, Nat.min_eq_left h]
  simp
/-! min and max of a list -/
def mxL : List Int → Int
  | [] => 0
  | [n] => n
  | n :: m :: ns => if mxL (m :: ns) > n then mxL (m :: ns) else n
theorem mxL_mem : ∀ {ns : List Int}, 0 < ns.length → mxL ns ∈ ns
  | [n], _ => by simp [mxL]
  | n :: m :: ns, _ => by
    have := mxL_mem (ns := m :: ns) (by simp)
    unfold mxL
    split
    · exact List.mem_cons_of_mem _ this
    · simp
theorem mxL_le : ∀ {ns : List Int}, ∀ y ∈ ns, y ≤ mxL ns
  | [], _, h => nomatch h
  | [n], y, h => by rw [List.mem_singleton.mp h]; exact Int.le_refl _
  | n :: m :: ns, y, h => by
    unfold mxL
    rcases List.mem_cons.mp h with q | q
    · subst q; split <;> omega
    · have := mxL_le (ns := m :: ns) y q
      split <;> omega
theorem e_intB {b : Bool} (h : Ev c te Γ k (.bool b)) : Ev c (tCB (fun xs H Q => (∃ i, xs = [V.int i] ∧ Q (.int i) H) ∨ ∃ k, xs = [V.bl k] ∧ Q (.int (if k then 1 else 0)) H) (tCons te tNil)) Γ .v (.int (if b then 1 else 0)) :=
  d_cb (a_cons h a_nil) fun H O vs Q s q => by
    obtain ⟨x, rfl, bb⟩ := s.one
    exact .inr ⟨b, by rw [bb.bl'], q _ H Rr.rf (.int _)⟩
/-! sums over three lists -/
variable {F : Int → Int → Int → Int} {as bs cs as' bs' cs' : List Int}
variable {f g h : List Int} {v m : Int}
end Lm


/-! states, what can come next, and the ways on: the least changes -/
namespace Lm
open PySem PySem.Spec PyProof.Rows L2
abbrev gI (l : List Int) (i : Int) : Int := l.getD i.toNat 0
structure S3 where
  c : List Int
  l : List Int
  e : List Int
/-- a state that stands before the buckets f -/
structure St (v : Int) (S : S3) (f : List Int) : Prop where
  cl : (S.c.length : Int) = v
  ll : (S.l.length : Int) = v
  el : (S.e.length : Int) = v
  cs : ∀ i, 0 ≤ i ∧ i < v → gI S.c i = f.count i
  ls : ∀ i, 0 ≤ i ∧ i < v → 0 ≤ gI S.l i ∧ gI S.l i ≤ f.count i
  es : ∀ i, 0 ≤ i ∧ i < v → 0 ≤ gI S.e i ∧ (gI S.l i = 0 ∨ gI S.e i = 0)
  sum : S.l.sum = S.e.sum
  rng : ∀ n ∈ f, 0 ≤ n ∧ n < v
variable {v o n : Int} {S : S3} {f g : List Int}
theorem St.enn (h : St v S f) : ∀ n ∈ S.e, 0 ≤ n := fun n hn => by
  obtain ⟨k, hk, rfl⟩ := List.getElem_of_mem hn
  have := (h.es (k : Int) (by have := h.el; omega)).1
  unfold gI at this
  rw [Int.toNat_natCast, gd_lt hk] at this
  exact this
/-- a list comes before another, or is it -/
def lexLe : List Int → List Int → Prop
  | [], _ => True
  | _ :: _, [] => False
  | a :: as, b :: bs => a < b ∨ (a = b ∧ lexLe as bs)
theorem upI_pw (n : Nat) : (upI 0 n).Pairwise (· < ·) := by
  unfold upI
  rw [List.pairwise_map]
  refine List.pairwise_lt_range.imp fun {a b} h => ?_
  omega
/-! the state at the start -/
variable {as : List Int}
end Lm


/-! the choices of a bucket; the order of all assignments -/
namespace Lm
open PySem PySem.Spec PyProof.Rows L2
variable {v o n : Int} {S : S3} {f g f1 f2 g1 g2 as : List Int}
/-! the order of all assignments -/
def lexLt : List Int → List Int → Prop
  | a :: as, b :: bs => a < b ∨ (a = b ∧ lexLt as bs)
  | _, _ => False
theorem lexLt.le : ∀ {as bs : List Int}, lexLt as bs → lexLe as bs
  | [], _, _ => trivial
  | _ :: _, [], h => h.elim
  | a :: as, b :: bs, h => by
    unfold lexLt at h
    unfold lexLe
    rcases h with h | ⟨e, h⟩
    · exact .inl h
    · exact .inr ⟨e, h.le⟩
theorem lexLt_irr : ∀ {as : List Int}, ¬ lexLt as as
  | [], h => h.elim
  | a :: as, h => by
    unfold lexLt at h
    rcases h with h | ⟨_, h⟩
    · omega
    · exact lexLt_irr h
theorem lexLt_app {xs ys : List Int} : ∀ {as bs : List Int}, lexLt as bs → lexLt (as ++ xs) (bs ++ ys)
  | [], _, h => h.elim
  | _ :: _, [], h => h.elim
  | a :: as, b :: bs, h => by
    unfold lexLt at h
    show lexLt (a :: (as ++ xs)) (b :: (bs ++ ys))
    unfold lexLt
    rcases h with h | ⟨e, h⟩
    · exact .inl h
    · exact .inr ⟨e, lexLt_app h⟩
theorem lexLt_last {x y : Int} (h : x < y) : ∀ {as : List Int}, lexLt (as ++ [x]) (as ++ [y])
  | [] => .inl h
  | a :: as => .inr ⟨rfl, lexLt_last h⟩
theorem allL_pw (v : Int) : ∀ n, (allL v n).Pairwise lexLt
  | 0 => List.pairwise_singleton ..
  | n + 1 => by
    unfold allL
    rw [List.pairwise_flatMap]
    refine ⟨fun r _ => ?_, (allL_pw v n).imp fun {a b} h x hx y hy => ?_⟩
    · rw [List.pairwise_map]
      exact (upI_pw _).imp fun h => lexLt_last h
    · obtain ⟨i, _, rfl⟩ := List.mem_map.mp hx
      obtain ⟨j, _, rfl⟩ := List.mem_map.mp hy
      exact lexLt_app h
end Lm


/-! list.index, list.count, in: over data; the first change and its promises -/
namespace L2
open PySem PySem.Spec PyProof.Rows
section
variable {X : Cx}
end
end L2
namespace Lm
open PySem PySem.Spec PyProof.Rows L2
section
variable {X : Cx} {K : PySem.W.Frag} (hK : X.K = K)
include hK
end
section
variable {c : Ct} {H H' H0 H1 H2 H3 : Hp} {O : List Addr} {Γ Γ' Γ1 : List (Option Rs)}
variable {te ta tb tx : TE} {tr : TA} {k ka kb : Kd} {d x y z : PyData} {i j : Int} {ds es : List PyData}
end
/-! promises -/
variable {v o n : Int} {S : S3} {f g as : List Int}
end Lm
namespace Lm
open PySem PySem.Spec PyProof.Rows L2
end Lm
namespace Lm
open PySem PySem.Spec PyProof.Rows L2
variable {c : Ct} {Γ : List (Option Rs)} {ta tb : TE} {ka kb : Kd}
end Lm


/-! what lies between; all allocations; bridges -/
namespace Lm
open PySem PySem.Spec PyProof.Rows L2
variable {v b : Int} {f g h m x y : List Int}
/-! all allocations -/
theorem pw_nodup {l : List (List Int)} (h : l.Pairwise lexLt) : l.Nodup := by
  refine List.Pairwise.imp (fun {a b} h => ?_) h
  intro e
  rw [e] at h
  exact lexLt_irr h
end Lm


/-! all ways on: by number, their numbers, the next one -/
namespace Lm
open PySem PySem.Spec PyProof.Rows L2
variable {v o n : Int} {S : S3} {f g : List Int}
/-! by number -/
/-! the number -/
/-! the next one -/
theorem sum_le_pt : ∀ {as bs : List Int}, as.length = bs.length → (∀ j, j < as.length → as.getD j 0 ≤ bs.getD j 0) → as.sum ≤ bs.sum
  | [], [], _, _ => Int.le_refl _
  | a :: as, b :: bs, hl, h => by
    have h0 := h 0 (by simp)
    have := sum_le_pt (as := as) (bs := bs) (by simpa using hl) fun j hj => h (j + 1) (by simpa using hj)
    rw [List.sum_cons, List.sum_cons]
    have h0' : a ≤ b := h0
    omega
  | [], _ :: _, h, _ => by simp at h
  | _ :: _, [], h, _ => by simp at h
theorem St.ok (h : St v S f) (h20 : f.length ≤ 20) (h5 : v ≤ 5) : StOk S.c S.l S.e := by
  have cl := h.cl
  have ll := h.ll
  have el := h.el
  have cg : ∀ j, j < S.c.length → S.c.getD j 0 = f.count (j : Int) := fun j hj => by
    have := h.cs (j : Int) (by omega)
    unfold gI at this
    rwa [Int.toNat_natCast] at this
  have cs : S.c.sum = f.length := by
    have e : S.c = (upI 0 v.toNat).map fun i => (f.count i : Int) := by
      apply List.ext_getElem
      · simp [upI]; omega
      · intro i h1 h2
        have := cg i h1
        rw [gd_lt h1] at this
        rw [this]
        simp [upI]
    rw [e]
    exact count_sum v.toNat f fun n hn => by have := h.rng n hn; omega
  refine ⟨by omega, by omega, by omega, fun p hp => ?_, h.enn, ?_⟩
  · obtain ⟨i, hi, rfl⟩ := List.getElem_of_mem hp
    have i1 : i < S.c.length := by simp at hi; omega
    have i2 : i < S.l.length := by omega
    rw [List.getElem_zip]
    have a1 := cg i i1
    have a2 := h.ls (i : Int) (by omega)
    unfold gI at a2
    rw [Int.toNat_natCast, gd_lt i2] at a2
    rw [gd_lt i1] at a1
    have a3 : f.count (i : Int) ≤ f.length := List.count_le_length
    show 0 ≤ S.l[i] ∧ S.l[i] ≤ S.c[i] ∧ S.c[i] ≤ 20
    omega
  · rw [← h.sum]
    have := sum_le_pt (as := S.l) (bs := S.c) (by omega) fun j hj => by
      have a2 := h.ls (j : Int) (by omega)
      unfold gI at a2
      rw [Int.toNat_natCast] at a2
      have := cg j (by omega)
      omega
    omega
end Lm


/-! list(zip(a, b)), a and b tuples -/
namespace PySem.F
end PySem.F
namespace Lm
open PySem PySem.Spec PyProof.Rows L2
section
variable {prog : Program} {w : World} {A : Around} {E : Value → Shared → Prop} {s : Shared}
end
section
variable {prog : Program} {w : World} {A : Around} {R : Result → Shared → Prop}
end
section
variable {prog : Program} {w : World} {A : Around} {E : Value → Shared → Prop} {s : Shared}
end
end Lm
namespace Lm
open PySem PySem.Spec PyProof.Rows L2
section
variable {X : Cx} {K : PySem.W.Frag} (hK : X.K = K)
include hK
end
section
variable {c : Ct} {H H' : Hp} {Γ : List (Option Rs)} {tr : TA} {ds es : List PyData} {kv : Bool}
end
end Lm


/-! slices of tuples or lists, a range kept in a name, enumerate of a new list -/
namespace Lm
open PySem PySem.Spec PyProof.Rows L2
def rSlU (K : PySem.W.Frag) : V → Option Int → Option Int → Hp → VK → Prop := fun x lo hi H Q => rSlN K x lo hi H Q ∨ rSlL K x lo hi H Q
section
variable {X : Cx} {tg : Expr}
end
section
variable {X : Cx} {K : PySem.W.Frag} (hK : X.K = K)
include hK
theorem k_slU : SlR X (rSlU K) := by
  subst hK
  intro pins s σ H x v vl vu lo hi sl Q I rx hs pl pu h
  rcases h with h | h
  · exact sl_tupN pins s σ H x v vl vu lo hi sl Q I rx hs pl pu h
  · exact sl_list pins s σ H x v vl vu lo hi sl Q I rx hs pl pu h
end
section
variable {c : Ct} {H H' H0 H1 H2 H3 : Hp} {O : List Addr} {Γ Γ' Γ1 : List (Option Rs)}
variable {te ta tb tx : TE} {tl th : TO} {k ka kb : Kd} {d x y z : PyData} {i j : Int} {a b : Bool} {ds es : List PyData} {u : TS} {P : Out → Prop} {n : Nat} {kv : Bool} {tr : TA}
theorem i_enumLO (h : Ev c te Γ k (.list ds)) (hk : k ≠ .b) : EvI c (iEnumA c.K (tCons te tNil)) Γ true (enumI ds) := fun H0 O H σ e R q =>
  h H0 O H σ e _ fun v H1 r s => by
    obtain ⟨p, xs, rfl, kp, sl, al⟩ := (Res.frozen e r s hk).lst'
    exact ⟨p, xs, rfl, .inl ⟨mns_same.seq sl, q _ H1 r (enum_core (e.on r).j (walk_enum.mono (fun H h => h.lst kp sl) fun _ _ _ _ _ _ y => y) al (.inl rfl))⟩⟩
end
end Lm


/-! series of allocations: their steps, losses, turns -/
namespace Lm
open PySem PySem.Spec PyProof.Rows L2
structure Ser (A : List (List Int)) (v b : Int) : Prop where
  l1 : 1 ≤ A.length
  l2 : A.length ≤ 10
  alc : ∀ a ∈ A, Alc a v b
  v1 : 1 ≤ v
  v5 : v ≤ 5
  b20 : b ≤ 20
variable {A : List (List Int)} {v b : Int}
theorem Ser.len (h : Ser A v b) : ∀ a ∈ A, a.length = v.toNat := fun a ha => by have := (h.alc a ha).len; omega
end Lm


/-! series: the promises -/
namespace Lm
open PySem PySem.Spec PyProof.Rows L2
section
variable {c : Ct} {H H' H0 H1 H2 H3 : Hp} {O : List Addr} {Γ Γ' Γ1 : List (Option Rs)}
variable {te ta tb tx : TE} {k ka kb : Kd} {d x y z : PyData} {ds es : List PyData} {u : TS} {P : Out → Prop} {n : Nat}
theorem s_appN {Pd : PyData → Prop} (hx : Γ[n]? = some (some (.o (.list ds)))) (h : EvN c te Γ k Pd) (hf : ∀ d, Pd d → flatD d = true) (hl : ds.length < 1000000) (p : ∀ d, Pd d → P (.nx (Γ.set n (some (.o (.list (ds ++ [d]))))))) : Sd c (tDrop (tBM c.K "list" rAppend (tVar n) (tCons te tNil))) Γ P := fun H0 O H σ D e s => by
  have gen : ∀ d, Env c H0 O H σ Γ → ∃ q, σ[n]? = some (some (.ref q)) ∧ ∃ xs, H q = some (.lst xs) := fun d e => by
    obtain ⟨q, xs, f, hq, hp, _⟩ := e.write (es := ds ++ [d]) hx
    exact ⟨q, hq, xs, hp⟩
  obtain ⟨q, hq, xs, hp⟩ := gen .none e
  refine ⟨.ref q, hq, .inl ⟨rfl, xs, .inl (.inl hp)⟩, h H0 O H σ e _ fun v d H2 pd r rs => ?_⟩
  have e2 := e.on r
  obtain ⟨q', xs', f', hq', hp', fa', qf', qO', wr⟩ := e2.write (es := ds ++ [d]) hx
  have : q' = q := by rw [hq] at hq'; cases hq'; rfl
  subst this
  have bo : Bo c H2 v d := Res.bo e rs
  have lx : xs'.length = ds.length := (fa'.bo fun a ha => e.okO a (qO' a ha)).len
  refine ⟨q', xs', v, rfl, rfl, hp', by rw [lx, sizeLine_eq]; omega, s _ (p d pd) O _ σ (wr (xs' ++ [v]) ?_)⟩
  have := fa'.app (.cons (.leaf (hf d pd) bo) .nil : FoAll c H2 [v] [d] ([] ++ []))
  rw [List.append_nil, List.append_nil] at this
  exact this.up (fun _ _ s => sqT_upd hp' s) fun a ha o z => by
    have : a ≠ q' := fun w => qf' (w ▸ ha)
    rw [upd_ne this]; exact z
/-- for .. in range(e), e one of several -/
theorem q_forRN {g : TG} {tb : TS} {Q : Int → Prop} (h : EvN c te Γ k (SomeI Q)) (hs : ∀ m, Q m → Sd c (tSeq (tFor (iRng1 (tCons (tC (.int m)) tNil)) g tb) u) Γ P) : Sd c (tSeq (tFor (iRng1 (tCons te tNil)) g tb) u) Γ P := fun H0 O H σ D e s =>
  h H0 O H σ e _ fun v d H1 ⟨m, ed, qm⟩ r1 s1 => by
    subst ed
    have w := hs m qm H0 O H1 σ D (e.on r1) s
    rw [(Res.bo e s1).int']
    exact w
end
theorem fl_rows (A : List (List Int)) : flatAll (A.map tupD) = true := flatAll_mem fun d hd => by
  obtain ⟨r, _, rfl⟩ := List.mem_map.mp hd
  exact flatT r
end Lm
namespace Lm
open PySem PySem.Spec PyProof.Rows L2
theorem i_enumL' {c : Ct} {Γ : List (Option Rs)} {te : TE} {k : Kd} {ds : List PyData} {items : List Im} (h : Ev c te Γ k (.list ds)) (hk : k ≠ .b) (e : enumI ds = items) : EvI c (iEnumA c.K (tCons te tNil)) Γ true items := e ▸ i_enumLO h hk
end Lm
namespace Lm
open PySem PySem.Spec PyProof.Rows L2
end Lm
namespace Lm
open PySem PySem.Spec PyProof.Rows L2
end Lm
namespace Lm
open PySem PySem.Spec PyProof.Rows L2
theorem i_rng1' {c : Ct} {Γ : List (Option Rs)} {tr : TA} {kv : Bool} {n : Int} {m : Nat} (h : EvA c tr Γ kv [.int n]) (hn : n ≤ 1000000) (hn' : -1000000 ≤ n) (e : n.toNat = m) : EvI c (iRng1 tr) Γ true ((upI 0 m).map fun i => Im.d (.int i)) := e ▸ i_rng1 h hn hn'
end Lm


/-! lists that hold lists of one's own; any item of a list handed back; forms of any data -/
namespace Lm
open PySem PySem.Spec PyProof.Rows L2
section
variable {c : Ct} {H H' H0 H1 H2 H3 : Hp} {O : List Addr} {Γ Γ' Γ1 : List (Option Rs)}
variable {te ta tb tx : TE} {k ka kb kx : Kd} {d x y z : PyData} {ds es : List PyData} {u : TS} {P : Out → Prop} {n : Nat} {tr : TA} {i : Int}
/-- any item of a list handed in -/
def sp__law_pick (K : PySem.W.Frag) : Sp := fun vs H Q _ => ∃ (st l p : Addr) (xs : List V), vs = [.ref st, .ref p] ∧ Str1 K st l H ∧ SqL K H p xs ∧ p ≠ st ∧ 0 < xs.length ∧ xs.length ≤ 1000 ∧ ∀ (i : Nat) (v : V) (H' : Hp), xs[i]? = some v → Rr (sc K st l) H H' → Q v H'
end
/-- each value once -/
def dd : List Int → List Int
  | [] => []
  | n :: l => if n ∈ l then dd l else n :: dd l
end Lm
namespace Lm
open PySem PySem.Spec PyProof.Rows L2
section
variable {c : Ct} {Γ : List (Option Rs)} {t u w : TS} {P : Out → Prop}
end
end Lm
namespace Lm
open PySem PySem.Spec PyProof.Rows L2
theorem s_seqE {c : Ct} {Γ : List (Option Rs)} {t u : TS} {P : Out → Prop} (I : List (Option Rs) → Prop) (h : Sd c t Γ (fun o => ∃ Γ3, o = .nx Γ3 ∧ I Γ3)) (hd : ∀ Γ3, I Γ3 → Sd c u Γ3 P) : Sd c (tSeq t u) Γ P :=
  s_seq h (fun _ e => by obtain ⟨Γ3, e, i⟩ := e; cases e; exact hd _ i) (fun _ _ e => by obtain ⟨_, e, _⟩ := e; cases e) (fun _ e => by obtain ⟨_, e, _⟩ := e; cases e) (fun _ e => by obtain ⟨_, e, _⟩ := e; cases e)
end Lm


/-! defs that raise: promises with a second half -/
namespace Lm
open PySem PySem.Spec PyProof.Rows L2
section
variable {P : Program} {w : World} {K : PySem.W.Frag} {mg : Str → Option Value} {base : Heap} {k : Nat} {f : Addr} {fd : FuncData} {ps : List Str} {sp : Sp} {x : Str} {CX : CXT}
/-- what never raises does so in any context -/
theorem fn_up0 (F : FnOk P w K mg base CX0 k f fd ps sp) : FnOk P w K mg base CX k f fd ps sp :=
  ⟨F.len, fun A outer s H args us vs Q E hr he hb hv hs => codeAny_mono (F.run A outer s H args us vs Q E hr he hb hv hs) fun r s' h => by
    cases r with
    | ok fl => cases fl <;> exact h
    | error e => exact False.elim h⟩
theorem cal_up0 (F : Cal P w K mg base CX0 k x ps sp) : Cal P w K mg base CX k x ps sp := by
  obtain ⟨f, fd, F1, F2⟩ := F.ok
  exact ⟨f, fd, fn_up0 F1, F2⟩
end
/-- __init__ of an exception that keeps a text at x -/
def spIni (C : Addr) (x : Str) : Sp := fun vs H Q _ => ∃ (a : Addr) (nm : Str), vs = [.ref a, .str nm] ∧ nm.length ≤ 1000 ∧ H a = some (exo a C none) ∧ ∀ dx, H dx = none → dx ≠ a → Q .non (upd (upd H dx (exd dx [(x, .str nm)])) a (exo a C (some dx)))
/-- it holds, or the name is raised -/
def spReq (C : Addr) : Sp := fun vs H Q E => ∃ (b : Bool) (nm : Str), vs = [.bl b, .str nm] ∧ nm.length ≤ 1000 ∧ (b = true → Q .non H) ∧ (b = false → ∀ dx, H dx = none → E (.ref C) (some dx) (upd H dx (.xd [("name", .str nm)])))
theorem upd_end {H : Hp} {a dx : Addr} {o o2 o3 : HO} {u : HO} (ha : H a = none) (hd : dx ≠ a) : upd (del (upd (upd (upd H a o) dx o2) a o3) a) dx u = upd H dx u := by
  funext b
  by_cases h1 : b = dx
  · subst h1; rw [upd_same, upd_same]
  · rw [upd_ne h1, upd_ne h1]
    by_cases h2 : b = a
    · subst h2; rw [del_same, ha]
    · rw [del_ne h2, upd_ne h2, upd_ne h1, upd_ne h2]
/-- raise C(e) where e is a text -/
theorem mkO_req {C : Addr} {ta : TE} {σ : L2.St} {H : Hp} {Q : XK} {nm : Str} (hz : nm.length ≤ 1000) (h : ∀ Q' : VK, Q' (.str nm) H → ta σ H Q') (q : ∀ dx, H dx = none → Q (.ref C) (some dx) (upd H dx (.xd [("name", .str nm)]))) :
    tMkO C (spIni C "name") [] (tCons ta tNil) σ H Q := by
  refine h _ ⟨by simp, fun a ha => ⟨a, nm, rfl, hz, upd_same, fun dx hdx hne => ⟨rfl, dx, [("name", .str nm)], upd_same, ?_, ?_, ?_⟩⟩⟩
  · rw [upd_ne hne, upd_same]
  · rw [upd_ne hne] at hdx; exact hdx
  · rw [upd_ne hne] at hdx
    rw [upd_end ha hne]
    exact q dx hdx
end Lm
namespace Lm
open PySem PySem.Spec PyProof.Rows L2
section
variable {P : Program} {w : World} {K : PySem.W.Frag} {mg : Str → Option Value} {base : Heap} {k : Nat} {f : Addr} {fd : FuncData} {ps : List Str} {sp : Sp}
/-- nothing gets out of it -/
theorem fn_down0 (h : ∀ vs H Q E, sp vs H Q E → sp vs H Q E0) (F : FnOk P w K mg base (L2.CX P w) k f fd ps sp) : FnOk P w K mg base CX0 k f fd ps sp :=
  ⟨F.len, fun A outer s H args us vs Q E hr he hb hv hs => codeAny_mono (F.run A outer s H args us vs Q E0 hr he hb hv (h _ _ _ _ hs)) fun r s' h => by
    cases r with
    | ok fl => cases fl <;> exact h
    | error e =>
      obtain ⟨_, _, _, _, _, _, _, _, _, _, _, _, z⟩ := h
      exact z.elim⟩
end
end Lm
namespace Lm
open PySem PySem.Spec PyProof.Rows L2
section
variable {c : Ct} {H0 : Hp} {Γ : List (Option Rs)} {te : TE} {u : TS} {k : Kd} {d : PyData} {n : Nat}
/-- a body that ends in a raise: whatever stands behind -/
def SdX (c : Ct) (H0 : Hp) (t : TS) (Γ : List (Option Rs)) : Prop := ∀ O H σ D, Env c H0 O H σ Γ → t D σ H
theorem x_drop (h : Ev c te Γ k d) (p : SdX c H0 u Γ) : SdX c H0 (tSeq (tDrop te) u) Γ := fun O H σ D e => h H0 O H σ e _ fun v H2 r q => p O H2 σ D (e.on r)
theorem x_asg (h : Ev c te Γ .v d) (p : SdX c H0 u (Γ.set n (some (.v d)))) : SdX c H0 (tSeq (tAsg te (gName n)) u) Γ := fun O H σ D e => h H0 O H σ e _ fun v H2 r q => p _ H2 _ D ((e.on r).setV q)
end
end Lm


/-! __init__ of an exception class two below ValueError: super().__init__(..) and what stands behind it -/
namespace PySem.W
open PySem PySem.Calls PyProof.Rows PyProof.V PySem.Spec
theorem call_mwr {prog : Program} {w : World} {A : Around} {E : Value → Shared → Prop} {h : Heap} {g : Array GenState} {d : Drawn} {t : Nat} {os : OsState} {nm q : Str} {C N u e t0 : Addr} {bs bm bmB : List Value} {hdct : Bool} {sn : List Str} {sub : List Value} {ab : Bool} {col : Option Bool} {dd dv : Option Addr}
    {k0 k1 k2 k3 k5 : Option Value} {c2 : Value} {B newId i : String} {rest : List Value} {Q : Value → Shared → Prop} (FB : ExcBaseFacts B newId i bmB) (hC : h.get? C = some (excClassObj nm q C N bs bm hdct sn sub ab col dd k0 k1 k2 k3 k5 newId))
    (he : h.get? e = some (excObj C t0 dv c2)) (hu : h.get? u = some (kxs_mw i e)) (hz : rest.length ≤ sizeLine)
    (fin : ∀ h', (∀ b o, b ≠ e → h.get? b = some o → h'.get? b = some o) → h'.get? e = some (excObj C h.objs.size dv c2) → Q .none ⟨h', g, d, t, os⟩) : wpAny (model prog w) A (call (.ref u) rest) Q E ⟨h, g, d, t, os⟩ := by
  refine wpAny_call (codeAny_of_tree ?_)
  show wpAny _ A.in1 (callAny (.ref u) ⟨rest, []⟩) _ _ _
  simp only [callAny]
  refine wpAny_bind (wpAny_load hu ?_)
  simp only [kxs_mw, show (Value.type "method-wrapper" == Value.type "method" || Value.type "method-wrapper" == Value.type "builtin_function_or_method" || Value.type "method-wrapper" == Value.type "method-wrapper") = true by decide, if_true]
  refine KFB.if_so (by decide) ?_
  refine wpAny_bind (check_bound_init FB.toExcCallFacts hC he rfl ?_)
  refine wpAny_bind (wpAny_pure (wpAny_pure ?_))
  refine ⟨plainId_quiet FB.init.plain _, codeAny_builtin FB.initEntry ?_⟩
  exact exc_init_tree (cls := .ref C) (t0 := t0) (dv := dv) (c2 := c2) (c3 := .none) (b4 := .bool false) he hz fun h' k e' _ => fin h' k e'
end PySem.W
namespace Lm
open PySem PySem.Spec PyProof.Rows L2
/-- the context of such a def's body: the class's cell is free in it -/
def cxF (CX : CXT) (P : Program) (w : World) (K : PySem.W.Frag) (mg : Str → Option Value) (base : Heap) (N : List Str) (qual : Str) (scope : Scope) (f : Addr) (cd : Value) (cc : Addr) (A : Around) (outer : List PySem.Env) (s : Shared) (H : Hp) (E : XK) : Cx where
  prog := P
  w := w
  K := K
  mg := mg
  base := base
  A := A.deeper (PySem.W.ksEnv qual scope s.heap.objs.size f cd cc)
  N := N
  s_0 := s
  H_0 := H
  env := PySem.W.ksEnv qual scope s.heap.objs.size f cd cc
  outer := outer
  stack := PySem.W.ksEnv qual scope s.heap.objs.size f cd cc :: outer
  ex := []
  calm := true
  fn := fun _ => false
  pn := []
  xe := fun e s' => wpAny (model P w) (A.deeper (PySem.W.ksEnv qual scope s.heap.objs.size f cd cc)) (leaving (PySem.W.ksEnv qual scope s.heap.objs.size f cd cc) e) (fun _ s'' => CX outer H s E e s'') (fun e' s'' => CX outer H s E e' s'') s'
/-- its scope -/
structure IniScope (N P : List Str) (sc : Scope) : Prop where
  kind : sc.kind = .function
  co : sc.isCoroutine = false
  gen : sc.isGenerator = false
  nd : N.Nodup
  pre : N.take P.length = P
  par : ∀ x ∈ P, sc.names.lookup x = some .local
  nocell : ∀ y ∈ sc.names, y.2 ≠ .cell
  free : ∀ y ∈ sc.names, y.2 = .free → y.1 = "__class__"
  sup : sc.names.lookup ("super" : Str) = some .globalImplicit
  cls : sc.names.lookup ("__class__" : Str) = some .free
theorem lookup_mem : ∀ {l : List (Str × Value)} {x : Str} {v : Value}, (l.map (·.1)).Nodup → (x, v) ∈ l → l.lookup x = some v
  | [], _, _, _, h => nomatch h
  | (y, u) :: l, x, v, nd, h => by
    have nd' := List.nodup_cons.mp nd
    by_cases e : x = y
    · subst e
      rcases List.mem_cons.mp h with z | z
      · cases z; simp [List.lookup]
      · exact absurd (List.mem_map_of_mem (f := (·.1)) z) nd'.1
    · have e' : (x == y) = false := by simpa using e
      rcases List.mem_cons.mp h with z | z
      · cases z; exact absurd rfl e
      · simp only [List.lookup, e']
        exact lookup_mem nd'.2 z
theorem cell1 {x : Str} {c cc : Addr} (h : [(("__class__" : Str), cc)].lookup x = some c) : x = "__class__" ∧ c = cc := by
  by_cases e : x = "__class__"
  · subst e
    exact ⟨rfl, (Option.some.inj (by simpa [List.lookup] using h)).symm⟩
  · have e' : (x == ("__class__" : Str)) = false := by simpa using e
    simp [List.lookup, e'] at h
theorem inv_startF {CX : CXT} {P : Program} {w : World} {K : PySem.W.Frag} {mg : Str → Option Value} {base : Heap} {N ps : List Str} {qual : Str} {scope : Scope} {f cc : Addr} {cd : Value} {A : Around} {outer : List PySem.Env} {s : Shared} {h1 : Heap} {tk : Nat} {H : Hp} {E : XK} {us : List Value} {vs : List V} {cl : Value} {cld : Option Addr} {cv : Option Value} {csl : Array (Option Value)}
    (S : IniScope N ps scope) (hcell : K.lookup cc = some ⟨cl, cld, .cell cv, csl⟩) (hd : A.handled = none) (e0 : Env0 P w K mg base A outer s H) (hl : vs.length = ps.length) (r : Vals vs us)
    (hns : h1.Ns s.heap.objs.size (fun x => (ps.zip us).reverse.lookup x)) (hk : ∀ b o, s.heap.get? b = some o → h1.get? b = some o) :
    Inv (cxF CX P w K mg base N qual scope f cd cc A outer s H E) [] (L2.start N vs) H { s with heap := h1, toks := tk } := by
  have hpl : ps.length ≤ N.length := by have := congrArg List.length S.pre; rw [List.length_take] at this; omega
  have hb : base.get? cc = some ⟨cl, cld, .cell cv, csl⟩ := e0.mod.kin _ _ hcell
  have hs := e0.bs _ _ hb
  have noA : ∀ b : Addr, b ∉ (cxF CX P w K mg base N qual scope f cd cc A outer s H E).ex := fun b z => absurd (show b ∈ ([] : List Addr) from z) (by simp)
  refine ⟨⟨e0.mod, S.kind, rfl, rfl, Nat.le_refl _, fun y z c p q => ((cell1 p).1.trans (cell1 q).1.symm), fun y hy => ?_, fun y c z _ => (nomatch z), fun _ => hd, Around.frames_deeper e0.frames, .inr ⟨rfl, rfl⟩, fun b z => absurd z (noA b), e0.bs, e0.bsz, fun b _ _ => noA b, fun b z => absurd z (noA b), e0.funs, e0.frf⟩,
    rfl, e0.bare, Un.kept hk, ⟨_, hns, fun i y v p q z => ?_⟩, fun y c z => ?_, e0.hok.fresh (Nat.le_refl _), fun y c z => ?_, fun p hp => absurd (show p ∈ ([] : List (Addr × Obj)) from hp) (by simp), e0.hok.kept hk, ?_⟩
  · have hy : scope.names.lookup y = some .cell ∨ scope.names.lookup y = some .free := hy
    rcases hy with hy | hy
    · exact absurd rfl (S.nocell _ (PySem.mem_of_lookup hy))
    · have e := S.free _ (PySem.mem_of_lookup hy) rfl
      exact ⟨cc, by
        have e' : y = "__class__" := e
        subst e'
        show [(("__class__" : Str), cc)].lookup ("__class__" : Str) = some cc
        simp [List.lookup]⟩
  · have hi : i < vs.length := by
      unfold L2.start at q
      by_cases hi : i < vs.length
      · exact hi
      · rw [List.getElem?_append_right (by simpa using hi), List.getElem?_replicate] at q
        split at q <;> cases q
    have ha : vs[i]? = some v := by
      unfold L2.start at q
      rw [List.getElem?_append_left (by simpa using hi), List.getElem?_map] at q
      cases e : vs[i]? with
      | none => rw [e] at q; cases q
      | some a => rw [e] at q; cases q; rfl
    obtain ⟨u, hu, rv⟩ := r.get ha
    have hp : ps[i]? = some y := by
      rw [← S.pre, List.getElem?_take_of_lt (by omega)]; exact p
    have ndP : ps.Nodup := by rw [← S.pre]; exact S.nd.sublist (List.take_sublist _ _)
    have ml : (y, u) ∈ ps.zip us := by
      have : (ps.zip us)[i]? = some (y, u) := by rw [List.getElem?_zip_eq_some]; exact ⟨hp, hu⟩
      exact List.mem_of_getElem? this
    have lz : us.length = ps.length := by rw [← hl, Paired.length r]
    refine ⟨u, rv, .inl ⟨S.par y (List.mem_of_getElem? hp), lookup_mem ?_ (List.mem_reverse.mpr ml)⟩⟩
    rw [List.map_reverse, List.map_fst_zip (by omega)]
    exact (List.reverse_perm ps).nodup_iff.mpr ndP
  · obtain ⟨_, rfl⟩ := cell1 z
    exact ⟨cv, _, hk _ _ hs.1, rfl⟩
  · obtain ⟨_, rfl⟩ := cell1 z
    exact hs.2
  · unfold L2.start
    show _ = N.length
    rw [List.length_append, List.length_map, List.length_replicate]
    omega

theorem super_boot : bootBuiltins "super" = some (.type "super") := by first | rfl | decide +kernel
/-- THE RULE: super().__init__(e), then the rest of the body -/
theorem fn_super {CX : CXT} {P : Program} {w : World} {K : PySem.W.Frag} {mg : Str → Option Value} {base : Heap} {k : Nat} {f C cc cda : Addr} {name qual : Str} {params : Arguments} {scope : Scope} {dV kV doc pm ct oc : Value} {an od : Option Addr} {osl : Array (Option Value)} {N ps : List Str} {sp : Sp}
    {p0 p1 p2 p3 p4 : Pos} {e : Expr} {rest : List Stmt} {ar : Arg} {vs : Array Value} {file : Str} {tf : Tok} {ccl cl : Value} {cdd cld : Option Addr} {ccs csl : Array (Option Value)}
    (lk : K.lookup f = some ⟨oc, od, .func (PySem.W.ksFn name qual params (.Expr (.Call (.Attribute (.Call (.Name "super" p0) [] [] p1) "__init__" p2) [e] [] p3) p4 :: rest) scope dV kV doc pm an (.ref cda) ct cc), osl⟩)
    (hcd : PySem.W.codeIn K (.ref cda) qual = true) (S : IniScope N ps scope) (hp : (params.posonlyargs ++ params.args).head? = some ar) (h0 : ps[0]? = some ar.arg)
    (hcode : K.lookup cda = some ⟨ccl, cdd, .fields vs, ccs⟩) (hvs : vs[2]? = some (.str file tf)) (hfile : ((P.main.file : Str) == file) = true) (hcell : K.lookup cc = some ⟨cl, cld, .cell (some (.ref C)), csl⟩)
    (T : OexC K C) (hsuper : mg "super" = none) (hsub : PySem.W.subIn K (.ref C) (.type "ValueError") = some true) (hop : PySem.W.nsIn K cStatics "thirdparty.any" = some none)
    (hm : PySem.W.ks_superIn K C C "__init__" = some (some (.builtin "ValueError.__init__"))) (htop : (P.main.scope.names.lookup ("super" : Str)).isSome = false)
    (len : ∀ vs H Q E, sp vs H Q E → vs.length = ps.length)
    (hbody : ∀ (A : Around) (outer : List PySem.Env) (s : Shared) (H : Hp) (vs : List V) (Q : VK) (E : XK), Room k (A.deeper (PySem.W.ksEnv qual scope s.heap.objs.size f (.ref cda) cc)) → sp vs H Q E →
      ∃ (a : Addr) (ws : List V) (te : TE) (t : TS), vs = .ref a :: ws ∧ H a = some (exo a C none) ∧ PE (cxF CX P w K mg base N qual scope f (.ref cda) cc A outer s H E) e te ∧ PSs (cxF CX P w K mg base N qual scope f (.ref cda) cc A outer s H E) rest t ∧
        te (L2.start N vs) H fun _ H1 => H1 a = some (exo a C none) ∧ t { nx := fun _ H' => Q .non H', rt := Q } (L2.start N vs) H1)
    {pl : PySem.Env → Sem Bool}
    (hme : ∀ env : PySem.Env, eval (.Call (.Attribute (.Call (.Name "super" p0) [] [] p1) "__init__" p2) [e] [] p3) env = (do
      let ov ← attributeBase (.Call (.Name "super" p0) [] [] p1) "__init__" env (eval (.Call (.Name "super" p0) [] [] p1) env)
      standAt p2.atName
      let (f, first) ← holding [ov] (getMethod ov "__init__" (pl env))
      callWith p3 f first (backTo p3 (starEach [e] env)) []) := by intro env; rfl)
    (he : ∀ env : PySem.Env, starEach [e] env = [(false, eval e env)] := by intro env; rfl) :
    FnOk P w K mg base CX (k + 1) f (PySem.W.ksFn name qual params (.Expr (.Call (.Attribute (.Call (.Name "super" p0) [] [] p1) "__init__" p2) [e] [] p3) p4 :: rest) scope dV kV doc pm an (.ref cda) ct cc) ps sp := by
  refine ⟨len, fun A outer s H args us vs Q E hr e0 hb r hsp => ?_⟩
  have hl := len _ _ _ _ hsp
  have KX : K.In s.heap := e0.mod.kin.keeps fun b o e => (e0.bs b o e).1
  have lim : s.heap.NoLimit := e0.mod.nolimit.keeps fun b o e => (e0.bs b o e).1
  refine ks_codeAny_call_defAt (fd := PySem.W.ksFn name qual params (.Expr (.Call (.Attribute (.Call (.Name "super" p0) [] [] p1) "__init__" p2) [e] [] p3) p4 :: rest) scope dV kV doc pm an (.ref cda) ct cc) (binds := ps.zip us) hr.depth (KX _ _ lk) rfl lim (PySem.W.codeRec_of KX hcd) rfl hb S.nocell
    (fun y hy => S.par _ (List.of_mem_zip (a := y.1) (b := y.2) hy).1) (fun h1 hns hk => ?_) S.co S.gen S.kind
  obtain ⟨a, ws, te, t, ev, ha, hpe, hps, hq⟩ := hbody A outer s H vs Q E (hr.deeper _) hsp
  have I := inv_startF (CX := CX) (w := w) (mg := mg) (qual := qual) (f := f) (cd := .ref cda) (tk := s.toks + (ps.zip us).length) (E := E) S hcell hr.hd e0 hl r hns hk
  show PySem.wpAt (model P w) (A.deeper (PySem.W.ksEnv qual scope s.heap.objs.size f (.ref cda) cc)) (.func _ (PySem.W.ksEnv qual scope s.heap.objs.size f (.ref cda) cc)) (execs _ (PySem.W.ksEnv qual scope s.heap.objs.size f (.ref cda) cc)) _ _ _
  refine ks_wpAt_execs_cons (ks_wpAt_Expr_any (ks_wpAt_MethodCall ?_ (hme _)) I.quiet (by rfl))
  obtain ⟨t1, hoe⟩ := exo_at e0.hok ha
  obtain ⟨nm, qn, Nn, bs, bm, sn, sub, ab, col, dd, k0, k1, k2, k3, k5, hC, hbm⟩ := T.cls
  have hcl : PySem.W.clsIn K C = some { name := nm, bases := bs, mro := .ref C :: bm, ns := Nn, qualname := qn, hasDict := true, slotNames := sn, subclasses := sub, abstract := ab, collection := col, hasDel := false } := by unfold PySem.W.clsIn; rw [hC] <;> rfl
  have hmro : PySem.W.mroIn K C (.ref C) = some true := by
    unfold PySem.W.mroIn
    rw [hcl, Option.bind_some, if_neg (show ¬ (List.isEmpty (Value.ref C :: bm) = true) from Bool.false_ne_true)]
    simp
  have KI := I.kIn
  have hsf : N[0]? = some ar.arg := by
    have h1 : ps.length ≠ 0 := fun z => by rw [List.length_eq_zero_iff.mp z] at h0; cases h0
    rw [← S.pre, List.getElem?_take_of_lt (by omega)] at h0
    exact h0
  have hk0 := S.par _ (List.mem_of_getElem? h0)
  refine ks_wpAt_super_base (env := PySem.W.ksEnv qual scope s.heap.objs.size f (.ref cda) cc) S.sup S.cls (by decide) rfl (KI _ _ lk) rfl hp rfl (KI _ _ hcode) rfl hvs hfile htop ?_
  obtain ⟨mb, b1, b2⟩ := I.mod.blt
  refine PySem.W.ks_loadName_global S.kind S.sup (Calls.loadGlobal_builtin (env := PySem.W.ksEnv qual scope s.heap.objs.size f (.ref cda) cc) (I.mod.glob.keeps I.bk) hsuper (b1.keeps I.bk) ((b2 _ (by decide)).trans super_boot) ⟨rfl, ?_⟩)
  refine wpAny_loadName_free S.kind S.cls rfl ⟨_, KI _ _ hcell, rfl⟩ ?_
  obtain ⟨m, hn, hlk⟩ := I.loc
  have hself : m ar.arg = some (.ref a) := by
    obtain ⟨u, ru, l⟩ := hlk 0 ar.arg (.ref a) hsf (by rw [ev]; rfl) (.inl hk0)
    obtain rfl : u = Value.ref a := ru
    rcases l with l | ⟨l, _⟩
    · exact l.2
    · have l' : scope.names.lookup ar.arg = some .cell ∨ scope.names.lookup ar.arg = some .free := l
      rw [hk0] at l'
      rcases l' with z | z <;> cases z
  refine wpAny_loadName_local S.kind hk0 hn hself ?_
  refine ks_wpAny_isType_cls (KI _ _ hC) rfl ⟨rfl, ?_⟩
  refine ks_wpAny_call_super (KI _ _ hC) rfl (hk _ _ hoe) rfl (fun c z => by cases z) (PySem.W.looks_mroIn KI hmro) (fun h2 e2 kk2 => ?_)
  have I2 := I.kept (t' := s.toks + (ps.zip us).length) kk2
  have KI2 := I2.kIn
  have hxC : a ≠ C := fun z => by
    have := (I2.bs C _ (e0.mod.kin _ _ hC)).2
    rw [← z, ha] at this
    cases this
  have hI : PySem.W.InstAt h2 a _ C none := ⟨kk2 _ _ (hk _ _ hoe), rfl, rfl, trivial⟩
  unfold PySem.W.ks_superIn at hm
  rw [hcl] at hm
  refine PySem.W.kxs_getMethod PySem.W.kxs_ValueError e2 (PySem.W.looks_opaque KI2 hop) (l₀ := .ref C :: bm) (fun A Q E s k q => wpAny_bind ((PySem.W.looks_clsIn KI2 hcl) A _ E s k (wpAny_pure q))) rfl KI2 hm (hI.type.andThen (PySem.W.looks_subIn KI2 hsub)) hxC (by decide) ?_
  have hu : (h2.push (PySem.W.kxs_mw "ValueError.__init__" a)).get? h2.objs.size = some (PySem.W.kxs_mw "ValueError.__init__" a) := Heap.get?_push_at rfl rfl
  have I3 := I2.kept (h' := h2.push (PySem.W.kxs_mw "ValueError.__init__" a)) (t' := s.toks + (ps.zip us).length + 1) (fun b o z => Heap.get?_push_of_some _ z)
  have I4 := I3.pins_of (pins' := [(h2.objs.size, PySem.W.kxs_mw "ValueError.__init__" a)]) (fun p hp => by
    have ep : p = (h2.objs.size, PySem.W.kxs_mw "ValueError.__init__" a) := by simpa using hp
    subst ep
    refine ⟨hu, I2.hok.fresh (Nat.le_refl _), fun z => ?_, I2.nofs (Nat.le_refl _), fun v z => by cases z⟩
    have y := I2.lt
    rw [← z] at y
    exact Nat.lt_irrefl _ y)
  show PySem.wpAny _ _ (callWith p3 (.ref h2.objs.size) [] (backTo p3 (starEach [e] (PySem.W.ksEnv qual scope s.heap.objs.size f (.ref cda) cc))) []) _ _ _
  rw [he]
  refine PySem.W.kxs_callWith (i := "ValueError.__init__") (x := a) rfl (Calls.evalArgs_plain ?_)
  refine Calls.spliced_cons (thn (hpe.run _ _ _ _ _ I4 hq) fun u1 s1 ⟨x, H1, I5, r1, ea, q1⟩ => Calls.spliced_nil ⟨(I5.pin (h2.objs.size, PySem.W.kxs_mw "ValueError.__init__" a) (List.mem_append_right _ (by simp))).1, ?_⟩)
  obtain ⟨hp', g, d, tk, os⟩ := s1
  obtain ⟨t2, ho⟩ := exo_at I5.hok ea
  refine PySem.W.call_mwr F.excBase_ValueError (I5.kIn _ _ hC) ho (I5.pin (h2.objs.size, PySem.W.kxs_mw "ValueError.__init__" a) (List.mem_append_right _ (by simp))).1 (by show 1 ≤ sizeLine; rw [sizeLine_eq]; omega) (fun h' k' e' => ?_)
  have J := I5.write (t' := tk) (x := a) (e := a) (o := exo a C none) (by rw [ea]; exact True.intro) (.inl rfl) k' ⟨_, e'⟩ (exo_ok e')
  have eu : upd H1 a (exo a C none) = H1 := by
    funext b
    by_cases hb : b = a
    · rw [hb, upd_same, ea]
    · rw [upd_ne hb]
  rw [eu] at J
  have J0 := J.pins_of (pins' := []) (fun p hp => by simp at hp)
  refine wpAt_of_wpAny (wpAny_mono (hps.run [] _ _ _ _ J0 q1) (fun fl s' hs => ?_) fun e s' hs => hs)
  cases fl with
  | ret u =>
    obtain ⟨v, σ', H', J, rv, q⟩ := hs
    exact ⟨v, H', J.os, J.bare, J.base, J.hok, rv, q⟩
  | next =>
    obtain ⟨σ', H', J, q⟩ := hs
    exact ⟨V.non, H', J.os, J.bare, J.base, J.hok, rfl, q⟩
  | brk =>
    obtain ⟨_, _, _, q⟩ := hs
    exact False.elim q
  | cont =>
    obtain ⟨_, _, _, q⟩ := hs
    exact False.elim q

theorem exm_self {K : PySem.W.Frag} {C : Addr} {cd : ClassData} (xb : PySem.W.subIn K (.ref C) (.type "BaseException") = some true) (hc : PySem.W.clsIn K C = some cd) (xt : PySem.W.typeIn K (.ref C) = some (.type "type")) (hs : PySem.W.subIn K (.ref C) (.ref C) = some true) :
    PySem.W.exmOne K (.ref C) (.ref C) = some true := by
  unfold PySem.W.exmOne PySem.W.kitCls
  rw [if_pos (by rw [xb]; rfl)]
  show (if ((PySem.W.clsIn K C).isSome && PySem.W.typeIn K (.ref C) == some (.type "type")) = true then PySem.W.subIn K (.ref C) (.ref C) else none) = some true
  rw [hc, xt, hs]
  rfl
/-- what is known of an exception class that keeps a text -/
structure Exc1 (P : Program) (w : World) (K : PySem.W.Frag) (mg : Str → Option Value) (base : Heap) (cls fld : Str) (C : Addr) : Prop where
  O : OexC K C
  X : XfC K C
  hC : mg cls = some (.ref C)
  no : PySem.W.findIn K (.ref C) fld = some none
  exm : PySem.W.exmOne K (.ref C) (.ref C) = some true
  ini : ∃ fI fdI, PySem.W.findIn K (.ref C) "__init__" = some (some (.ref fI)) ∧ PySem.W.typeIn K (.ref fI) = some (.type "function") ∧ FnOk P w K mg base (L2.CX P w) 1 fI fdI ["self", fld] (spIni C fld) ∧ Binds K fdI ["self", fld] []
/-- the readings of such an __init__ -/
theorem run_ini {K : PySem.W.Frag} {C a : Addr} {pre fld nm : Str} {σ : L2.St} {H : Hp} {Q : VK} {D : Ends} (hp : pre.length ≤ 1000) (hz : nm.length ≤ 1000) (O : OexC K C) (hno : PySem.W.findIn K (.ref C) fld = some none) (s0 : σ[0]? = some (some (.ref a))) (s1 : σ[1]? = some (some (.str nm)))
    (ha : H a = some (exo a C none)) (hq : ∀ dx, H dx = none → dx ≠ a → D.nx σ (upd (upd H dx (exd dx [(fld, .str nm)])) a (exo a C (some dx)))) :
    tJs [tC (.str pre), tFmt (tVar 1)] Str.empty σ H fun out H1 => H1 a = some (exo a C none) ∧ tOst K fld (tVar 0) (tVar 1) D σ H1 := by
  have e0 : Str.empty.length = 0 := by decide
  refine ⟨pre, rfl, ?_, .str nm, s1, .inl ⟨nm, rfl, ?_, nm, rfl, ?_, ha, .str nm, s1, .ref a, s0, a, C, rfl, O, hno, .inl ⟨ha, hq⟩⟩⟩
  · rw [PySem.Str.length_append, sizeLine_eq]; omega
  · rw [sizeLine_eq]; omega
  · rw [PySem.Str.length_append, PySem.Str.length_append, sizeLine_eq]; omega
end Lm


/-! tuple * int, any int from 0 on -/
namespace L2
open PySem PySem.Spec PyProof.Rows
end L2
namespace Lm
open PySem PySem.Spec PyProof.Rows L2
section
variable {X : Cx}
end
end Lm
namespace Lm
open PySem PySem.Spec PyProof.Rows L2
section
variable {X : Cx} {K : PySem.W.Frag} (hK : X.K = K)
include hK
end
section
variable {c : Ct} {Γ : List (Option Rs)} {ta tb : TE} {ka kb : Kd} {ds : List PyData} {i : Int}
end
end Lm


/-! readings that the intervals want -/
namespace Lm
open PySem PySem.Spec PyProof.Rows L2
theorem Asg.up {ns : List Int} {v w : Int} (h : Asg ns v) (hw : v ≤ w) : Asg ns w := ⟨h.len, fun n hn => ⟨(h.rng n hn).1, by have := (h.rng n hn).2; omega⟩⟩
section
variable {c : Ct} {H H' H0 H1 H2 H3 : Hp} {O : List Addr} {Γ Γ' Γ1 : List (Option Rs)}
variable {te ta tb tx ty : TE} {k ka kb kc : Kd} {d x y z : PyData}
end
end Lm


/-! all assignments of an allocation, in order; the one whose places ascend -/
namespace Lm
open PySem PySem.Spec PyProof.Rows L2
theorem nodup_sub {α : Type} [DecidableEq α] : ∀ {l m : List α}, l.Nodup → (∀ x ∈ l, x ∈ m) → l.length ≤ m.length
  | [], _, _, _ => Nat.zero_le _
  | a :: l, m, nd, h => by
    have nd' := List.nodup_cons.mp nd
    have ha := h a (by simp)
    have ih := nodup_sub (m := m.erase a) nd'.2 fun x hx => (List.mem_erase_of_ne (fun z => nd'.1 (by rw [← z]; exact hx))).mpr (h x (by simp [hx]))
    rw [List.length_erase_of_mem ha] at ih
    have := List.length_pos_of_mem ha
    simp only [List.length_cons]; omega
section
variable {c : Ct} {Γ : List (Option Rs)} {te : TE} {k : Kd}
end
end Lm


/-! t[::-1] of a tuple -/
namespace HT
open PySem PySem.W PySem.Calls PyProof.Rows
end HT
namespace Lm
open PySem PySem.Spec PyProof.Rows L2
section
variable {prog : Program} {w : World} {A : Around} {E : Value → Shared → Prop} {s : Shared}
end
section
variable {c : Ct} {Γ : List (Option Rs)} {te : TE} {ds : List PyData}
end
end Lm


/-! itertools.combinations(range(n), k), walked -/
namespace CmbK
open PySem PySem.Spec PyProof.Rows L2
end CmbK


/-! itertools.combinations(range(n), k): made, its turns -/
namespace CmbK
open PySem PySem.Spec PyProof.Rows L2
end CmbK


/-! itertools.combinations: its turns -/
namespace CmbK
open PySem PySem.Spec PyProof.Rows L2
section
variable {prog : Program} {w : World} {A : Around} {E : Value → Shared → Prop} {s : Shared} {it T : Addr} {bf : Value} {ks : List Nat} {xs : Array Value}
end
end CmbK


/-! the places that combinations hands out -/
namespace Lm
open PySem PySem.Spec PyProof.Rows L2 CmbK
def cmbL : List Nat → Nat → List (List Nat)
  | _, 0 => [[]]
  | [], _ + 1 => []
  | a :: l, k + 1 => (cmbL l k).map (a :: ·) ++ cmbL l (k + 1)
def cmbs (n k : Nat) : List (List Nat) := cmbL (List.range n) k
/-- the pairs, the first place first -/
def pairL (n : Nat) : List (List Nat) := (List.range n).flatMap fun i => (List.range (n - (i + 1))).map fun d => [i, i + 1 + d]
end Lm


/-! families of shares: the promises -/
namespace Lm
open PySem PySem.Spec PyProof.Rows L2
/-- a share of each variant but the control -/
structure Shr (r : List Int) (v : Int) : Prop where
  len : (r.length : Int) = v - 1
  nn : ∀ x ∈ r, 0 ≤ x
  sum : r.sum ≤ 10
structure Fam (F : List (List Int)) (v : Int) : Prop where
  v1 : 1 ≤ v
  v5 : v ≤ 5
  l1 : 1 ≤ F.length
  l5 : F.length ≤ 5
  shr : ∀ r ∈ F, Shr r v
/-- lists of different buckets below b, one for each of v variants -/
structure Lsts (L : List (List Int)) (v b : Int) : Prop where
  len : (L.length : Int) = v
  v4 : v ≤ 1000
  rng : ∀ r ∈ L, ∀ x ∈ r, 0 ≤ x ∧ x < b
  nd : ∀ r ∈ L, r.Nodup
  small : ∀ r ∈ L, r.length ≤ 1000
theorem Shr.le {r : List Int} {v : Int} (h : Shr r v) : ∀ x ∈ r, x ≤ 10 := fun x hx => by
  have := le_sum h.nn x hx
  have := h.sum
  omega
end Lm


/-! which lists serve which shares -/
namespace Lm
open PySem PySem.Spec PyProof.Rows L2
variable {L F : List (List Int)} {r s : List Int} {v b : Int}
/-- what of a list is used -/
def hdL (L : List (List Int)) (r : List Int) (i : Nat) : List Int := (L.getD i []).take (r.getD i 0).toNat
/-- long enough, and none twice -/
def OkF (L : List (List Int)) (r : List Int) : Prop := (∀ i < r.length, r.getD i 0 ≤ ((L.getD i []).length : Int)) ∧ ∀ i j, i < j → j < r.length → ∀ x ∈ hdL L r i, x ∉ hdL L r j
/-- the shares that are allowed -/
def AllF (F : List (List Int)) (s : List Int) : Prop := ∃ r ∈ F, s.length = r.length ∧ ∀ i < s.length, 0 ≤ s.getD i 0 ∧ s.getD i 0 ≤ r.getD i 0
end Lm


/-! == of plain data, forms of data, a drawn test behind a plain one -/
namespace Lm
open PySem PySem.Spec PyProof.Rows L2
/-- data of a depth of at most n, all of it to be compared -/
def Sh (n : Nat) (d : PyData) : Prop := d.canLay0 = true ∧ d.depth ≤ n
theorem Sh.ok {n : Nat} {d : PyData} (h : Sh n d) (hn : n ≤ 64) : SeqAt.shaped d = true := by
  unfold SeqAt.shaped
  rw [h.1, decide_eq_true (by have := h.2; omega)]
  rfl
theorem Sh.up {n m : Nat} {d : PyData} (h : Sh n d) (hn : n ≤ m) : Sh m d := ⟨h.1, Nat.le_trans h.2 hn⟩
section
variable {c : Ct} {Γ : List (Option Rs)} {ta tb : TE} {tt tu : TT} {ka kb : Kd} {d e : PyData} {a : Bool}
end
end Lm


/-! in and not in over tuples or lists of data -/
namespace Lm
open PySem PySem.Spec PyProof.Rows L2
section
variable {X : Cx}
variable {K : PySem.W.Frag} (hK : X.K = K)
include hK
end
section
variable {c : Ct} {Γ : List (Option Rs)} {ta tb : TE} {ka kb : Kd} {d : PyData} {ds : List PyData} {r : List Int} {P : List (List Int)} {neg : Bool}
end
section
variable {c : Ct} {Γ : List (Option Rs)} {tr : TA} {kv : Bool} {n m lo : Nat} {a : Im}
end
/-! ### plans -/
/-! bad triples -/
def castL (ks : List Nat) : List Int := ks.map fun (i : Nat) => (i : Int)
end Lm


/-! rules: the mathematics -/
namespace Lm
open PySem PySem.Spec PyProof.Rows L2
abbrev Pr := List Int × List Int
/-- an allocation and an assignment of it -/
structure OkP (p : Pr) (v b : Int) : Prop where
  alc : Alc p.1 v b
  len : (p.2.length : Int) = b
  rng : ∀ x ∈ p.2, 0 ≤ x ∧ x < v
  cnt : countsI p.2 v = p.1
theorem OkP.asg {p : Pr} {v b : Int} (h : OkP p v b) (hb : b ≤ 20) : Asg p.2 v := ⟨by have := h.len; omega, h.rng⟩
/-- a bucket leaves needlessly -/
def leftB (p q : Pr) (i : Nat) : Bool := !decide (p.2.getD i 0 = 0) && (!decide (q.2.getD i 0 = p.2.getD i 0) && decide (p.1.getD (p.2.getD i 0).toNat 0 ≤ q.1.getD (p.2.getD i 0).toNat 0))
/-! the first of three places -/
/-! lists give the variants their buckets -/
theorem getD_setI {r : List Int} {i j : Nat} {x : Int} (hi : i < r.length) : (r.set i x).getD j 0 = if i = j then x else r.getD j 0 := by
  simp only [List.getD_eq_getElem?_getD, List.getElem?_set]
  split
  · rename_i h
    subst h
    simp [hi]
  · rfl
theorem gL_mem {Ls : List (List Int)} {i : Nat} (h : i < Ls.length) : Ls.getD i [] ∈ Ls := by
  rw [List.getD_eq_getElem?_getD, List.getElem?_eq_getElem h]
  exact List.getElem_mem h
/-- how often a number stands in a list: at so many places -/
theorem count_places (r : List Int) (x : Int) : r.count x = ((List.range r.length).filter fun i => decide (r.getD i 0 = x)).length := by
  induction r with
  | nil => rfl
  | cons a r ih =>
    rw [List.length_cons, List.range_succ_eq_map, List.filter_cons]
    have e : ((List.range r.length).map Nat.succ).filter (fun i => decide ((a :: r).getD i 0 = x)) = ((List.range r.length).filter fun i => decide (r.getD i 0 = x)).map Nat.succ := by
      rw [List.filter_map]
      congr 1
    rw [List.count_cons, e, ih]
    by_cases h : a = x
    · subst h; simp
    · simp [h]
end Lm


/-! drawn assignments of an allocation; drawn tests -/
namespace Lm
open PySem PySem.Spec PyProof.Rows L2
structure Drw (as : List Int) (lf acc : List Int) (n : Nat) : Prop where
  len : lf.length = as.length
  al : acc.length = n
  nn : ∀ x ∈ lf, 0 ≤ x
  rng : ∀ x ∈ acc, 0 ≤ x ∧ x < (as.length : Int)
  cnt : ∀ i < as.length, (acc.count (i : Int) : Int) + lf.getD i 0 = as.getD i 0
  sum : lf.sum + (n : Int) = as.sum
theorem sum_setX : ∀ {l : List Int} {i : Nat} {x : Int}, i < l.length → (l.set i x).sum = l.sum - l.getD i 0 + x
  | [], _, _, h => by simp at h
  | a :: l, 0, x, _ => by simp only [List.set_cons_zero, List.sum_cons, List.getD_cons_zero]; omega
  | a :: l, i + 1, x, h => by
    have := sum_setX (l := l) (i := i) (x := x) (by simpa using h)
    simp only [List.set_cons_succ, List.sum_cons, List.getD_cons_succ]
    omega
theorem Drw.step {as lf acc : List Int} {n i : Nat} (h : Drw as lf acc n) (hi : i < as.length) (hp : 0 < lf.getD i 0) : Drw as (lf.set i (lf.getD i 0 - 1)) (acc ++ [(i : Int)]) (n + 1) := by
  have hl := h.len
  refine ⟨by simpa using hl, by simp [h.al], fun x hx => ?_, fun x hx => ?_, fun j hj => ?_, ?_⟩
  · rcases List.mem_or_eq_of_mem_set hx with w | w
    · exact h.nn x w
    · omega
  · rcases List.mem_append.mp hx with w | w
    · exact h.rng x w
    · rw [List.mem_singleton.mp w]; omega
  · have hc := h.cnt j hj
    rw [getD_setI (by omega), List.count_append]
    by_cases e : i = j
    · subst e
      have c1 : List.count (i : Int) [(i : Int)] = 1 := by simp
      rw [if_pos rfl, c1]
      omega
    · have c1 : List.count (j : Int) [(i : Int)] = 0 := List.count_eq_zero_of_not_mem (by simp; omega)
      rw [if_neg e, c1]
      omega
  · rw [sum_setX (by omega)]
    have := h.sum
    omega
section
variable {c : Ct} {Γ : List (Option Rs)} {te ta tb : TE} {tt tu : TT} {k ka kb : Kd} {a : Bool} {P : Out → Prop} {n : Nat}
end
end Lm


/-! two places exchanged; drawn changes; which pairs a table keeps -/
namespace Lm
open PySem PySem.Spec PyProof.Rows L2
section
variable {c : Ct} {H H0 : Hp} {O : List Addr} {σ : L2.St} {Γ : List (Option Rs)} {te ta tb tx ty : TE} {k ka kb kc : Kd} {P : Out → Prop} {n m : Nat} {i j x y : Int} {ns : List Int} {u : TS}
end
/-- drawn steps from one assignment to one of another allocation -/
structure Chg (A B g : List Int) (v : Int) (n : Nat) (t : Int) : Prop where
  rng : ∀ x ∈ g, 0 ≤ x ∧ x < v
  len : (g.length : Int) = B.sum
  up : ∀ x : Nat, (x : Int) < v → A.getD x 0 ≤ B.getD x 0 → (g.count (x : Int) : Int) ≤ B.getD x 0
  dn : ∀ x : Nat, (x : Int) < v → B.getD x 0 < A.getD x 0 → (g.count (x : Int) : Int) = if x < n then B.getD x 0 else if x = n then A.getD x 0 - t else A.getD x 0
section
variable {A B g : List Int} {v b : Int} {n : Nat} {t : Int}
theorem Chg.step (h : Chg A B g v n t) (ht : 0 ≤ t ∧ t < A.getD n 0 - B.getD n 0) (hn : (n : Int) < v) {p x : Nat} (hp : p < g.length) (hg : g.getD p 0 = (n : Int)) (hx : (x : Int) < v) (hw : (g.count (x : Int) : Int) < B.getD x 0) : Chg A B (g.set p (x : Int)) v n (t + 1) := by
  have cn := h.dn n hn (by omega)
  rw [if_neg (by omega), if_pos rfl] at cn
  have nx : x ≠ n := fun e => by subst e; omega
  have e1 : g[p] = (n : Int) := by rw [← hg]; simp [List.getD_eq_getElem?_getD, hp]
  have pos : 1 ≤ g.count (n : Int) := List.count_pos_iff.mpr (e1 ▸ List.getElem_mem hp)
  have cnt : ∀ y : Nat, ((g.set p (x : Int)).count (y : Int) : Int) = (g.count (y : Int) : Int) - (if y = n then 1 else 0) + (if y = x then 1 else 0) := fun y => by
    rw [List.count_set hp, e1]
    by_cases h1 : y = n
    · subst h1
      have : ¬ (x : Int) = (y : Int) := by omega
      simp [this, show ¬ y = x by omega]
      omega
    · by_cases h2 : y = x
      · subst h2
        have : ¬ (n : Int) = (y : Int) := by omega
        simp [this, h1]
      · have a1 : ¬ (n : Int) = (y : Int) := by omega
        have a2 : ¬ (x : Int) = (y : Int) := by omega
        simp [a1, a2, h1, h2]
  refine ⟨fun z hz => ?_, by simpa using h.len, fun y hy hd => ?_, fun y hy hd => ?_⟩
  · rcases List.mem_or_eq_of_mem_set hz with w | w
    · exact h.rng z w
    · omega
  · have := h.up y hy hd
    rw [cnt y]
    by_cases h1 : y = n
    · subst h1; omega
    · by_cases h2 : y = x
      · subst h2; rw [if_neg h1, if_pos rfl]; omega
      · rw [if_neg h1, if_neg h2]; omega
  · have hc := h.dn y hy hd
    have y2 : y ≠ x := fun e => by
      subst e
      rw [hc] at hw
      by_cases q : y < n
      · rw [if_pos q] at hw; omega
      · rw [if_neg q, if_neg nx] at hw; omega
    rw [cnt y, hc, if_neg y2]
    by_cases h1 : y = n
    · subst h1
      rw [if_neg (by omega), if_pos rfl, if_pos rfl, if_neg (by omega), if_pos rfl]
      omega
    · rw [if_neg h1]
      simp only [if_neg h1]
      omega
end
/-! which pairs a table keeps -/
end Lm


/-! which buckets fit: the mathematics -/
namespace Lm
open PySem PySem.Spec PyProof.Rows L2
abbrev Pk := Nat → Bool
/-- all its own are among the chosen -/
def insP (p : Pk) (own : List Int) : Bool := own.all fun y => p y.toNat
def rmP (as : List Int) (p : Pk) : Int := ((List.range as.length).map fun x => if p x then as.getD x 0 else 0).sum
def cfP (C : List (List Int)) (p : Pk) : Int := ((C.filter (insP p)).length : Nat)
def Hall (as : List Int) (C : List (List Int)) : Prop := ∀ p : Pk, cfP C p ≤ rmP as p
def dcI (x : Int) (as : List Int) : List Int := as.set x.toNat (as.getD x.toNat 0 - 1)
theorem dcI_len {x : Int} {as : List Int} : (dcI x as).length = as.length := by simp [dcI]
def b1 (b : Bool) : Int := if b then 1 else 0
theorem cf_cons {own : List Int} {C : List (List Int)} {p : Pk} : cfP (own :: C) p = cfP C p + b1 (insP p own) := by
  unfold cfP b1
  rw [List.filter_cons]
  split <;> simp
theorem cf_nn {C : List (List Int)} {p : Pk} : 0 ≤ cfP C p := by unfold cfP; omega
theorem sum_upd {g h : Nat → Int} : ∀ {n x : Nat}, x < n → (∀ i < n, i ≠ x → h i = g i) → ((List.range n).map h).sum = ((List.range n).map g).sum - g x + h x
  | n + 1, x, hx, e => by
    rw [List.range_succ, List.map_append, List.map_append, List.sum_append, List.sum_append]
    simp only [List.map_cons, List.map_nil, List.sum_cons, List.sum_nil]
    by_cases q : x = n
    · subst q
      have : (List.range x).map h = (List.range x).map g := List.map_congr_left fun i hi => e i (by have := List.mem_range.mp hi; omega) (by have := List.mem_range.mp hi; omega)
      rw [this]
      omega
    · have := sum_upd (n := n) (x := x) (g := g) (h := h) (by omega) fun i hi hn => e i (by omega) hn
      rw [this, e n (by omega) (fun z => q z.symm)]
      omega
theorem rm_dec {x : Int} {as : List Int} (hx : 0 ≤ x ∧ x < as.length) (p : Pk) : rmP (dcI x as) p = rmP as p - b1 (p x.toNat) := by
  unfold rmP
  rw [dcI_len]
  have xl : x.toNat < as.length := by omega
  have s : ∀ i, (dcI x as).getD i 0 = if x.toNat = i then as.getD x.toNat 0 - 1 else as.getD i 0 := fun i => getD_setI xl
  rw [sum_upd (g := fun i => if p i then as.getD i 0 else 0) xl fun i hi hn => by
    have e : (dcI x as).getD i 0 = as.getD i 0 := by rw [s, if_neg (fun z => hn z.symm)]
    rw [e]]
  rw [s, if_pos rfl]
  unfold b1
  split <;> omega
theorem rm_or (as : List Int) (p q : Pk) : rmP as (fun x => p x || q x) + rmP as (fun x => p x && q x) = rmP as p + rmP as q := by
  have e : ∀ (a c : Bool) (n : Int), (if (a || c) = true then n else 0) + (if (a && c) = true then n else 0) = (if a = true then n else 0) + (if c = true then n else 0) := fun a c n => by cases a <;> cases c <;> simp
  unfold rmP
  generalize List.range as.length = l
  induction l with
  | nil => rfl
  | cons x l ih =>
    have h1 := e (p x) (q x) (as.getD x 0)
    simp only [List.map_cons, List.sum_cons]
    simp only at ih
    omega
theorem ins_or {p q : Pk} {own : List Int} : insP p own = true → insP (fun x => p x || q x) own = true := fun h => by
  unfold insP at *
  rw [List.all_eq_true] at *
  intro y hy
  show (p y.toNat || q y.toNat) = true
  rw [h y hy]; rfl
theorem ins_or' {p q : Pk} {own : List Int} : insP q own = true → insP (fun x => p x || q x) own = true := fun h => by
  unfold insP at *
  rw [List.all_eq_true] at *
  intro y hy
  show (p y.toNat || q y.toNat) = true
  rw [h y hy, Bool.or_true]
theorem ins_and {p q : Pk} {own : List Int} : insP (fun x => p x && q x) own = (insP p own && insP q own) := by
  unfold insP
  induction own with
  | nil => rfl
  | cons y l ih =>
    simp only [List.all_cons, ih]
    cases p y.toNat <;> cases q y.toNat <;> simp
theorem cf_or (C : List (List Int)) (p q : Pk) : cfP C p + cfP C q ≤ cfP C (fun x => p x || q x) + cfP C (fun x => p x && q x) := by
  induction C with
  | nil => simp [cfP]
  | cons own C ih =>
    rw [cf_cons, cf_cons, cf_cons, cf_cons, ins_and]
    have h1 := ins_or (p := p) (q := q) (own := own)
    have h2 := ins_or' (p := p) (q := q) (own := own)
    unfold b1
    cases a : insP p own <;> cases c : insP q own <;> cases d : insP (fun x => p x || q x) own <;> simp_all <;> omega
/-- with such a bucket there is more in the two together -/
theorem cf_or1 {own : List Int} {C : List (List Int)} {p q : Pk} (h1 : insP p own = false) (h2 : insP q own = false) (h3 : insP (fun x => p x || q x) own = true) :
    cfP (own :: C) p + cfP (own :: C) q + 1 ≤ cfP (own :: C) (fun x => p x || q x) + cfP (own :: C) (fun x => p x && q x) := by
  have := cf_or C p q
  rw [cf_cons, cf_cons, cf_cons, cf_cons, ins_and, h1, h2, h3]
  simp only [b1, Bool.false_and, if_true, if_false, Bool.false_eq_true]
  omega
theorem hall_back {as own : List Int} {C : List (List Int)} {x : Int} (hx : x ∈ own) (x0 : 0 ≤ x ∧ x < as.length) (h : Hall (dcI x as) C) : Hall as (own :: C) := fun p => by
  have := h p
  rw [rm_dec x0] at this
  rw [cf_cons]
  unfold b1 at *
  cases q : insP p own with
  | false => split at this <;> simp only [if_false, Bool.false_eq_true] <;> omega
  | true =>
    unfold insP at q
    rw [List.all_eq_true.mp q x hx] at this
    simp only [if_true] at *
    omega
theorem hall_step {as own : List Int} {C : List (List Int)} (hr : ∀ y ∈ own, 0 ≤ y ∧ y < as.length) (h : Hall as (own :: C)) : ∃ x ∈ own, Hall (dcI x as) C := by
  refine Classical.byContradiction fun hc => ?_
  have bad : ∀ x ∈ own, ∃ p : Pk, p x.toNat = true ∧ insP p own = false ∧ cfP (own :: C) p = rmP as p := fun x hx => by
    refine Classical.byContradiction fun hn => hc ⟨x, hx, fun p => ?_⟩
    have hp := h p
    rw [rm_dec (hr x hx)]
    have hp' := hp
    rw [cf_cons] at hp
    unfold b1 at *
    cases q : insP p own with
    | true =>
      rw [q] at hp
      unfold insP at q
      rw [List.all_eq_true.mp q x hx]
      simp only [if_true] at *
      omega
    | false =>
      rw [q] at hp
      cases z : p x.toNat with
      | false => simp only [if_false, Bool.false_eq_true] at *; omega
      | true =>
        have ne : cfP (own :: C) p ≠ rmP as p := fun e => hn ⟨p, z, q, e⟩
        have e2 : cfP (own :: C) p = cfP C p := by rw [cf_cons, q]; simp [b1]
        simp only [if_true]
        omega
  have key : ∀ xs : List Int, (∀ x ∈ xs, x ∈ own) → ∃ U : Pk, insP U own = false ∧ (∀ x ∈ xs, U x.toNat = true) ∧ cfP (own :: C) U = rmP as U := by
    intro xs
    induction xs with
    | nil =>
      intro _
      have h0 := h fun _ => false
      have r0 : rmP as (fun _ => false) = 0 := by
        unfold rmP
        simp only [Bool.false_eq_true, if_false]
        exact sum_zeroN _
      have c0 := cf_nn (C := own :: C) (p := fun _ => false)
      have c1 := cf_nn (C := C) (p := fun _ => false)
      have hc0 := cf_cons (own := own) (C := C) (p := fun _ => false)
      refine ⟨fun _ => false, ?_, by simp, by omega⟩
      cases q : insP (fun _ => false) own with
      | false => rfl
      | true => rw [q] at hc0; simp only [b1, if_true] at hc0; omega
    | cons x xs ih =>
      intro hs
      obtain ⟨U, u1, u2, u3⟩ := ih fun y hy => hs y (by simp [hy])
      obtain ⟨p, p1, p2, p3⟩ := bad x (hs x (by simp))
      have hW := h fun y => U y || p y
      have hA := h fun y => U y && p y
      have ro := rm_or as U p
      refine ⟨fun y => U y || p y, ?_, fun y hy => ?_, ?_⟩
      · cases q : insP (fun y => U y || p y) own with
        | false => rfl
        | true =>
          have := cf_or1 (C := C) u1 p2 q
          omega
      · rcases List.mem_cons.mp hy with w | w
        · rw [w]; simp [p1]
        · simp [u2 y w]
      · have := cf_or (own :: C) U p
        omega
  obtain ⟨U, u1, u2, _⟩ := key own fun x hx => hx
  have : insP U own = true := by
    unfold insP
    rw [List.all_eq_true]
    exact u2
  rw [this] at u1
  cases u1
where sum_zeroN : ∀ l : List Nat, (l.map fun _ => (0 : Int)).sum = 0
  | [] => rfl
  | a :: l => by rw [List.map_cons, List.sum_cons, sum_zeroN l]; rfl
/-- each bucket has one of its own, and all shares are used up -/
def Fits : List Int → List (List Int) → List Int → Prop
  | as, [], [] => ∀ x ∈ as, x = 0
  | as, own :: C, x :: f => x ∈ own ∧ Fits (dcI x as) C f
  | _, _, _ => False
theorem sum_dcI {x : Int} {as : List Int} (hx : 0 ≤ x ∧ x < as.length) : (dcI x as).sum = as.sum - 1 := by
  unfold dcI
  rw [sum_setX (by omega)]
  omega
theorem rm_one {as : List Int} {x : Nat} (hx : x < as.length) : rmP as (fun y => decide (y = x)) = as.getD x 0 := by
  unfold rmP
  rw [sum_upd (g := fun _ => 0) hx fun i _ hn => by simp [hn], hall_step.sum_zeroN]
  simp
theorem hall_nn {as : List Int} {C : List (List Int)} (h : Hall as C) : ∀ x ∈ as, 0 ≤ x := fun x hx => by
  obtain ⟨i, hi⟩ := List.getElem?_of_mem hx
  have il := (List.getElem?_eq_some_iff.mp hi).1
  have := h fun y => decide (y = i)
  rw [rm_one il] at this
  have c := cf_nn (C := C) (p := fun y => decide (y = i))
  have e : as.getD i 0 = x := by rw [List.getD_eq_getElem?_getD, hi]; rfl
  omega
def Rng (C : List (List Int)) (n : Nat) : Prop := ∀ own ∈ C, ∀ y ∈ own, 0 ≤ y ∧ y < (n : Int)
theorem fit_hall : ∀ {C : List (List Int)} {as f : List Int}, Rng C as.length → Fits as C f → Hall as C
  | [], as, [], _, h => fun p => by
    have z : ∀ x ∈ as, x = 0 := h
    have e : rmP as p = 0 := by
      unfold rmP
      rw [List.map_congr_left (g := fun _ => (0 : Int)) fun i hi => by
        have : as.getD i 0 = 0 := z _ (gd_mem (List.mem_range.mp hi))
        rw [this]; split <;> rfl]
      exact hall_step.sum_zeroN _
    rw [e]
    simp [cfP]
  | own :: C, as, x :: f, hr, h => by
    obtain ⟨hx, hf⟩ := h
    exact hall_back hx (hr own (by simp) x hx) (fit_hall (by rw [dcI_len]; exact fun o ho => hr o (by simp [ho])) hf)
  | [], _, _ :: _, _, h => absurd h id
  | _ :: _, _, [], _, h => absurd h id
open Classical in
noncomputable def grd : List Int → List (List Int) → List Int
  | _, [] => []
  | as, own :: C => (own.filter fun x => decide (Hall (dcI x as) C)).headD 0 :: grd (dcI ((own.filter fun x => decide (Hall (dcI x as) C)).headD 0) as) C
theorem headF_mem {l : List Int} {p : Int → Bool} (h : ∃ x ∈ l, p x = true) : (l.filter p).headD 0 ∈ l ∧ p ((l.filter p).headD 0) = true := by
  obtain ⟨x, hx, hp⟩ := h
  have m : x ∈ l.filter p := List.mem_filter.mpr ⟨hx, hp⟩
  cases q : l.filter p with
  | nil => rw [q] at m; cases m
  | cons y r =>
    have : y ∈ l.filter p := by rw [q]; simp
    exact List.mem_filter.mp this
open Classical in
theorem grd_fit : ∀ {C : List (List Int)} {as : List Int}, Rng C as.length → Hall as C → as.sum = C.length → Fits as C (grd as C)
  | [], as, _, h, hs => fun x hx => by
    have nn := hall_nn h
    have := nn x hx
    have := le_sum nn x hx
    simp at hs
    omega
  | own :: C, as, hr, h, hs => by
    have ro := hr own (by simp)
    obtain ⟨x, hx, hh⟩ := hall_step ro h
    obtain ⟨m1, m2⟩ := headF_mem (l := own) (p := fun x => decide (Hall (dcI x as) C)) ⟨x, hx, decide_eq_true hh⟩
    have m2 := of_decide_eq_true m2
    refine ⟨m1, grd_fit (by rw [dcI_len]; exact fun o ho => hr o (by simp [ho])) m2 ?_⟩
    rw [sum_dcI (ro _ m1), hs]
    simp
end Lm


/-! which buckets fit: by all sets of variants -/
namespace Lm
open PySem PySem.Spec PyProof.Rows L2
theorem cmb_sub : ∀ {l : List Nat} {k : Nat} {s : List Nat}, s ∈ cmbL l k → s.Sublist l
  | _, 0, s, h => by
    have : s = [] := by simpa [cmbL] using h
    rw [this]
    exact List.nil_sublist _
  | [], k + 1, s, h => by simp [cmbL] at h
  | a :: l, k + 1, s, h => by
    rcases List.mem_append.mp h with w | w
    · obtain ⟨t, ht, rfl⟩ := List.mem_map.mp w
      exact (cmb_sub ht).cons_cons a
    · exact (cmb_sub w).cons a
theorem cmb_filter (p : Nat → Bool) : ∀ l : List Nat, l.filter p ∈ cmbL l (l.filter p).length
  | [] => by simp [cmbL]
  | a :: l => by
    have ih := cmb_filter p l
    rw [List.filter_cons]
    by_cases h : p a = true
    · rw [if_pos h, List.length_cons]
      exact List.mem_append_left _ (List.mem_map_of_mem ih)
    · rw [if_neg h]
      cases q : (l.filter p).length with
      | zero => rw [List.eq_nil_of_length_eq_zero q]; simp [cmbL]
      | succ k => rw [q] at ih; exact List.mem_append_right _ ih
/-- all sets of variants, the smaller ones first -/
def vsN (v : Nat) : List (List Nat) := (List.range (v + 1)).flatMap fun k => cmbs v k
theorem vs_sub {v : Nat} {s : List Nat} (h : s ∈ vsN v) : s.Sublist (List.range v) := by
  obtain ⟨k, _, hs⟩ := List.mem_flatMap.mp h
  exact cmb_sub hs
theorem vs_filter (v : Nat) (p : Nat → Bool) : (List.range v).filter p ∈ vsN v := by
  refine List.mem_flatMap.mpr ⟨((List.range v).filter p).length, List.mem_range.mpr ?_, cmb_filter p _⟩
  have := List.length_filter_le p (List.range v)
  rw [List.length_range] at this
  omega
def inS (s : List Nat) : Pk := fun x => decide (x ∈ s)
/-- what a set of variants has, and how many buckets need it -/
def roomI (as : List Int) (s : List Nat) : Int := (s.map fun x => as.getD x 0).sum
theorem sum_sub {g : Nat → Int} : ∀ {l s : List Nat}, s.Sublist l → l.Nodup → (s.map g).sum = (l.map fun x => if decide (x ∈ s) then g x else 0).sum
  | _, _, .slnil, _ => rfl
  | a :: l, s, .cons _ h, nd => by
    have na : a ∉ s := fun m => (List.nodup_cons.mp nd).1 (h.subset m)
    rw [List.map_cons, List.sum_cons, sum_sub h (List.nodup_cons.mp nd).2, decide_eq_false na]
    simp
  | a :: l, _ :: s, .cons_cons _ h, nd => by
    have nd' := List.nodup_cons.mp nd
    rw [List.map_cons, List.sum_cons, List.map_cons, List.sum_cons, sum_sub h nd'.2]
    have e : (l.map fun x => if decide (x ∈ s) then g x else 0) = l.map fun x => if decide (x ∈ a :: s) then g x else 0 := List.map_congr_left fun x hx => by
      have : x ≠ a := fun e => nd'.1 (e ▸ hx)
      simp [this]
    rw [e]
    simp
theorem room_rm {as : List Int} {s : List Nat} (h : s ∈ vsN as.length) : roomI as s = rmP as (inS s) := sum_sub (vs_sub h) List.nodup_range
theorem fits_iff : ∀ {C : List (List Int)} {as f : List Int}, Rng C as.length → (Fits as C f ↔ f.length = C.length ∧ (∀ i < f.length, f.getD i 0 ∈ C.getD i []) ∧ ∀ x < as.length, (f.count (x : Int) : Int) = as.getD x 0)
  | [], as, [], _ => by
    constructor
    · intro h
      exact ⟨rfl, by simp, fun x hx => by
        have h' : ∀ x ∈ as, x = 0 := h
        rw [h' _ (gd_mem hx)]; rfl⟩
    · rintro ⟨_, _, h⟩ x hx
      obtain ⟨i, hi⟩ := List.getElem?_of_mem hx
      have := h i (List.getElem?_eq_some_iff.mp hi).1
      rw [List.getD_eq_getElem?_getD, hi] at this
      simpa using this.symm
  | own :: C, as, x :: f, hr => by
    have rC : Rng C (dcI x as).length := by rw [dcI_len]; exact fun o ho => hr o (by simp [ho])
    have ih := fits_iff (as := dcI x as) (f := f) rC
    have cnt : ∀ (x0 : 0 ≤ x ∧ x < as.length) (y : Nat), y < as.length → (((x :: f).count (y : Int) : Int) = as.getD y 0 ↔ (f.count (y : Int) : Int) = (dcI x as).getD y 0) := fun x0 y hy => by
      have e : (dcI x as).getD y 0 = if x.toNat = y then as.getD x.toNat 0 - 1 else as.getD y 0 := getD_setI (by omega)
      rw [e, List.count_cons]
      by_cases w : x.toNat = y
      · subst w
        have : x = ((x.toNat : Nat) : Int) := by omega
        rw [if_pos rfl, if_pos (by rw [beq_iff_eq]; exact this)]
        omega
      · have : ¬ x = (y : Int) := by omega
        rw [if_neg w, if_neg (by simpa using this)]
        omega
    show x ∈ own ∧ Fits (dcI x as) C f ↔ _
    rw [ih, dcI_len]
    constructor
    · rintro ⟨hx, h1, h2, h3⟩
      have x0 := hr own (by simp) x hx
      refine ⟨by simp [h1], fun i hi => ?_, fun y hy => (cnt x0 y hy).mpr (h3 y hy)⟩
      cases i with
      | zero => exact hx
      | succ i => exact h2 i (by simpa using hi)
    · rintro ⟨h1, h2, h3⟩
      have hx : x ∈ own := h2 0 (by simp)
      have x0 := hr own (by simp) x hx
      exact ⟨hx, by simpa using h1, fun i hi => h2 (i + 1) (by simpa using hi), fun y hy => (cnt x0 y hy).mp (h3 y hy)⟩
  | [], _, _ :: _, _ => by simp [Fits]
  | _ :: _, _, [], _ => by simp [Fits]
end Lm


/-! which buckets fit: the promises -/
namespace Lm
open PySem PySem.Spec PyProof.Rows L2
structure Mns (C : List (List Int)) (n : Nat) : Prop where
  rng : Rng C n
  len : C.length ≤ 20
  own : ∀ own ∈ C, own.length ≤ 5
section
variable {c : Ct} {Γ : List (Option Rs)} {tl : TE} {k : Kd} {C : List (List Int)} {d : PyData}
end
end Lm


/-! shortages, and how rules go on -/
namespace Lm
open PySem PySem.Spec PyProof.Rows L2
/-- the first set of variants that is too small -/
def shS (as : List Int) (C : List (List Int)) : Option (List Nat) := (vsN as.length).find? fun s => decide (roomI as s < cfP C (inS s))
theorem sh_some {as : List Int} {C : List (List Int)} {s : List Nat} (h : shS as C = some s) : s ∈ vsN as.length ∧ roomI as s < cfP C (inS s) := by
  unfold shS at h
  have q := List.find?_some h
  exact ⟨List.mem_of_find?_eq_some h, by simpa using q⟩
section
variable {c : Ct} {Γ : List (Option Rs)} {tl tb : TE} {kb : Kd} {C : List (List Int)} {cd : PyData}
end
/-! rules -/
end Lm


/-! walks over zip of a list and a tuple; pairs that are drawn; forbidden pairs, pins, menus, bounds by levels -/
namespace Lm
open PySem PySem.Spec PyProof.Rows L2
section
variable {X : Cx} {K : PySem.W.Frag} (hK : X.K = K)
include hK
end
section
variable {c : Ct} {H H' H0 H1 H2 H3 : Hp} {O : List Addr} {Γ Γ' Γ1 : List (Option Rs)}
variable {te ta tb tx ty : TE} {k ka kb kc : Kd} {d x y z : PyData} {ds es : List PyData}
end
/-! ### mathematics -/
/-- pairs of buckets and variants, ascending -/
structure Prd (F : List (List Int)) (v b : Nat) : Prop where
  row : ∀ r ∈ F, ∃ x y : Nat, r = [(x : Int), (y : Int)] ∧ x < b ∧ y < v
  asc : F.Pairwise fun a b => TS.code 1000 a < TS.code 1000 b
  len : F.length ≤ 36
theorem Prd.filter {F : List (List Int)} {v b : Nat} (h : Prd F v b) (p : List Int → Bool) : Prd (F.filter p) v b :=
  ⟨fun r hr => h.row r (List.mem_filter.mp hr).1, h.asc.filter _, Nat.le_trans (List.length_filter_le _ _) h.len⟩
/-- pins: of different buckets -/
structure Pin (P : List (List Int)) (v b : Nat) : Prop extends Prd P v b where
  fst : P.Pairwise fun p q => p.getD 0 0 < q.getD 0 0
def psL (as : List Int) (v : Int) (b : Nat) (C : List (List Int)) : List (List Int) := (allL v b).filter fun f => decide (countsI f v = as) && ((List.range b).map fun k => decide (f.getD k 0 ∈ C.getD k [])).all id
theorem mem_psL {as f : List Int} {v : Int} {b : Nat} {C : List (List Int)} (hv : 0 ≤ v) : f ∈ psL as v b C ↔ f.length = b ∧ (∀ x ∈ f, 0 ≤ x ∧ x < v) ∧ countsI f v = as ∧ ∀ k < b, f.getD k 0 ∈ C.getD k [] := by
  unfold psL
  rw [List.mem_filter, mem_allL hv, Bool.and_eq_true, List.all_map, List.all_eq_true]
  simp only [decide_eq_true_eq, List.mem_range, Function.comp, id]
  constructor
  · rintro ⟨⟨h1, h2⟩, h3, h4⟩; exact ⟨h1, h2, h3, h4⟩
  · rintro ⟨h1, h2, h3, h4⟩; exact ⟨⟨h1, h2⟩, h3, h4⟩
def wrtI (h : Int) (ls : List Int) (y : Int) : Int := (if y = h then 1 else 0) - ls.getD y.toNat 0
def gw (own : List Int) (h : Int) (ls : List Int) : Int := mxL (own.map (wrtI h ls))
def gwS (C : List (List Int)) (f ls : List Int) : Int := ((C.zip f).map fun p => gw p.1 p.2 ls).sum
def mulI (a b : Int) : Int := a * b
theorem gw_ge {own ls : List Int} {h y : Int} (hy : y ∈ own) : wrtI h ls y ≤ gw own h ls := mxL_le _ (List.mem_map_of_mem hy)
/-- no row keeps more than the bound, less the levels it takes -/
theorem kept_le {ls : List Int} : ∀ {C : List (List Int)} {f r : List Int}, C.length = f.length → r.length = f.length → (∀ k < r.length, r.getD k 0 ∈ C.getD k []) →
    (f.length : Int) - zs ne1 f r ≤ gwS C f ls + (r.map fun y => ls.getD y.toNat 0).sum
  | [], [], [], _, _, _ => by simp [gwS, zs]
  | own :: C, h :: f, y :: r, h1, h2, hm => by
    have ih := kept_le (ls := ls) (C := C) (f := f) (r := r) (by simpa using h1) (by simpa using h2) fun k hk => by have := hm (k + 1) (by simpa using hk); simpa using this
    have m0 : y ∈ own := by have := hm 0 (by simp); simpa using this
    have g := gw_ge (ls := ls) (h := h) m0
    have e : gwS (own :: C) (h :: f) ls = gw own h ls + gwS C f ls := by simp [gwS]
    have en : ne1 h y = if h = y then 0 else 1 := rfl
    rw [zs_cons, e, en, List.map_cons, List.sum_cons, List.length_cons]
    unfold wrtI at g
    by_cases q : h = y
    · rw [if_pos q.symm] at g
      rw [if_pos q]
      omega
    · rw [if_neg (fun z => q z.symm)] at g
      rw [if_neg q]
      omega
  | [], _ :: _, _, h, _, _ => by simp at h
  | _ :: _, [], _, h, _, _ => by simp at h
  | _, [], _ :: _, _, h, _ => by simp at h
  | _, _ :: _, [], _, h, _ => by simp at h
theorem nil_sum {α : Type} : ∀ l : List α, (l.map fun _ => (0 : Int)).sum = 0
  | [] => rfl
  | _ :: l => by rw [List.map_cons, List.sum_cons, nil_sum l]; rfl
theorem pick_sum {g : Nat → Int} {x : Nat} : ∀ n : Nat, x < n → ((List.range n).map fun k => if k = x then g k else 0).sum = g x
  | 0, h => by omega
  | n + 1, h => by
    rw [List.range_succ, List.map_append, List.sum_append, List.map_singleton, List.sum_singleton]
    by_cases e : x = n
    · subst e
      have : ((List.range x).map fun k => if k = x then g k else 0) = (List.range x).map fun _ => (0 : Int) := List.map_congr_left fun k hk => if_neg (by have := List.mem_range.mp hk; omega)
      rw [this, if_pos rfl, nil_sum]
      omega
    · rw [pick_sum n (by omega), if_neg (fun z => e z.symm)]
      omega
/-- what the levels give in all -/
theorem lev_sum {ls : List Int} {v : Nat} (hl : ls.length = v) : ∀ {r : List Int}, (∀ x ∈ r, 0 ≤ x ∧ x < (v : Int)) → (r.map fun y => ls.getD y.toNat 0).sum = zs mulI (countsI r v) ls
  | [], _ => by
    unfold zs
    rw [countsI_len, Int.toNat_natCast]
    have : ((List.range v).map fun j => mulI ((countsI [] v).getD j 0) (ls.getD j 0)) = (List.range v).map fun _ => (0 : Int) := List.map_congr_left fun j hj => by
      rw [countsI_get (by have := List.mem_range.mp hj; omega)]
      simp [mulI]
    rw [this, nil_sum]
    rfl
  | y :: r, h => by
    have ih := lev_sum hl (r := r) fun x hx => h x (by simp [hx])
    obtain ⟨y0, y1⟩ := h y (by simp)
    obtain ⟨Y, rfl⟩ := Int.eq_ofNat_of_zero_le y0
    rw [List.map_cons, List.sum_cons, ih, Int.toNat_natCast]
    unfold zs
    rw [countsI_len, countsI_len, Int.toNat_natCast]
    have e : ∀ j ∈ List.range v, mulI ((countsI ((Y : Int) :: r) v).getD j 0) (ls.getD j 0) = (if j = Y then ls.getD j 0 else 0) + mulI ((countsI r v).getD j 0) (ls.getD j 0) := fun j hj => by
      have hj' : (j : Int) < v := by have := List.mem_range.mp hj; omega
      rw [countsI_get hj', countsI_get hj', List.count_cons]
      unfold mulI
      by_cases q : j = Y
      · subst q
        simp [Int.add_mul]
        omega
      · have : ¬ ((Y : Int) = (j : Int)) := by omega
        simp [q, this]
    rw [List.map_congr_left e]
    have add : ∀ (f g : Nat → Int) (l : List Nat), (l.map fun i => f i + g i).sum = (l.map f).sum + (l.map g).sum := fun f g l => by
      induction l with
      | nil => rfl
      | cons a l ih => rw [List.map_cons, List.sum_cons, List.map_cons, List.sum_cons, List.map_cons, List.sum_cons, ih]; omega
    rw [add, pick_sum (g := fun j => ls.getD j 0) v (by omega)]
/-- no possible assignment keeps more than the bound -/
theorem weak {as f r ls : List Int} {v b : Nat} {C : List (List Int)} (hC : C.length = b) (hf : f.length = b) (hl : ls.length = v) (hr : r ∈ psL as v b C) : [] ∉ C ∧ (b : Int) - zs ne1 f r ≤ zs mulI as ls + gwS C f ls := by
  obtain ⟨h1, h2, h3, h4⟩ := (mem_psL (by omega)).mp hr
  refine ⟨fun z => ?_, ?_⟩
  · obtain ⟨k, hk, e⟩ := List.getElem_of_mem z
    have := h4 k (by omega)
    rw [List.getD_eq_getElem?_getD, List.getD_eq_getElem?_getD, List.getElem?_eq_getElem hk, e] at this
    simp at this
  · have := kept_le (ls := ls) (C := C) (f := f) (r := r) (by omega) (by omega) fun k hk => h4 k (by omega)
    rw [lev_sum hl h2, h3] at this
    omega
end Lm


/-! forbidden pairs and pins that are drawn; promises -/
namespace Lm
open PySem PySem.Spec PyProof.Rows L2
structure PrdN (F : List (List Int)) (v n m : Nat) : Prop where
  row : ∀ r ∈ F, ∃ x y : Nat, r = [(x : Int), (y : Int)] ∧ y < v ∧ x * 1000 + y < n * 1000 + m
  asc : F.Pairwise fun a b => TS.code 1000 a < TS.code 1000 b
  len : F.length ≤ n * v + m
theorem PrdN.nil {v : Nat} : PrdN [] v 0 0 := ⟨by simp, List.Pairwise.nil, by simp⟩
structure PinN (P : List (List Int)) (v n : Nat) : Prop where
  row : ∀ r ∈ P, ∃ x y : Nat, r = [(x : Int), (y : Int)] ∧ x < n ∧ y < v
  fst : P.Pairwise fun p q => p.getD 0 0 < q.getD 0 0
  len : P.length ≤ n
theorem PinN.nil {v : Nat} : PinN [] v 0 := ⟨by simp, List.Pairwise.nil, by simp⟩
theorem Pin.nil {v b : Nat} : Pin [] v b := { row := by simp, fst := List.Pairwise.nil, len := by simp, asc := List.Pairwise.nil }
structure Exc (as f : List Int) (F P : List (List Int)) (v b : Nat) : Prop where
  v1 : 1 ≤ v
  v5 : v ≤ 5
  b6 : b ≤ 6
  asg : Asg f (v : Int)
  len : f.length = b
  alc : Alc as (v : Int) (b : Int)
  prd : Prd F v b
  pin : Pin P v b
end Lm


/-! lists that stay: displays of anything, put together, subscripts -/
namespace Lm
open PySem PySem.Spec PyProof.Rows L2
def rCatS (K : PySem.W.Frag) : R2 := fun x y H Q => ∃ l b xs zs, x = .ref l ∧ y = .ref b ∧ SqL K H l xs ∧ SqL K H b zs ∧ xs.length + zs.length ≤ sizeLine ∧ ∀ p, H p = none → Q (.ref p) (upd H p (.lst (xs ++ zs)))
theorem op_catS {X : Cx} : OpR X (binaryOp .Add) (rCatS X.K) := by
  intro pins s σ H x y v u Q I rx ry h
  obtain ⟨l, b, xs, zs, rfl, rfl, hH, hB, hz, q⟩ := h
  cases rx
  cases ry
  obtain ⟨its, r, p1, z⟩ := I.list hH
  obtain ⟨its2, r2, p2, z2⟩ := I.list hB
  have l1 := r.length
  have l2 := r2.length
  obtain ⟨⟨cls, dd, data, sl⟩, ho, hc, n, hd⟩ := p1.isList
  obtain ⟨⟨cls2, dd2, data2, sl2⟩, ho2, hc2, n2, hd2⟩ := p2.isList
  simp only at hc hd hc2 hd2
  subst hc hd hc2 hd2
  have ea : its.toArray ++ its2.toArray = (its ++ its2).toArray := by simp
  refine concat_meets ⟨_, ho, rfl⟩ ⟨_, ho2, rfl⟩ noFill_list_add seq_list_add PySem.F.slot_list_add PySem.F.entry_list_add (PySem.F.args_list_add_2 _ _) (list_addW l b its.toArray its2.toArray n n2 dd dd2 sl sl2 (by simp; omega)) ⟨ho, ho2, ?_⟩
  rw [ea]
  exact ⟨.ref _, _, I.lnew (t' := s.toks) (r.append r2) (by rw [List.length_append]; omega), rfl, q _ I.fresh⟩
section
variable {X : Cx} {K : PySem.W.Frag} (hK : X.K = K)
include hK
theorem k_catS : OpR X (binaryOp .Add) (rCatS K) := hK ▸ op_catS
end
section
variable {c : Ct} {Γ : List (Option Rs)} {te ta tb : TE} {tr : TA} {k ka kb : Kd} {d : PyData} {ds es : List PyData}
theorem Ev.frz (h : Ev c te Γ .o d) : Ev c te Γ .v d := fun H0 O H σ e Q q => h H0 O H σ e _ fun v H2 r s => q v H2 r (Res.frozen e r s ko_ne)
/-- a new list of things that stay -/
theorem newV {H0 H H2 : Hp} {O : List Addr} {σ : L2.St} {xs : List V} {p : Addr} (e : Env c H0 O H2 σ Γ) (al : BoAll c (mns H2 O) xs ds) (hp : H2 p = none) : Bo c (mns (upd H2 p (.lst xs)) O) (.ref p) (.list ds) := by
  have sm : Same H2 (upd H2 p (.lst xs)) := fun b o z => by rw [upd_ne (ne_of_none z hp)]; exact z
  have r4 : Rr c H2 (upd H2 p (.lst xs)) := Rr.same sm
  have no := new_notO e hp
  refine .lst (okA.fresh e.jH hp) (.inl ?_) (al.mono e.j (r4.mns e.j e.okO))
  left
  rw [mns_out no]
  exact upd_same
theorem e_lstV (h : EvA c tr Γ true ds) (hl : ds.length ≤ 1000000) : Ev c (tLst tr) Γ .v (.list ds) := fun H0 O H σ e Q q =>
  h H0 O H σ e _ fun vs H1 r s => by
    have s' := BoAll.vm s
    refine ⟨by rw [s'.len]; exact sizeOk hl, fun p hp => q _ _ (r.tr (Rr.same fun b u z => by rw [upd_ne (ne_of_none z hp)]; exact z)) (newV (H := H1) (e.on r) s' hp)⟩
theorem e_catS (ha : Ev c ta Γ .v (.list ds)) (hb : Ev c tb Γ .v (.list es)) (hl : ds.length + es.length ≤ 1000000) : Ev c (tOp (rCatS c.K) ta tb) Γ .v (.list (ds ++ es)) := fun H0 O H σ e Q q =>
  ha H0 O H σ e _ fun v H1 r1 s1 => hb H0 O H1 σ (e.on r1) _ fun u H2 r2 s2 => by
    have bv : Bo c (mns H2 O) v (.list ds) := Res.on (k := .v) e r1 r2 s1
    have bu : Bo c (mns H2 O) u (.list es) := s2
    obtain ⟨p, xs, rfl, _, sl, al⟩ := bv.lst'
    obtain ⟨b, zs, rfl, _, sl2, al2⟩ := bu.lst'
    refine ⟨p, b, xs, zs, rfl, rfl, mns_same.seq sl, mns_same.seq sl2, by rw [al.len, al2.len]; exact sizeOk hl, fun p' hp' => ?_⟩
    have r := r1.tr r2
    exact q _ _ (r.tr (Rr.same fun b u z => by rw [upd_ne (ne_of_none z hp')]; exact z)) (newV (H := H) (e.on r) (al.app al2) hp')
theorem n_ixLV {P : PyData → Prop} {Q : Int → Prop} (ha : Ev c ta Γ .v (.list ds)) (hb : EvN c tb Γ kb (SomeI Q)) (hr : ∀ i, Q i → ∃ d, atI ds i = some d ∧ P d) : EvN c (tOp (rIx c.K) ta tb) Γ .v P := fun H0 O H σ e Q' q =>
  ha H0 O H σ e _ fun v H1 r1 s1 => hb H0 O H1 σ (e.on r1) _ fun u y H2 ⟨i, hi, qi⟩ r2 s2 => by
    obtain ⟨d, he, pd⟩ := hr i qi
    subst hi
    have bv : Bo c (mns H2 O) v (.list ds) := Res.on (k := .v) e r1 r2 s1
    obtain ⟨p, xs, rfl, _, s, al⟩ := bv.lst'
    obtain ⟨x, hx, bx⟩ := atI_bo al he
    exact .inl ⟨p, xs, i, x, rfl, (Res.bo (e.on r1) s2).int', mns_same.seq s, hx, q x d H2 pd (r1.tr r2) bx⟩
end
end Lm


/-! possible assignments: which come first, what is none -/
namespace Lm
open PySem PySem.Spec PyProof.Rows L2
theorem mem_ps {as f : List Int} {v b : Nat} {C : List (List Int)} (al : as.length = v) (hC : C.length = b) (hr : Rng C v) : f ∈ psL as v b C ↔ Fits as C f := by
  rw [mem_psL (by omega), fits_iff (by rw [al]; exact hr), hC]
  have cnt : (countsI f v = as ↔ ∀ x < as.length, (f.count (x : Int) : Int) = as.getD x 0) := by
    constructor
    · intro h x hx
      rw [← h, countsI_get (by omega)]
    · intro h
      apply List.ext_getElem
      · rw [countsI_len]; omega
      · intro i h1 h2
        have e1 : (countsI f v).getD i 0 = (f.count (i : Int) : Int) := countsI_get (by omega)
        rw [h i h2] at e1
        simpa [List.getD_eq_getElem?_getD, h1, h2] using e1
  constructor
  · rintro ⟨h1, h2, h3, h4⟩
    exact ⟨h1, fun i hi => h4 i (by omega), cnt.mp h3⟩
  · rintro ⟨h1, h2, h3⟩
    refine ⟨h1, fun x hx => ?_, cnt.mpr h3, fun k hk => h2 k (by omega)⟩
    obtain ⟨i, hi⟩ := List.getElem?_of_mem hx
    have il := (List.getElem?_eq_some_iff.mp hi).1
    have m := h2 i il
    have fx : f.getD i 0 = x := by rw [List.getD_eq_getElem?_getD, hi]; rfl
    rw [fx] at m
    exact hr _ (gL_mem (by omega)) x m
end Lm


/-! entries of families -/
namespace Lm
open PySem PySem.Spec PyProof.Rows L2
def gsL (F : List (List Int)) (n : Nat) : List Int := (List.range n).map fun p => mxL (F.map fun r => r.getD p 0)
def entI (i : Nat) (n : Int) : List (List Int) := (List.range n.toNat).map fun (p : Nat) => [((i + 1 : Nat) : Int), (p : Int)]
def entL (ns : List Int) : List (List Int) := (List.range ns.length).flatMap fun i => entI i (ns.getD i 0)
/-- the row uses the entry -/
def usB (r e : List Int) : Bool := decide (e.getD 1 0 < r.getD (e.getD 0 0 - 1).toNat 0)
def togB (F : List (List Int)) (e f : List Int) : Bool := !decide (e = f) && (F.map fun r => usB r e && usB r f).any id
/-- the entries -/
theorem mem_ent {ns e : List Int} : e ∈ entL ns ↔ ∃ x y : Nat, e = [((x + 1 : Nat) : Int), (y : Int)] ∧ x < ns.length ∧ (y : Int) < ns.getD x 0 := by
  unfold entL entI
  simp only [List.mem_flatMap, List.mem_map, List.mem_range]
  constructor
  · rintro ⟨x, hx, y, hy, rfl⟩
    exact ⟨x, y, rfl, hx, by omega⟩
  · rintro ⟨x, y, rfl, hx, hy⟩
    exact ⟨x, hx, y, by omega, rfl⟩
end Lm


/-! sorted(xs), xs a list of rows -/
namespace L2
open PySem PySem.Spec PyProof.Rows
end L2
namespace Lm
open PySem PySem.Spec PyProof.Rows L2
section
variable {X : Cx} {K : PySem.W.Frag} (hK : X.K = K)
include hK
end
section
variable {c : Ct} {Γ : List (Option Rs)} {te : TE} {k : Kd}
end
end Lm


/-! tuple * -1 -/
namespace L2
open PySem PySem.Spec PyProof.Rows
end L2
namespace Lm
open PySem PySem.Spec PyProof.Rows L2
section
variable {X : Cx} {K : PySem.W.Frag} (hK : X.K = K)
include hK
end
section
variable {c : Ct} {Γ : List (Option Rs)} {ta tb : TE} {ka kb : Kd} {ds : List PyData} {i : Int}
end
end Lm


namespace Lm
open PySem PySem.Spec PyProof.Rows L2

/-! ### pairs of entries that are used together -/
abbrev E2 := List Int × List Int
structure UsP (A : List (List Int)) (s : List Int) (k : Nat) (Ps : List E2) : Prop where
  nd : Ps.Nodup
  mem : ∀ e f, (e, f) ∈ Ps ↔ (∃ r ∈ A, e ∈ entL r ∧ f ∈ entL r ∧ e ≠ f) ∨ (e ∈ (entL s).take k ∧ f ∈ entL s ∧ e ≠ f)
theorem UsP.nil : UsP [] [] 0 [] := ⟨List.nodup_nil, fun e f => by simp⟩
def newP (s e : List Int) (Ps : List E2) : List E2 := ((entL s).filter fun g => !decide (e = g) && !decide ((e, g) ∈ Ps)).map fun g => (e, g)
theorem UsP.step {A : List (List Int)} {s e : List Int} {k : Nat} {Ps : List E2} (h : UsP A s k Ps) (nd : (entL s).Nodup) (hk : (entL s)[k]? = some e) : UsP A s (k + 1) (Ps ++ newP s e Ps) := by
  refine ⟨?_, fun a b => ?_⟩
  · rw [List.nodup_append]
    refine ⟨h.nd, ?_, fun x hx y hy z => ?_⟩
    · exact List.Pairwise.map _ (fun a b ne z => ne (Prod.mk.inj z).2) (nd.filter _)
    · obtain ⟨g, hg, rfl⟩ := List.mem_map.mp hy
      have := (List.mem_filter.mp hg).2
      rw [Bool.and_eq_true] at this
      subst z
      have w := this.2
      rw [decide_eq_true hx] at w
      cases w
  · rw [List.mem_append, h.mem, List.take_add_one, hk]
    constructor
    · rintro ((w | w) | w)
      · exact .inl w
      · exact .inr ⟨List.mem_append_left _ w.1, w.2⟩
      · obtain ⟨g, hg, z⟩ := List.mem_map.mp w
        obtain ⟨rfl, rfl⟩ := Prod.mk.inj z
        obtain ⟨m, q⟩ := List.mem_filter.mp hg
        rw [Bool.and_eq_true] at q
        refine .inr ⟨by simp, m, ?_⟩
        have := q.1
        simpa using this
    · rintro (w | ⟨w1, w2, w3⟩)
      · exact .inl (.inl w)
      · rcases List.mem_append.mp w1 with q | q
        · exact .inl (.inr ⟨q, w2, w3⟩)
        · have q : a = e := by simpa using q
          subst q
          by_cases m : (a, b) ∈ Ps
          · exact .inl ((h.mem a b).mp m)
          · refine .inr (List.mem_map.mpr ⟨b, List.mem_filter.mpr ⟨w2, ?_⟩, rfl⟩)
            simp [m, w3]
theorem UsP.len {A : List (List Int)} {s : List Int} {k : Nat} {Ps : List E2} (h : UsP A s k Ps) (hA : ∀ r ∈ s :: A, r.length ≤ 4 ∧ ∀ x ∈ r, x ≤ 10) : Ps.length ≤ 1600 := by
  have big : ∀ r ∈ s :: A, ∀ e ∈ entL r, e ∈ entL [10, 10, 10, 10] := fun r hr e he => by
    obtain ⟨x, y, rfl, hx, hy⟩ := mem_ent.mp he
    have hs' := hA r hr
    have := hs'.2 _ (gd_mem hx)
    refine mem_ent.mpr ⟨x, y, rfl, by show x < 4; omega, ?_⟩
    have x4 : x < 4 := by omega
    have : ([10, 10, 10, 10] : List Int).getD x 0 = 10 := by
      match x, x4 with
      | 0, _ => rfl
      | 1, _ => rfl
      | 2, _ => rfl
      | 3, _ => rfl
    omega
  have l40 : (entL [10, 10, 10, 10]).length = 40 := by decide
  refine Nat.le_trans (nodup_sub (m := (entL [10, 10, 10, 10]).flatMap fun e => (entL [10, 10, 10, 10]).map fun f => (e, f)) h.nd fun p hp => ?_) ?_
  · obtain ⟨e, f⟩ := p
    have m : ∃ r ∈ s :: A, e ∈ entL r ∧ f ∈ entL r := by
      rcases (h.mem e f).mp hp with ⟨r, hr, h1, h2, _⟩ | ⟨h1, h2, _⟩
      · exact ⟨r, List.mem_cons_of_mem _ hr, h1, h2⟩
      · exact ⟨s, List.mem_cons_self, List.mem_of_mem_take h1, h2⟩
    obtain ⟨r, hr, h1, h2⟩ := m
    exact List.mem_flatMap.mpr ⟨e, big r hr e h1, List.mem_map_of_mem (big r hr f h2)⟩
  · have : ∀ (l m : List (List Int)), (l.flatMap fun e => m.map fun f => (e, f)).length = l.length * m.length := by
      intro l m
      induction l with
      | nil => simp
      | cons a l ih => rw [List.flatMap_cons, List.length_append, ih, List.length_map, List.length_cons, Nat.succ_mul]; omega
    rw [this, l40]
    decide
end Lm


namespace Lm
open PySem PySem.Spec PyProof.Rows L2

/-! ### while -/
section
variable {c : Ct} {H0 H : Hp} {O : List Addr} {σ : L2.St} {Γ : List (Option Rs)} {P : Out → Prop} {tc : TT} {tb u : TS}
theorem s_while (I : Nat → List (Option Rs) → Prop) {n0 : Nat} (h0 : I n0 Γ)
    (hs : ∀ n Γ1, I n Γ1 → ∃ b, EvT c tc Γ1 b ∧ (b = true → Sd c tb Γ1 (fun o => (∃ Γ3 m, (o = .nx Γ3 ∨ o = .ct Γ3) ∧ m < n ∧ I m Γ3) ∨ (∃ Γ3, o = .bk Γ3 ∧ P (.nx Γ3)) ∨ ∃ k d, o = .rt k d ∧ P o)) ∧ (b = false → P (.nx Γ1))) :
    Sd c (tWhile tc tb) Γ P := fun H0 O H σ D e s => by
  refine ⟨fun n σ' H' => ∃ O' Γ', I n Γ' ∧ Env c H0 O' H' σ' Γ', ⟨n0, O, Γ, h0, e⟩, ?_⟩
  rintro n σ' H' ⟨O', Γ', hI, e'⟩
  obtain ⟨b, ht, hb, hn⟩ := hs n Γ' hI
  refine ht _ _ _ _ e' _ fun H2 r2 => ?_
  cases b with
  | true =>
    rw [if_pos rfl]
    refine ⟨fun σ4 H4 => ∃ m, m < n ∧ ∃ O4 Γ4, I m Γ4 ∧ Env c H0 O4 H4 σ4 Γ4, fun σ4 H4 h => h, ?_⟩
    refine hb rfl _ _ _ _ _ (e'.on r2) fun o po => ?_
    rcases po with ⟨Γ3, m, ho, hm, h3⟩ | ⟨Γ3, ho, h3⟩ | ⟨k, d, ho, h3⟩
    · rcases ho with rfl | rfl
      · exact fun O4 H4 σ4 e4 => ⟨m, hm, O4, Γ3, h3, e4⟩
      · exact fun O4 H4 σ4 e4 => ⟨m, hm, O4, Γ3, h3, e4⟩
    · subst ho; exact fun O4 H4 σ4 e4 => s _ h3 O4 H4 σ4 e4
    · subst ho; exact s _ h3
  | false =>
    rw [if_neg (by decide)]
    exact s _ (hn rfl) _ _ _ (e'.on r2)
theorem q_while (I : Nat → List (Option Rs) → Prop) {n0 : Nat} (h0 : I n0 Γ)
    (hs : ∀ n Γ1, I n Γ1 → ∃ b, EvT c tc Γ1 b ∧ (b = true → Sd c tb Γ1 (fun o => (∃ Γ3 m, (o = .nx Γ3 ∨ o = .ct Γ3) ∧ m < n ∧ I m Γ3) ∨ (∃ Γ3, o = .bk Γ3 ∧ Sd c u Γ3 P) ∨ ∃ k d, o = .rt k d ∧ P o)) ∧ (b = false → Sd c u Γ1 P)) :
    Sd c (tSeq (tWhile tc tb) u) Γ P := by
  refine s_seq (P1 := fun o => (∃ Γ1, o = .nx Γ1 ∧ Sd c u Γ1 P) ∨ ∃ k d, o = .rt k d ∧ P o) (s_while I h0 fun n Γ1 hI => ?_) ?_ ?_ ?_ ?_
  · obtain ⟨b, ht, hb, hn⟩ := hs n Γ1 hI
    refine ⟨b, ht, fun e => (hb e).imp fun o po => ?_, fun e => .inl ⟨_, rfl, hn e⟩⟩
    rcases po with w | ⟨Γ3, ho, h3⟩ | ⟨k, d, ho, h3⟩
    · exact .inl w
    · exact .inr (.inl ⟨Γ3, ho, .inl ⟨_, rfl, h3⟩⟩)
    · exact .inr (.inr ⟨k, d, ho, .inr ⟨k, d, ho, h3⟩⟩)
  · rintro Γ1 (⟨Γ2, e, h⟩ | ⟨k, d, e, _⟩)
    · cases e; exact h
    · cases e
  · rintro k d (⟨Γ2, e, h⟩ | ⟨k', d', e, h⟩)
    · cases e
    · exact h
  · rintro Γ1 (⟨Γ2, e, h⟩ | ⟨k', d', e, h⟩) <;> cases e
  · rintro Γ1 (⟨Γ2, e, h⟩ | ⟨k', d', e, h⟩) <;> cases e
end

/-! ### levels: the mathematics -/
def bvI (own : List Int) (h : Int) (ls : List Int) : List Int := own.filter fun y => decide (wrtI h ls y = gw own h ls)
def bvL (C : List (List Int)) (f ls : List Int) : List (List Int) := (C.zip f).map fun p => bvI p.1 p.2 ls
def upS (c : Int) (p : Pk) (ls : List Int) : List Int := (List.range ls.length).map fun y => ls.getD y 0 + c * b1 (p y)
def bnd (as f : List Int) (C : List (List Int)) (ls : List Int) : Int := zs mulI as ls + gwS C f ls
theorem upS_get {c : Int} {p : Pk} {ls : List Int} {y : Nat} (h : y < ls.length) : (upS c p ls).getD y 0 = ls.getD y 0 + c * b1 (p y) := by
  unfold upS
  rw [List.getD_eq_getElem?_getD, List.getElem?_map, List.getElem?_range h]
  rfl
theorem sumM_add {α : Type} (g h : α → Int) : ∀ l : List α, (l.map fun x => g x + h x).sum = (l.map g).sum + (l.map h).sum
  | [] => rfl
  | a :: l => by simp only [List.map_cons, List.sum_cons, sumM_add g h l]; omega
theorem sumM_mul {α : Type} (c : Int) (h : α → Int) : ∀ l : List α, (l.map fun x => c * h x).sum = c * (l.map h).sum
  | [] => by simp
  | a :: l => by simp only [List.map_cons, List.sum_cons, sumM_mul c h l, Int.mul_add]
theorem zs_up {as ls : List Int} (c : Int) (p : Pk) (h : as.length = ls.length) : zs mulI as (upS c p ls) = zs mulI as ls + c * rmP as p := by
  unfold zs rmP
  rw [← sumM_mul, ← sumM_add]
  congr 1
  refine List.map_congr_left fun j hj => ?_
  have := List.mem_range.mp hj
  rw [upS_get (by omega)]
  unfold mulI b1
  rw [Int.mul_add]
  by_cases q : p j = true
  · rw [if_pos q, if_pos q, Int.mul_one, Int.mul_comm c]
  · rw [if_neg q, if_neg q]; simp
theorem wrt_up {h c : Int} {p : Pk} {ls : List Int} {y : Int} (y0 : 0 ≤ y) (yl : y < ls.length) : wrtI h (upS c p ls) y = wrtI h ls y - c * b1 (p y.toNat) := by
  unfold wrtI
  rw [upS_get (by omega)]
  omega
theorem gw_mem {own ls : List Int} {h : Int} (ne : own ≠ []) : ∃ y ∈ own, wrtI h ls y = gw own h ls := by
  obtain ⟨y, hy, e⟩ := List.mem_map.mp (mxL_mem (ns := own.map (wrtI h ls)) (by rw [List.length_map]; exact List.length_pos_iff.mpr ne))
  exact ⟨y, hy, e⟩
theorem gw_top {own ls : List Int} {h m : Int} (ne : own ≠ []) (hm : ∀ y ∈ own, wrtI h ls y ≤ m) : gw own h ls ≤ m := by
  obtain ⟨y, hy, e⟩ := gw_mem (h := h) (ls := ls) ne
  rw [← e]; exact hm y hy
theorem mem_bvI {own ls : List Int} {h y : Int} : y ∈ bvI own h ls ↔ y ∈ own ∧ wrtI h ls y = gw own h ls := by
  unfold bvI
  rw [List.mem_filter, decide_eq_true_iff]
theorem ins_iff {p : Pk} {own : List Int} : insP p own = true ↔ ∀ y ∈ own, p y.toNat = true := by
  unfold insP
  rw [List.all_eq_true]
theorem b1_nn (b : Bool) : 0 ≤ b1 b ∧ b1 b ≤ 1 := by cases b <;> simp [b1]
theorem gw_step {own ls : List Int} {h : Int} {p : Pk} (ne : own ≠ []) (hr : ∀ y ∈ own, 0 ≤ y ∧ y < ls.length) : gw own h (upS 1 p ls) = gw own h ls - b1 (insP p (bvI own h ls)) := by
  have wr : ∀ y ∈ own, wrtI h (upS 1 p ls) y = wrtI h ls y - b1 (p y.toNat) := fun y hy => by
    rw [wrt_up (hr y hy).1 (hr y hy).2]; omega
  obtain ⟨y1, m1, e1⟩ := gw_mem (h := h) (ls := upS 1 p ls) ne
  by_cases hc : insP p (bvI own h ls) = true
  · rw [hc]
    have hp := ins_iff.mp hc
    obtain ⟨y0, m0, e0⟩ := gw_mem (h := h) (ls := ls) ne
    have g0 := gw_ge (ls := upS 1 p ls) (h := h) m0
    rw [wr y0 m0, hp y0 (mem_bvI.mpr ⟨m0, e0⟩), e0] at g0
    have g1 := gw_ge (ls := ls) (h := h) m1
    rw [wr y1 m1] at e1
    show gw own h (upS 1 p ls) = gw own h ls - 1
    have b11 : b1 true = 1 := rfl
    by_cases q : wrtI h ls y1 = gw own h ls
    · rw [hp y1 (mem_bvI.mpr ⟨m1, q⟩)] at e1
      omega
    · have := b1_nn (p y1.toNat)
      omega
  · have hc' : insP p (bvI own h ls) = false := by simpa using hc
    rw [hc']
    have : ∃ y ∈ bvI own h ls, p y.toNat = false := by
      unfold insP at hc'
      rw [List.all_eq_false] at hc'
      obtain ⟨y, hy, q⟩ := hc'
      exact ⟨y, hy, by simpa using q⟩
    obtain ⟨y0, hy0, q0⟩ := this
    obtain ⟨m0, e0⟩ := mem_bvI.mp hy0
    have g0 := gw_ge (ls := upS 1 p ls) (h := h) m0
    rw [wr y0 m0, q0, e0] at g0
    have g1 := gw_ge (ls := ls) (h := h) m1
    rw [wr y1 m1] at e1
    have := b1_nn (p y1.toNat)
    have b10 : b1 false = 0 := rfl
    omega
theorem bv_cons {own : List Int} {C : List (List Int)} {h : Int} {f ls : List Int} : bvL (own :: C) (h :: f) ls = bvI own h ls :: bvL C f ls := rfl
theorem gwS_cons {own : List Int} {C : List (List Int)} {h : Int} {f ls : List Int} : gwS (own :: C) (h :: f) ls = gw own h ls + gwS C f ls := by simp [gwS]
theorem gwS_step {p : Pk} {ls : List Int} : ∀ {C : List (List Int)} {f : List Int}, C.length = f.length → [] ∉ C → Rng C ls.length → gwS C f (upS 1 p ls) = gwS C f ls - cfP (bvL C f ls) p
  | [], [], _, _, _ => by simp [gwS, bvL, cfP]
  | own :: C, h :: f, hl, ne, hr => by
    have ih := gwS_step (p := p) (ls := ls) (C := C) (f := f) (by simpa using hl) (fun z => ne (List.mem_cons_of_mem _ z)) fun o ho => hr o (List.mem_cons_of_mem _ ho)
    rw [gwS_cons, gwS_cons, bv_cons, cf_cons, ih, gw_step (fun z => ne (by rw [z]; exact List.mem_cons_self)) (hr own List.mem_cons_self)]
    omega
  | [], _ :: _, h, _, _ => by simp at h
  | _ :: _, [], h, _, _ => by simp at h
theorem bnd_step {as f ls : List Int} {C : List (List Int)} {p : Pk} (hl : C.length = f.length) (ne : [] ∉ C) (hr : Rng C ls.length) (ha : as.length = ls.length) : bnd as f C (upS 1 p ls) = bnd as f C ls + rmP as p - cfP (bvL C f ls) p := by
  unfold bnd
  rw [zs_up 1 p ha, gwS_step hl ne hr]
  omega
end Lm


namespace Lm
open PySem PySem.Spec PyProof.Rows L2

/-! ### the first levels -/
theorem vs_sizes : ∀ v < 6, (vsN v).Pairwise fun a b => a.length ≤ b.length := by decide +kernel
theorem sh_first {as : List Int} {C : List (List Int)} {s t : List Nat} (h5 : as.length ≤ 5) (h : shS as C = some s) (ht : t ∈ vsN as.length) (hl : t.length < s.length) : cfP C (inS t) ≤ roomI as t := by
  obtain ⟨_, as1, bs, e, hn⟩ := List.find?_eq_some_iff_append.mp h
  have pw := vs_sizes as.length (by omega)
  rw [e] at pw ht
  obtain ⟨_, p2, _⟩ := List.pairwise_append.mp pw
  have q := (List.pairwise_cons.mp p2).1
  rcases List.mem_append.mp ht with w | w
  · have := hn t w
    simp only [Bool.not_eq_true', decide_eq_false_iff_not] at this
    omega
  · rcases List.mem_cons.mp w with w | w
    · rw [w] at hl; omega
    · have := q t w; omega
theorem bv_point {own ls ms : List Int} {h : Int} {p q t : Pk} (le : ∀ y ∈ own, ls.getD y.toNat 0 ≤ ms.getD y.toNat 0) (hq : ∀ y ∈ own, p y.toNat = true → q y.toNat = false → ls.getD y.toNat 0 = ms.getD y.toNat 0)
    (ht : ∀ y ∈ own, p y.toNat = true → ls.getD y.toNat 0 = ms.getD y.toNat 0 → t y.toNat = true)
    (h1 : insP p (bvI own h ls) = true) (h2 : insP q (bvI own h ls) = false) : insP t (bvI own h ms) = true := by
  unfold insP at h2
  rw [List.all_eq_false] at h2
  obtain ⟨y, hy, qy⟩ := h2
  have qy : q y.toNat = false := by simpa using qy
  have hp := ins_iff.mp h1
  obtain ⟨my, ey⟩ := mem_bvI.mp hy
  have e := hq y my (hp y hy) qy
  have wle : ∀ z ∈ own, wrtI h ms z ≤ wrtI h ls z := fun z hz => by
    unfold wrtI
    have := le z hz
    omega
  have wy : wrtI h ms y = wrtI h ls y := by unfold wrtI; rw [e]
  have g1 : gw own h ms ≤ gw own h ls := gw_top (fun z => by rw [z] at my; cases my) fun z hz => by
    have a := wle z hz
    have b := gw_ge (ls := ls) (h := h) hz
    omega
  have g2 := gw_ge (ls := ms) (h := h) my
  refine ins_iff.mpr fun z hz => ?_
  obtain ⟨mz, ez⟩ := mem_bvI.mp hz
  have a := wle z mz
  have b := gw_ge (ls := ls) (h := h) mz
  have best : z ∈ bvI own h ls := mem_bvI.mpr ⟨mz, by omega⟩
  refine ht z mz (hp z best) ?_
  have : wrtI h ms z = wrtI h ls z := by omega
  unfold wrtI at this
  omega
theorem bv_count {ls ms : List Int} {p q t : Pk} : ∀ {C : List (List Int)} {f : List Int}, C.length = f.length → (∀ own ∈ C, ∀ y ∈ own, ls.getD y.toNat 0 ≤ ms.getD y.toNat 0) → (∀ own ∈ C, ∀ y ∈ own, p y.toNat = true → q y.toNat = false → ls.getD y.toNat 0 = ms.getD y.toNat 0) →
    (∀ own ∈ C, ∀ y ∈ own, p y.toNat = true → ls.getD y.toNat 0 = ms.getD y.toNat 0 → t y.toNat = true) → cfP (bvL C f ls) p ≤ cfP (bvL C f ls) q + cfP (bvL C f ms) t
  | [], [], _, _, _, _ => by simp [bvL, cfP]
  | own :: C, h :: f, hl, le, hq, ht => by
    have ih := bv_count (p := p) (q := q) (t := t) (C := C) (f := f) (by simpa using hl) (fun o ho => le o (List.mem_cons_of_mem _ ho)) (fun o ho => hq o (List.mem_cons_of_mem _ ho)) fun o ho => ht o (List.mem_cons_of_mem _ ho)
    rw [bv_cons, bv_cons, cf_cons, cf_cons, cf_cons]
    have n1 := b1_nn (insP q (bvI own h ls))
    have n2 := b1_nn (insP t (bvI own h ms))
    have n3 := b1_nn (insP p (bvI own h ls))
    have b11 : b1 true = 1 := rfl
    have b10 : b1 false = 0 := rfl
    cases e1 : insP p (bvI own h ls) with
    | false => omega
    | true =>
      cases e2 : insP q (bvI own h ls) with
      | true => omega
      | false =>
        have := bv_point (h := h) (le own List.mem_cons_self) (hq own List.mem_cons_self) (ht own List.mem_cons_self) e1 e2
        rw [this]
        omega
  | [], _ :: _, h, _, _, _ => by simp at h
  | _ :: _, [], h, _, _, _ => by simp at h
theorem nodup_lt {s t : List Nat} {y : Nat} (nd : t.Nodup) (sub : ∀ x ∈ t, x ∈ s) (hy : y ∈ s) (hn : y ∉ t) : t.length < s.length := by
  have := nodup_sub (l := y :: t) (m := s) (List.nodup_cons.mpr ⟨hn, nd⟩) fun x hx => by
    rcases List.mem_cons.mp hx with q | q
    · rw [q]; exact hy
    · exact sub x q
  rw [List.length_cons] at this
  omega
/-- a smallest set that is too small is raised below all levels that reach the bound -/
theorem below {as f ls ms : List Int} {C : List (List Int)} {s : List Nat} (h5 : as.length ≤ 5) (hl : C.length = f.length) (hr : Rng C as.length) (l1 : ls.length = as.length) (h : shS as (bvL C f ls) = some s) (hall : Hall as (bvL C f ms))
    (le : ∀ y < as.length, ls.getD y 0 ≤ ms.getD y 0) : ∀ y < as.length, (upS 1 (inS s) ls).getD y 0 ≤ ms.getD y 0 := by
  intro y hy
  rw [upS_get (by omega)]
  have a := le y hy
  by_cases ys : inS s y = true
  · by_cases eq : ls.getD y 0 = ms.getD y 0
    · exfalso
      obtain ⟨hs, short⟩ := sh_some h
      obtain ⟨t, et⟩ : ∃ t : List Nat, t = (List.range as.length).filter fun x => inS s x && !decide (ls.getD x 0 = ms.getD x 0) := ⟨_, rfl⟩
      have tv : t ∈ vsN as.length := by rw [et]; exact vs_filter ..
      have mt : ∀ x, x ∈ t ↔ x < as.length ∧ (x ∈ s ∧ ls.getD x 0 ≠ ms.getD x 0) := fun x => by
        rw [et, List.mem_filter, List.mem_range, Bool.and_eq_true]
        unfold inS
        rw [decide_eq_true_iff, Bool.not_eq_true', decide_eq_false_iff_not]
      have lt : t.length < s.length := nodup_lt (by rw [et]; exact List.nodup_range.filter _) (fun x hx => ((mt x).mp hx).2.1) (show y ∈ s from of_decide_eq_true ys) fun w => ((mt y).mp w).2.2 eq
      have few := sh_first h5 h tv lt
      rw [room_rm tv] at few
      rw [room_rm hs] at short
      have up := bv_count (ls := ls) (ms := ms) (p := inS s) (q := inS t) (t := fun x => inS s x && decide (ls.getD x 0 = ms.getD x 0)) (C := C) (f := f) hl (fun own ho z hz => by
          have := hr own ho z hz
          exact le _ (by omega)) (fun own ho z hz p1 q1 => by
          have zr := hr own ho z hz
          apply Decidable.byContradiction
          intro ne
          have : inS t z.toNat = true := decide_eq_true ((mt _).mpr ⟨by omega, of_decide_eq_true p1, ne⟩)
          rw [this] at q1; cases q1) (fun own ho z hz p1 e1 => by
          show (inS s z.toNat && decide _) = true
          rw [p1, decide_eq_true e1]; rfl)
      have ha := hall fun x => inS s x && decide (ls.getD x 0 = ms.getD x 0)
      have parts : rmP as (inS s) = rmP as (inS t) + rmP as fun x => inS s x && decide (ls.getD x 0 = ms.getD x 0) := by
        unfold rmP
        rw [← sumM_add]
        congr 1
        refine List.map_congr_left fun x hx => ?_
        have hx := List.mem_range.mp hx
        by_cases m : x ∈ s
        · have e1 : inS s x = true := decide_eq_true m
          by_cases e : ls.getD x 0 = ms.getD x 0
          · have e2 : inS t x = false := decide_eq_false fun w => ((mt x).mp w).2.2 e
            simp only [e1, e2, decide_eq_true e]; simp
          · have e2 : inS t x = true := decide_eq_true ((mt x).mpr ⟨hx, m, e⟩)
            simp only [e1, e2, decide_eq_false e]; simp
        · have e1 : inS s x = false := decide_eq_false m
          have e2 : inS t x = false := decide_eq_false fun w => m ((mt x).mp w).2.1
          simp only [e1, e2]; simp
      omega
    · have := b1_nn (inS s y)
      omega
  · have e : inS s y = false := by simpa using ys
    rw [e]
    show ls.getD y 0 + 1 * 0 ≤ _
    omega
/-- what the levels of a setting speak of -/
structure LvOk (as f : List Int) (C : List (List Int)) (v b : Nat) : Prop where
  asl : as.length = v
  fl : f.length = b
  cl : C.length = b
  mns : Mns C v
  pw : ∀ own ∈ C, own.Pairwise (· < ·)
  v5 : v ≤ 5
  b20 : b ≤ 20
  alc : Alc as (v : Int) (b : Int)
variable {as f : List Int} {C : List (List Int)} {v b : Nat}
theorem LvOk.hall_ps (h : LvOk as f C v b) : Hall as C ↔ ∃ r, r ∈ psL as v b C := by
  have hr : Rng C as.length := by rw [h.asl]; exact h.mns.rng
  have sum : as.sum = C.length := by rw [h.alc.sum, h.cl]
  constructor
  · intro ha
    exact ⟨_, (mem_ps h.asl h.cl h.mns.rng).mpr (grd_fit hr ha sum)⟩
  · rintro ⟨r, hm⟩
    exact fit_hall hr ((mem_ps h.asl h.cl h.mns.rng).mp hm)
theorem zs_b : ∀ {f r : List Int}, f.length = r.length → 0 ≤ zs ne1 f r ∧ zs ne1 f r ≤ f.length
  | [], [], _ => by simp [zs]
  | x :: f, y :: r, h => by
    have := zs_b (f := f) (r := r) (by simpa using h)
    have e : ne1 x y = if x = y then 0 else 1 := rfl
    rw [zs_cons, e, List.length_cons]
    split <;> omega
  | [], _ :: _, h => by simp at h
  | _ :: _, [], h => by simp at h
theorem LvOk.no_nil (h : LvOk as f C v b) (ha : Hall as C) : [] ∉ C := by
  obtain ⟨r, hr⟩ := h.hall_ps.mp ha
  exact (weak (ls := List.replicate v 0) h.cl h.fl (by simp) hr).1
theorem LvOk.nn (h : LvOk as f C v b) (ha : Hall as C) {ls : List Int} (hl : ls.length = v) : 0 ≤ bnd as f C ls := by
  obtain ⟨r, hr⟩ := h.hall_ps.mp ha
  have w := (weak (ls := ls) h.cl h.fl hl hr).2
  have rl := ((mem_psL (by omega)).mp hr).1
  have z := zs_b (f := f) (r := r) (by rw [h.fl, rl])
  have := h.fl
  unfold bnd
  omega
theorem LvOk.step (h : LvOk as f C v b) (ha : Hall as C) {ls : List Int} {s : List Nat} (hl : ls.length = v) (hs : shS as (bvL C f ls) = some s) : bnd as f C (upS 1 (inS s) ls) < bnd as f C ls := by
  rw [bnd_step (by rw [h.cl, h.fl]) (h.no_nil ha) (by rw [hl]; exact h.mns.rng) (by rw [h.asl, hl])]
  obtain ⟨h1, h2⟩ := sh_some hs
  rw [room_rm h1] at h2
  omega
end Lm


namespace Lm
open PySem PySem.Spec PyProof.Rows L2

/-! ### promises of keeping.py, for up to 20 buckets -/
structure ExcW (as f : List Int) (F P : List (List Int)) (v b : Nat) : Prop where
  v1 : 1 ≤ v
  v5 : v ≤ 5
  b6 : b ≤ 20
  asg : Asg f (v : Int)
  len : f.length = b
  alc : Alc as (v : Int) (b : Int)
  prd : Prd F v b
  pin : Pin P v b
theorem Exc.w {as f : List Int} {F P : List (List Int)} {v b : Nat} (h : Exc as f F P v b) : ExcW as f F P v b := ⟨h.v1, h.v5, by have := h.b6; omega, h.asg, h.len, h.alc, h.prd, h.pin⟩
variable {as f : List Int} {C : List (List Int)} {v b : Nat}
end Lm


namespace Lm
open PySem PySem.Spec PyProof.Rows L2
variable {as f : List Int} {C : List (List Int)} {v b : Nat}
theorem Prd.sub {F F' : List (List Int)} (h : Prd F v b) (s : F'.Sublist F) : Prd F' v b :=
  ⟨fun r hr => h.row r (s.subset hr), h.asc.sublist s, Nat.le_trans s.length_le h.len⟩
theorem Pin.sub {F F' : List (List Int)} (h : Pin F v b) (s : F'.Sublist F) : Pin F' v b :=
  ⟨h.toPrd.sub s, h.fst.sublist s⟩
end Lm


namespace Lm
open PySem PySem.Spec PyProof.Rows L2
section
variable {c : Ct} {H H' H0 H1 H2 H3 : Hp} {O : List Addr} {σ : L2.St} {Γ Γ' : List (Option Rs)} {te ta tx : TE} {k : Kd} {u : TS} {P : Out → Prop} {n : Nat} {x : PyData}
/-! ### where no list of one's own is alive, what a call answers may be kept, lists in it too -/
def bareB : List (Option Rs) → Bool
  | [] => true
  | some (.o _) :: _ => false
  | none :: Γ => bareB Γ
  | some (.v _) :: Γ => bareB Γ
  | some (.r _) :: Γ => bareB Γ
  | some (.d _) :: _ => false
  | some (.w _) :: _ => false
theorem Reps.bare {fp : List Addr} (h : Reps c O H σ Γ fp) : bareB Γ = true → Reps c [] H σ Γ [] := by
  induction h with
  | nil => intro _; exact .nil
  | @cons x s f fs σ Γ a b ih =>
    intro hb
    cases s with
    | none => exact .cons (f := []) (fs := []) rfl (ih hb)
    | some s =>
      cases s with
      | o d => cases hb
      | d u => cases hb
      | w ds => cases hb
      | v d =>
        obtain ⟨_, v, hv, bo⟩ := a
        exact .cons (f := []) (fs := []) ⟨rfl, v, hv, by rw [mns_nil]; exact Bo.same mns_same bo⟩ (ih hb)
      | r y => exact .cons (f := []) (fs := []) ⟨rfl, a.2⟩ (ih hb)
theorem Env.bare (e : Env c H0 O H σ Γ) (hb : bareB Γ = true) : Env c H0 [] H σ Γ := by
  obtain ⟨fp, hr, _, _⟩ := e.rep
  exact ⟨by rw [mns_nil]; exact e.rH, by rw [mns_nil]; exact e.jH, (fun a h => nomatch h), (fun a h => nomatch h), [], hr.bare hb, List.nodup_nil, fun a h => nomatch h⟩
theorem q_unpV {m : Nat} {gs : TGs} (Pd : PyData → Prop) (hb : bareB Γ = true) (h : EvN c te Γ k Pd)
    (p : ∀ d, Pd d → ∃ ds Γ' js, d = .tuple ds ∧ ds.length = m ∧ EvGs c gs (ds.map Im.d) Γ Γ' js ∧ Sd c u Γ' P) : Sd c (tSeq (tAsg te (gTupA c.K m gs)) u) Γ P := fun H0 O H σ D e0 s => by
  have e := e0.bare hb
  refine h H0 [] H σ e _ fun v d H2 pd r rs => ?_
  obtain ⟨ds, Γ', js, rfl, hn, hg, hu⟩ := p d pd
  have e2 := e.on r
  obtain ⟨a, xs, rfl, sl, al⟩ := (Res.bo e rs).tup'
  exact ⟨a, xs, rfl, .inl sl.sq, al.len.trans hn, hg H0 [] H2 σ H2 true xs e2 e2.jH Rr.rf (fun _ => by rw [mns_nil]; exact Rr.rf) (.ofFz al) _ fun σ' e' _ => hu H0 [] H2 σ' D e' s⟩
end

/-! ### any evidence (k80) -/
end Lm


namespace Lm
open PySem PySem.Spec PyProof.Rows L2

/-! ### buckets and variants renamed in a setting -/
structure RnS (as as' : List Int) (C C' : List (List Int)) (v b : Nat) (os io nm im : List Int) : Prop where
  o : IsOrd os (b : Int)
  oi : IsOrd io (b : Int)
  q : IsOrd nm (v : Int)
  qi : IsOrd im (v : Int)
  o1 : ∀ k < b, gI io (gI os ((k : Nat) : Int)) = (k : Int)
  o2 : ∀ k < b, gI os (gI io ((k : Nat) : Int)) = (k : Int)
  q1 : ∀ k < v, gI im (gI nm ((k : Nat) : Int)) = (k : Int)
  q2 : ∀ k < v, gI nm (gI im ((k : Nat) : Int)) = (k : Int)
  al : as.length = v
  al' : as'.length = v
  cl : C.length = b
  cl' : C'.length = b
  rg : Rng C v
  rg' : Rng C' v
  sh : ∀ y < v, gI as' (gI nm ((y : Nat) : Int)) = gI as (y : Int)
  mn : ∀ k < b, ∀ y < v, (gI nm ((y : Nat) : Int) ∈ C'.getD (gI os ((k : Nat) : Int)).toNat [] ↔ (y : Int) ∈ C.getD k [])
section
variable {as as' f f' os io nm im : List Int} {C C' : List (List Int)} {v b : Nat}
theorem ord_nat {os : List Int} {m : Nat} (o : IsOrd os (m : Int)) {k : Nat} (hk : k < m) : ∃ j : Nat, gI os (k : Int) = (j : Int) ∧ j < m := by
  have r := o.rng _ (gd_mem (l := os) (j := k) (by have := o.len; omega))
  exact ⟨(os.getD k 0).toNat, by show os.getD k 0 = _; omega, by omega⟩
theorem RnS.symm (h : RnS as as' C C' v b os io nm im) : RnS as' as C' C v b io os im nm := by
  refine ⟨h.oi, h.o, h.qi, h.q, h.o2, h.o1, h.q2, h.q1, h.al', h.al, h.cl', h.cl, h.rg', h.rg, fun y hy => ?_, fun k hk y hy => ?_⟩
  · obtain ⟨z, ez, hz⟩ := ord_nat h.qi hy
    have := h.sh z hz
    rw [← ez, h.q2 y hy] at this
    exact this.symm
  · obtain ⟨z, ez, hz⟩ := ord_nat h.qi hy
    obtain ⟨j, ej, hj⟩ := ord_nat h.oi hk
    have := h.mn j hj z hz
    rw [← ez, ← ej, h.q2 y hy, h.o2 k hk, Int.toNat_natCast, ez] at this
    rw [ez, ej, Int.toNat_natCast]
    exact this.symm
end
end Lm


namespace Lm
open PySem PySem.Spec PyProof.Rows L2
/-! ### a def that answers or raises -/
theorem fn_or {P : Program} {w : World} {K : PySem.W.Frag} {mg : Str → Option Value} {base : Heap} {CX : CXT} {k : Nat} {f : Addr} {fd : FuncData} {ps : List Str} {sp sp' : Sp} (F : FnOk P w K mg base CX k f fd ps sp) (G : FnOk P w K mg base CX k f fd ps sp') :
    FnOk P w K mg base CX k f fd ps (fun vs H Q E => sp vs H Q E ∨ sp' vs H Q E) :=
  ⟨fun vs H Q E h => h.elim (F.len vs H Q E) (G.len vs H Q E), fun A outer s H args us vs Q E hr he hb hv hs => hs.elim (F.run A outer s H args us vs Q E hr he hb hv) (G.run A outer s H args us vs Q E hr he hb hv)⟩
end Lm


/-! itertools.permutations(range(n), k), walked -/
namespace PrmK
open PySem PySem.Spec PyProof.Rows L2
end PrmK


/-! itertools.permutations(range(n), k): made, its turns -/
namespace PrmK
open PySem PySem.Spec PyProof.Rows L2
end PrmK


/-! itertools.permutations: its turns -/
namespace PrmK
open PySem PySem.Spec PyProof.Rows L2
section
variable {prog : Program} {w : World} {A : Around} {E : Value → Shared → Prop} {s : Shared} {it T : Addr} {bf : Value} {ns : List Nat} {r : Nat} {xs : Array Value}
end
end PrmK


/-! itertools.permutations(range(n), k): made, its turns -/
namespace PrmK
open PySem PySem.Spec PyProof.Rows L2
end PrmK


/-! list(permutations(range(n))) -/
namespace PrmK
open PySem PySem.Spec PyProof.Rows L2
end PrmK
namespace Lm
open PySem PySem.Spec PyProof.Rows L2 PrmK
section
variable {prog : Program} {w : World} {A : Around} {E : Value → Shared → Prop} {s : Shared} {it T : Addr} {n k : Nat} {seq : List PrS} {xs : Array Value}
end
section
variable {prog : Program} {w : World} {A : Around} {R : Result → Shared → Prop}
end
section
variable {prog : Program} {w : World} {A : Around} {E : Value → Shared → Prop} {s : Shared}
end
section
variable {c : Ct} {H H' : Hp} {Γ : List (Option Rs)} {te : TE} {kd : Kd}
end
end Lm


/-! sorted(xs), xs a list of data that can be compared -/
namespace L2
open PySem PySem.Spec PyProof.Rows
end L2
namespace Lm
open PySem PySem.Spec PyProof.Rows L2
section
variable {X : Cx} {K : PySem.W.Frag} (hK : X.K = K)
include hK
end
section
variable {c : Ct} {Γ : List (Option Rs)} {te : TE} {k : Kd}
end
end Lm


/-! a comprehension whose items stay, lists in them too; a for loop over such things -/
namespace Lm
open PySem PySem.Spec PyProof.Rows L2
section
variable {c : Ct} {H H' H0 H1 H2 H3 H4 : Hp} {O : List Addr} {σ : L2.St} {Γ Γ' : List (Option Rs)} {te ta tb tx : TE} {tr : TA} {k ka kb : Kd} {u : TS} {P : Out → Prop} {n : Nat} {x d : PyData} {ds : List PyData} {fz : Bool}
theorem mns_own {D : Addr} {o : HO} (hD : H D = none) : mns (upd H D o) (D :: O) = mns H O := by
  funext a
  by_cases q : a = D
  · subst q
    rw [mns_in (by simp)]
    by_cases w : a ∈ O
    · rw [mns_in w]
    · rw [mns_out w, hD]
  · by_cases w : a ∈ O
    · rw [mns_in w, mns_in (by simp [w])]
    · rw [mns_out w, mns_out (by simp [w, q]), upd_ne q]
end
end Lm
namespace Lm
open PySem PySem.Spec PyProof.Rows L2
/-! ### any value: what shows that a set is too small -/
def SmF (x : PyData) : Prop := ∀ es, x = .tuple es → es.length < 64
theorem SmF.t {x : PyData} (h : SmF x) : SmallT x := fun es e => by have := h es e; omega
end Lm
namespace Lm
open PySem PySem.Spec PyProof.Rows L2
end Lm
namespace Lm
open PySem PySem.Spec PyProof.Rows L2
end Lm


namespace Lm
open PySem PySem.Spec PyProof.Rows L2
section
variable {c : Ct} {H H' H0 H1 H2 H3 H4 : Hp} {O : List Addr} {σ : L2.St} {Γ Γ' : List (Option Rs)} {te ta tb tx : TE} {tt : TT} {tr : TA} {k ka kb : Kd} {u : TS} {n : Nat} {x d : PyData} {ds : List PyData} {fz : Bool}
end
theorem smf_len {es : List PyData} (h : es.length < 64) : SmF (.tuple es) := fun es' e => by cases e; exact h
theorem smf_tup {ns : List Int} (h : ns.length < 64) : SmF (tupD ns) := smf_len (by simpa using h)
theorem smf_no {x : PyData} (h : ∀ es, x ≠ .tuple es) : SmF x := fun es e => absurd e (h es)
end Lm


/-! displays of which some items are drawn -/
namespace Lm
open PySem PySem.Spec PyProof.Rows L2
def EvAN (c : Ct) (ta : TA) (Γ : List (Option Rs)) (Pd : List PyData → Prop) : Prop :=
  ∀ H0 O H σ, Env c H0 O H σ Γ → ∀ Q : List V → Hp → Prop, (∀ vs ds H2, Pd ds → Rr c H H2 → BoAll c (mns H2 O) vs ds → Q vs H2) → ta σ H Q
section
variable {c : Ct} {H H' H0 H1 H2 H3 H4 : Hp} {O : List Addr} {σ : L2.St} {Γ Γ' : List (Option Rs)} {te ta tb tx : TE} {tr : TA} {k ka kb : Kd} {u : TS} {n : Nat} {x d : PyData} {ds : List PyData} {P P' : PyData → Prop} {Pd : List PyData → Prop}
theorem an_nil : EvAN c tNil Γ (fun ds => ds = []) := fun H0 O H σ e Q q => q [] [] H rfl Rr.rf .nil
theorem an_cons {P2 : List PyData → Prop} (h : EvN c te Γ .v P) (t : EvAN c tr Γ P2) : EvAN c (tCons te tr) Γ (fun ds => ∃ d es, ds = d :: es ∧ P d ∧ P2 es) := fun H0 O H σ e Q q =>
  h H0 O H σ e _ fun v d H1 pd r1 s1 => t H0 O H1 σ (e.on r1) _ fun vs es H2 pe r2 s2 => by
    have b1 : Bo c (mns H2 O) v d := Res.on (k := .v) e r1 r2 s1
    exact q (v :: vs) (d :: es) H2 ⟨d, es, rfl, pd, pe⟩ (r1.tr r2) (.cons b1 s2)
theorem an_consD (h : Ev c te Γ .v d) {P2 : List PyData → Prop} (t : EvAN c tr Γ P2) : EvAN c (tCons te tr) Γ (fun ds => ∃ d' es, ds = d' :: es ∧ d' = d ∧ P2 es) := an_cons h.n t
theorem n_lstVN (h : EvAN c tr Γ Pd) (hl : ∀ ds, Pd ds → ds.length ≤ 1000000) : EvN c (tLst tr) Γ .v (fun d => ∃ ds, d = .list ds ∧ Pd ds) := fun H0 O H σ e Q q =>
  h H0 O H σ e _ fun vs ds H1 pd r s => by
    refine ⟨by rw [s.len]; exact sizeOk (hl ds pd), fun p hp => q _ _ _ ⟨ds, rfl, pd⟩ (r.tr (Rr.same fun b u z => by rw [upd_ne (ne_of_none z hp)]; exact z)) (newV (H := H1) (e.on r) s hp)⟩
theorem EvAN.imp {P2 : List PyData → Prop} (h : EvAN c tr Γ Pd) (i : ∀ ds, Pd ds → P2 ds) : EvAN c tr Γ P2 := fun H0 O H σ e Q q => h H0 O H σ e Q fun vs ds H2 p => q vs ds H2 (i ds p)
end
theorem smf_i {i : Int} : SmF (.int i) := smf_no fun es e => by cases e
end Lm


/-! sorted(xs, key=len), xs a list of lists -/
namespace L2
open PySem PySem.Spec PyProof.Rows
end L2
namespace L2
open PySem PySem.Spec PyProof.Rows
end L2
namespace Lm
open PySem PySem.Spec PyProof.Rows L2
def lenI (a b : List Int) : Bool := decide ((a.length : Int) ≤ (b.length : Int))
section
variable {c : Ct} {Γ : List (Option Rs)} {te : TE} {k : Kd}
end
end Lm
namespace Lm
open PySem PySem.Spec PyProof.Rows L2
end Lm
namespace Lm
open PySem PySem.Spec PyProof.Rows L2
end Lm
namespace Lm
open PySem PySem.Spec PyProof.Rows L2
end Lm
namespace Lm
open PySem PySem.Spec PyProof.Rows L2
def SmL (x : PyData) : Prop := ∀ es, x = .tuple es → es.length ≤ 1000 ∧ ∀ r ∈ es, SmF r
end Lm


/-! lists by whomever (k56) -/
namespace Lm
open PySem PySem.Spec PyProof.Rows L2
/-! ### rules: a slice whose end is drawn, tuples of which one is drawn -/
section
variable {c : Ct} {H H' H0 H1 H2 H3 : Hp} {O : List Addr} {Γ Γ' Γ1 : List (Option Rs)}
variable {te ta tb tx : TE} {tl th : TO} {k ka kb : Kd} {d x y z : PyData} {i j : Int} {a b : Bool} {ds es : List PyData}
end
/-! ### the mathematics -/
inductive RwX : PyData → Prop
  | row {ns : List Int} : ns.length ≤ 60 → RwX (tupD ns)
  | bad {ns : List Int} : ns.length ≤ 60 → RwX (.tuple (ns.map .int ++ [.bool true]))
  | int (i : Int) : RwX (.int i)
def LsX (x : PyData) : Prop := x = .none ∨ (∃ xs, x = .list xs) ∨ ∃ es, x = .tuple es ∧ es.length ≤ 10 ∧ ∀ e ∈ es, RwX e
theorem RwX.sm {e : PyData} (h : RwX e) : SmF e := by
  cases h with
  | row h => exact smf_tup (by omega)
  | bad h => exact smf_len (by simp; omega)
  | int i => exact smf_i
theorem LsX.sm {x : PyData} (h : LsX x) : SmL x := fun es e => by
  subst e
  rcases h with h | ⟨xs, h⟩ | ⟨es', h, hl, hr⟩
  · cases h
  · cases h
  · cases h
    exact ⟨by omega, fun r hr' => (hr r hr').sm⟩
/-! ### the promises -/
end Lm


/-! a dict of one's own whose values are scalars -/
namespace Lm
open PySem PySem.Spec PyProof.Rows L2
section
variable {c : Ct} {H H' H0 H1 H2 H3 : Hp} {O : List Addr} {σ : L2.St} {Γ Γ' : List (Option Rs)} {te ta tb tx : TE} {k ka kb : Kd} {u : TS} {P : Out → Prop} {n : Nat} {x d : PyData} {i : Int}
/-- a slot is given a new dict -/
theorem Env.setD (e : Env c H0 O H σ Γ) {i : Nat} {p : Addr} {u : HO} (hp : H p = none) (hu : OwnU u) : Env c H0 (p :: O) (upd H p u) (σ.set i (some (.ref p))) (Γ.set i (some (.d u))) := by
  have sm : Same H (upd H p u) := fun b o z => by rw [upd_ne (ne_of_none z hp)]; exact z
  have r : Rr c H (upd H p u) := Rr.same sm
  have e' := e.on r
  have hO : p ∉ O := new_notO e hp
  have hn : mns H O p = none := by rw [mns_out hO]; exact hp
  have em : mns (upd H p u) (p :: O) = mns H O := by
    funext a
    by_cases q : a = p
    · subst q
      rw [mns_in (by simp), hn]
    · by_cases w : a ∈ O
      · rw [mns_in w, mns_in (by simp [w])]
      · rw [mns_out w, mns_out (by simp [w, q]), upd_ne q]
  refine ⟨by rw [em]; exact e.r0, by rw [em]; exact e.j, fun a ha => ?_, fun a ha => ?_, ?_⟩
  · rcases List.mem_cons.mp ha with q | q
    · rw [q]; exact e.back0 hn
    · exact e.fr a q
  · rcases List.mem_cons.mp ha with q | q
    · rw [q]; exact ⟨u, upd_same, hu⟩
    · exact e'.dm a q
  · obtain ⟨fp, hr, nd, sub⟩ := e.rep
    have keep : ∀ y t g, (∀ a ∈ g, a ∈ O) → RepO c O H y t g → RepO c (p :: O) (upd H p u) y t g := fun y t g hg z => by
      cases t with
      | none => exact z
      | some t =>
        cases t with
        | v d => exact ⟨z.1, z.2.elim fun v hv => ⟨v, hv.1, by rw [em]; exact hv.2⟩⟩
        | o d => exact z.elim fun v hv => ⟨v, hv.1, hv.2.up (fun _ _ s => r.tup e.jH s) fun a ha o ho => r.1 a o (e.okO a (hg a ha)) ho⟩
        | r y => exact z
        | d u => exact z.elim fun a ⟨w1, w2, w3, w4⟩ => ⟨a, w1, w2, r.1 a _ (e.okO a (hg a (by rw [w1]; simp))) w3, w4⟩
        | w ds => exact z.elim fun a ⟨xs, w1, w2, w3, w4⟩ => ⟨a, xs, w1, w2, r.1 a _ (e.okO a (hg a (by rw [w1]; simp))) w3, by rw [em]; exact w4⟩
    by_cases hi : i < Γ.length
    · obtain ⟨x, g, pre, post, h1, h2, h3, h4⟩ := hr.nth (s := Γ[i]) (List.getElem?_eq_getElem hi)
      subst h3
      refine ⟨pre ++ ([p] ++ post), h4 _ _ _ _ [p] (fun y t g' q z => keep y t g' (fun a ha => sub a (by have := q a ha; simp at this ⊢; rcases this with w | w <;> simp [w])) z) ⟨p, rfl, rfl, upd_same, hu⟩, ?_, fun a ha => ?_⟩
      · have n0 : (pre ++ post).Nodup := nd.sublist (by simp)
        rw [List.nodup_append] at n0 ⊢
        refine ⟨n0.1, ?_, ?_⟩
        · rw [List.nodup_append]
          refine ⟨by simp, n0.2.1, fun a ha b' hb q => ?_⟩
          subst q
          rw [List.mem_singleton.mp ha] at hb
          exact hO (sub p (by simp [hb]))
        · intro a ha b' hb q
          subst q
          rcases List.mem_append.mp hb with w | w
          · rw [List.mem_singleton.mp w] at ha
            exact hO (sub p (by simp [ha]))
          · exact n0.2.2 a ha a w rfl
      · simp only [List.mem_append, List.mem_cons, List.not_mem_nil, or_false] at ha ⊢
        rcases ha with q | q | q
        · exact .inr (sub a (by simp [q]))
        · exact .inl q
        · exact .inr (sub a (by simp [q]))
    · have hs : ¬ i < σ.length := by rw [hr.len]; exact hi
      rw [List.set_eq_of_length_le (by omega), List.set_eq_of_length_le (by omega)]
      exact ⟨fp, hr.map fun x s g q z => keep x s g (fun a ha => sub a (q a ha)) z, nd, fun a ha => by simp [sub a ha]⟩
/-- a dict of one's own is written -/
theorem Env.writeD (e : Env c H0 O H σ Γ) {i : Nat} {u w : HO} (h : Γ[i]? = some (some (.d u))) (hw : OwnU w) : ∃ p, σ[i]? = some (some (.ref p)) ∧ H p = some u ∧ p ∈ O ∧ Env c H0 O (upd H p w) σ (Γ.set i (some (.d w))) := by
  obtain ⟨fp, hr, nd, sub⟩ := e.rep
  obtain ⟨x, f0, pre, post, h1, h2, h3, h4⟩ := hr.nth h
  obtain ⟨p, rfl, rfl, hp, hu⟩ := h2
  subst h3
  have hpO : p ∈ O := sub p (by simp)
  have n2 := (List.nodup_append.mp nd).2.1
  refine ⟨p, h1, hp, hpO, ?_⟩
  have em : mns (upd H p w) O = mns H O := by
    funext a
    by_cases ha : a ∈ O
    · rw [mns_in ha, mns_in ha]
    · rw [mns_out ha, mns_out ha, upd_ne (fun z => ha (by rw [z]; exact hpO))]
  refine ⟨by rw [em]; exact e.r0, by rw [em]; exact e.j, e.fr, fun a ha => ?_, ?_⟩
  · by_cases q : a = p
    · rw [q]; exact ⟨_, upd_same, hw⟩
    · rw [upd_ne q]; exact e.dm a ha
  · have hσ : σ.set i (some (.ref p)) = σ := by
      obtain ⟨hlt, e1⟩ := List.getElem?_eq_some_iff.mp h1
      rw [← e1]
      exact List.set_getElem_self hlt
    have np : ∀ a, a ∈ pre ++ post → a ≠ p := fun a hm z => by
      subst z
      rcases List.mem_append.mp hm with v | v
      · exact (List.nodup_append.mp nd).2.2 a v a (by simp) rfl
      · exact (List.nodup_append.mp n2).2.2 a (by simp) a v rfl
    have := h4 O (upd H p w) (some (.ref p)) (some (.d w)) [p] (fun y t g q z => ?_) ⟨p, rfl, rfl, upd_same, hw⟩
    · rw [hσ] at this
      exact ⟨_, this, nd, sub⟩
    · cases t with
      | none => exact z
      | some t =>
        cases t with
        | v d => exact ⟨z.1, z.2.elim fun v hv => ⟨v, hv.1, by rw [em]; exact hv.2⟩⟩
        | o d =>
          refine z.elim fun v hv => ⟨v, hv.1, hv.2.up (fun _ _ s => sqT_updO hp hu s) fun a ha o ho => ?_⟩
          rw [upd_ne (np a (q a ha))]
          exact ho
        | r y => exact z
        | d u2 =>
          refine z.elim fun a ⟨w1, w2, w3, w4⟩ => ⟨a, w1, w2, ?_, w4⟩
          rw [upd_ne (np a (q a (by rw [w1]; simp)))]
          exact w3
        | w ds =>
          refine z.elim fun a ⟨xs, w1, w2, w3, w4⟩ => ⟨a, xs, w1, w2, ?_, by rw [em]; exact w4⟩
          rw [upd_ne (np a (q a (by rw [w1]; simp)))]
          exact w3
/-! ### rules -/
end
end Lm
namespace Lm
open PySem PySem.Spec PyProof.Rows L2
end Lm


/-! the first list that serves (k55, k20) -/
namespace Lm
open PySem PySem.Spec PyProof.Rows L2
/-! ### sets that grow, each ascending -/
def addF (acc row : List Int) : List Int := acc ++ row.filter fun x => !decide (x ∈ acc)
structure Grow (acc : List Int) (R : List (List Int)) : Prop where
  nd : acc.Nodup
  asc : ∀ S ∈ R, S.Pairwise (· < ·)
  sub : ∀ S ∈ R, ∀ x ∈ acc, x ∈ S
  pw : R.Pairwise fun S T => ∀ x ∈ S, x ∈ T
theorem asc_nd {S : List Int} (h : S.Pairwise (· < ·)) : S.Nodup := h.imp fun w e => by omega
theorem add_perm {acc S : List Int} (nd : acc.Nodup) (ns : S.Nodup) (sub : ∀ x ∈ acc, x ∈ S) : (addF acc S).Perm S := by
  unfold addF
  refine (List.perm_ext_iff_of_nodup ?_ ns).mpr fun x => ?_
  · rw [List.nodup_append]
    exact ⟨nd, ns.filter _, fun a ha b hb e => by
      have := (List.mem_filter.mp hb).2
      rw [e] at ha
      simp [ha] at this⟩
  · rw [List.mem_append, List.mem_filter]
    constructor
    · rintro (h | h)
      · exact sub x h
      · exact h.1
    · intro h
      by_cases q : x ∈ acc
      · exact .inl q
      · exact .inr ⟨h, by simp [q]⟩
theorem Grow.step {acc S : List Int} {R : List (List Int)} (h : Grow acc (S :: R)) : (addF acc S).Perm S ∧ Grow (addF acc S) R := by
  have p1 := List.pairwise_cons.mp h.pw
  have p := add_perm h.nd (asc_nd (h.asc S (by simp))) (h.sub S (by simp))
  exact ⟨p, ⟨p.nodup_iff.mpr (asc_nd (h.asc S (by simp))), fun T hT => h.asc T (by simp [hT]), fun T hT x hx => p1.1 T hT x (p.mem_iff.mp hx), p1.2⟩⟩
theorem Grow.fold : ∀ {R : List (List Int)} {acc : List Int}, Grow acc R → acc <+: R.foldl addF acc ∧ (R.foldl addF acc).Nodup ∧ (∀ S ∈ R, ((R.foldl addF acc).take S.length).Perm S) ∧ ∀ S, R.getLast? = some S → (R.foldl addF acc).Perm S
  | [], acc, h => ⟨List.prefix_refl _, h.nd, (fun S hS => nomatch hS), fun S hS => nomatch hS⟩
  | S :: R, acc, h => by
    obtain ⟨p, g⟩ := h.step
    obtain ⟨i1, i2, i3, i4⟩ := g.fold
    rw [List.foldl_cons]
    refine ⟨(List.prefix_append _ _).trans i1, i2, fun T hT => ?_, fun T hT => ?_⟩
    · rcases List.mem_cons.mp hT with w | w
      · obtain ⟨t, ht⟩ := i1
        rw [w, ← ht, List.take_append_of_le_length (by rw [p.length_eq]; exact Nat.le_refl _), List.take_of_length_le (by rw [p.length_eq]; exact Nat.le_refl _)]
        exact p
      · exact i3 T w
    · cases R with
      | nil =>
        have : T = S := by simpa using hT.symm
        rw [this]; exact p
      | cons U R => exact i4 T (by simpa using hT)
end Lm
namespace Lm
open PySem PySem.Spec PyProof.Rows L2
/-- sets of which any two are one in the other, by size -/
structure Chn (M : List (List Int)) : Prop where
  asc : ∀ S ∈ M, S.Pairwise (· < ·)
  sub : ∀ S ∈ M, ∀ T ∈ M, S.length ≤ T.length → ∀ x ∈ S, x ∈ T
theorem sort_mem {M : List (List Int)} {S : List Int} : S ∈ M.mergeSort lenI ↔ S ∈ M := (List.mergeSort_perm _ _).mem_iff
theorem sort_len (M : List (List Int)) : (M.mergeSort lenI).Pairwise fun S T => S.length ≤ T.length := by
  have := List.pairwise_mergeSort (le := lenI) (fun a b c h1 h2 => by unfold lenI at *; simp at *; omega) (fun a b => by unfold lenI; simp; omega) M
  exact this.imp fun h => by unfold lenI at h; simp at h; omega
theorem Chn.grow {M : List (List Int)} (h : Chn M) : Grow [] (M.mergeSort lenI) := ⟨List.nodup_nil, fun S hS => h.asc S (sort_mem.mp hS), (fun S _ x hx => nomatch hx), by
  have := sort_len M
  exact this.imp_of_mem fun {S T} hS hT l => h.sub S (sort_mem.mp hS) T (sort_mem.mp hT) l⟩
def slM (M : List (List Int)) : List Int := (M.mergeSort lenI).foldl addF []
theorem Chn.nd {M : List (List Int)} (h : Chn M) : (slM M).Nodup := h.grow.fold.2.1
theorem Chn.take {M : List (List Int)} (h : Chn M) {S : List Int} (hS : S ∈ M) : ((slM M).take S.length).Perm S := h.grow.fold.2.2.1 S (sort_mem.mpr hS)
/-- as long as the greatest, and nothing besides -/
theorem Chn.whole {M : List (List Int)} (h : Chn M) : (slM M = [] ∧ M = []) ∨ ∃ S ∈ M, (slM M).Perm S ∧ ∀ T ∈ M, T.length ≤ S.length := by
  cases e : (M.mergeSort lenI).getLast? with
  | none =>
    left
    have e := List.getLast?_eq_none_iff.mp e
    have : M = [] := List.eq_nil_of_length_eq_zero (by rw [← List.length_mergeSort (le := lenI) M, e]; rfl)
    exact ⟨by unfold slM; rw [e]; rfl, this⟩
  | some S =>
    right
    have hm := List.mem_of_getLast? e
    refine ⟨S, sort_mem.mp hm, h.grow.fold.2.2.2 S e, fun T hT => ?_⟩
    have hT := sort_mem.mpr hT
    obtain ⟨ys, ey⟩ := List.getLast?_eq_some_iff.mp e
    rw [ey] at hT
    have pw := sort_len M
    rw [ey, List.pairwise_append] at pw
    rcases List.mem_append.mp hT with w | w
    · exact pw.2.2 T w S (by simp)
    · rw [List.mem_singleton.mp w]; exact Nat.le_refl _
theorem Chn.mem {M : List (List Int)} (h : Chn M) {x : Int} (hx : x ∈ slM M) : ∃ S ∈ M, x ∈ S := by
  rcases h.whole with ⟨e, _⟩ | ⟨S, hS, p, _⟩
  · rw [e] at hx; cases hx
  · exact ⟨S, hS, p.mem_iff.mp hx⟩
/-! ### the first list of a rule (k55) -/
end Lm


/-! first lists of a table (k20, k21) -/
namespace Lm
open PySem PySem.Spec PyProof.Rows L2
/-! ### the full lists -/
def rngI (b : Nat) : List Int := (List.range b).map fun (i : Nat) => (i : Int)
theorem mem_rngI {b : Nat} {x : Int} : x ∈ rngI b ↔ 0 ≤ x ∧ x < b := by
  unfold rngI
  rw [List.mem_map]
  constructor
  · rintro ⟨i, hi, rfl⟩
    have := List.mem_range.mp hi
    omega
  · intro h
    exact ⟨x.toNat, List.mem_range.mpr (by omega), by omega⟩
/-! ### the promises -/
end Lm


/-! defs that answer or raise: promises, and what raises within a body -/
namespace Lm
open PySem PySem.Spec PyProof.Rows L2
def spRef (K : PySem.W.Frag) (C : Addr) (R : List PyData → Str → Prop) : Sp := fun vs H Q E => ∃ ds nm, BoAll (pc K) H vs ds ∧ R ds nm ∧ ∀ dx H1, Same H H1 → H1 dx = some (.xd [("name", .str nm)]) → E (.ref C) (some dx) H1
abbrev spDR (K : PySem.W.Frag) (C : Addr) (sp : Sp) (R : List PyData → Str → Prop) : Sp := fun vs H Q E => sp vs H Q E ∨ spRef K C R vs H Q E
section
variable {K : PySem.W.Frag} {C : Addr} {H0 : Hp} {Γ : List (Option Rs)} {σ : L2.St} {te tf : TE} {ta : TA} {tt : TT} {t u : TS} {k kb : Kd} {d x : PyData} {n : Nat} {nm : Str} {ds : List PyData} {R : List PyData → Str → Prop} {sp : Sp} {E : XK} {W : L2.St → XK} {a : Bool}
/-- te raises -/
def EvRz (c : Ct) (H0 : Hp) (te : TE) (Γ : List (Option Rs)) : Prop := ∀ O H σ Q, Env c H0 O H σ Γ → te σ H Q
theorem same_of {H H1 : Hp} (e : Env (pc K) H0 O H σ Γ) (r : Rr (pc K) H H1) {H2 : Hp} (sm : Same H1 H2) : Same H0 H2 := fun a o w => sm a o ((e.rH.tr r).1 a o (fun _ _ w => nomatch w) w)
theorem x_ref (ha : EvA (pc K) ta Γ false ds) (hr : R ds nm) (hE : ∀ dx H1, Same H0 H1 → H1 dx = some (.xd [("name", .str nm)]) → E (.ref C) (some dx) H1) : EvRz (pc K) H0 (tCall (spDR K C sp R) [] E ta) Γ := fun O H σ Q e =>
  ha H0 O H σ e _ fun vs H1 r s => .inr ⟨ds, nm, by rw [List.append_nil]; exact s, hr, fun dx H2 sm z => hE dx H2 (same_of e r sm) z⟩
theorem xl_req (hz : nm.length ≤ 1000) (hE : ∀ dx H1, Same H0 H1 → H1 dx = some (.xd [("name", .str nm)]) → E (.ref C) (some dx) H1) (h : Ev (pc K) te Γ k (.bool false)) : SdX (pc K) H0 (tDrop (tCall (spReq C) [] E (tCons te (tCons (tC (.str nm)) tNil)))) Γ := fun O H σ D e =>
  h H0 O H σ e _ fun v H1 r s => ⟨false, nm, by rw [(Res.bo e s).bl']; rfl, hz, (fun w => nomatch w), fun _ dx hdx => hE dx _ (fun a o z => by
    have z1 : H1 a = some o := (e.rH.tr r).1 a o (fun _ _ w => nomatch w) z
    rw [upd_ne (ne_of_none z1 hdx)]
    exact z1) upd_same⟩
theorem x_seq {c : Ct} (h : SdX c H0 t Γ) : SdX c H0 (tSeq t u) Γ := fun O H σ D e => h O H σ _ e
theorem x_dropE {c : Ct} (h : EvRz c H0 te Γ) : SdX c H0 (tDrop te) Γ := fun O H σ D e => h O H σ _ e
theorem x_retE {c : Ct} (h : EvRz c H0 te Γ) : SdX c H0 (tRet te) Γ := fun O H σ D e => h O H σ _ e
theorem run_ref {N : List Str} {t : TS} {vs : List V} {H : Hp} {Q : VK}
    (hs : ∀ ds nm, R ds nm → (∀ dx H1, Same H H1 → H1 dx = some (.xd [("name", .str nm)]) → E (.ref C) (some dx) H1) → SdX (pc K) H t (argsG ds N.length)) (h : spRef K C R vs H Q E) : t { nx := fun _ H' => Q .non H', rt := Q } (start N vs) H := by
  obtain ⟨ds, nm, hb, hd, hE⟩ := h
  exact hs ds nm hd hE [] H (start N vs) _ (env_args Ji.pc hb)
/-! under try, where nothing is assigned -/
end
/-- a slice of a list that stays -/
theorem e_slLV {c : Ct} {tl th : TO} {lo hi : Option Int} (h : Ev c te Γ .v (.list ds)) (h1 : Eo c tl Γ lo) (h2 : Eo c th Γ hi) : Ev c (tSl (rSlU c.K) te tl th) Γ .v (.list (Lm.cutD ds lo hi)) := fun H0 O H σ e Q q =>
  h H0 O H σ e _ fun v H1 r1 s1 => h1 H0 O H1 σ (e.on r1) _ fun H2 r2 => h2 H0 O H2 σ ((e.on r1).on r2) _ fun H3 r3 => .inr <| by
    have r : Rr c H H3 := (r1.tr r2).tr r3
    have bv : Bo c (mns H3 O) v (.list ds) := Res.on (k := .v) e r1 (r2.tr r3) s1
    obtain ⟨p, xs, rfl, _, s, al⟩ := bv.lst'
    refine ⟨p, xs, rfl, mns_same.seq s, fun p' hp => ?_⟩
    exact q _ _ (r.tr (Rr.same fun b u z => by rw [upd_ne (ne_of_none z hp)]; exact z)) (newV (H := H) (e.on r) al.cut hp)
/-! ### who raises what -/
/-! ### k26 -/
end Lm


/-! what lists give, told or refused (k22) -/
namespace Lm
open PySem PySem.Spec PyProof.Rows L2
section
variable {K : PySem.W.Frag} {C : Addr} {σ : L2.St} {nm : Str}
end
/-! ### any value as an allocation -/
/-! ### what is due -/
/-! ### lists of distinct buckets -/
structure Dst (r : List Int) : Prop where
  nd : r.Nodup
  rg : ∀ x ∈ r, 0 ≤ x ∧ x < 20
theorem Dst.len {r : List Int} (h : Dst r) : r.length ≤ 20 := by
  have := List.Nodup.length_le_of_subset (l₁ := r) (l₂ := rngI 20) h.nd fun x hx => by
    have := h.rg x hx
    exact mem_rngI.mpr (by omega)
  unfold rngI at this
  simpa using this
end Lm


/-! a comprehension of two clauses -/
namespace Lm
open PySem PySem.Spec PyProof.Rows L2
section
variable {c : Ct} {H H' H0 H1 H2 H3 H4 : Hp} {O : List Addr} {σ σ1 : L2.St} {Γ Γ1 Γ' : List (Option Rs)} {te : TE} {fz : Bool} {k : Kd} {u : TS} {P : Out → Prop} {n : Nat}
theorem Reps.bareM {fp : List Addr} {D : Addr} (j : Ji c (mns H O)) (rm : Rr c (mns H O) (mns H' O)) (h : Reps c O H σ Γ fp) : bareB Γ = true → Reps c O H' σ Γ [] := by
  induction h with
  | nil => intro _; exact .nil
  | @cons x s f fs σ Γ a b ih =>
    intro hb
    cases s with
    | none => exact .cons (f := []) (fs := []) rfl (ih hb)
    | some s =>
      cases s with
      | o d => cases hb
      | d u => cases hb
      | w ds => cases hb
      | v d =>
        obtain ⟨_, v, hv, bo⟩ := a
        exact .cons (f := []) (fs := []) ⟨rfl, v, hv, bo.mono j rm⟩ (ih hb)
      | r y => exact .cons (f := []) (fs := []) ⟨rfl, a.2⟩ (ih hb)
end
end Lm
namespace Lm
open PySem PySem.Spec PyProof.Rows L2
/-! ### all tables of a plan (k39 to k43, k52) -/
/-! ### buckets may be told in another order -/
/-! ### how many there are -/
/-! ### the promises -/
/-! ### plans that go round -/
end Lm


/-! a list of one's own whose items stay, lists in them too -/
namespace Lm
open PySem PySem.Spec PyProof.Rows L2
section
variable {c : Ct} {H H' H0 H1 H2 H3 : Hp} {O : List Addr} {σ : L2.St} {Γ Γ' : List (Option Rs)} {te ta tb tx : TE} {tr : TA} {k ka kb : Kd} {u t : TS} {P : Out → Prop} {n m : Nat} {x d : PyData} {ds es : List PyData} {i : Int} {fz : Bool} {tt : TT}
/-- a list of one's own that is kept in a slot is a list whose items stay, and back -/
theorem Env.dw (e : Env c H0 O H σ Γ) {i : Nat} {xs : List V} {ds : List PyData} (h : Γ[i]? = some (some (.d (.lst xs)))) (b : BoAll c (mns H O) xs ds) : Env c H0 O H σ (Γ.set i (some (.w ds))) := by
  obtain ⟨fp, hr, nd, sub⟩ := e.rep
  obtain ⟨x, f, pre, post, h1, h2, h3, h4⟩ := hr.nth h
  obtain ⟨a, rfl, rfl, ha, _⟩ := h2
  subst h3
  have hσ : σ.set i (some (.ref a)) = σ := by
    obtain ⟨hlt, e1⟩ := List.getElem?_eq_some_iff.mp h1
    rw [← e1]
    exact List.set_getElem_self hlt
  have := h4 O H (some (.ref a)) (some (.w ds)) [a] (fun y t g q z => z) ⟨a, xs, rfl, rfl, ha, b⟩
  rw [hσ] at this
  exact ⟨e.r0, e.j, e.fr, e.dm, _, this, nd, sub⟩
theorem Env.wd (e : Env c H0 O H σ Γ) {i : Nat} {ds : List PyData} (h : Γ[i]? = some (some (.w ds))) : ∃ a xs, σ[i]? = some (some (.ref a)) ∧ H a = some (.lst xs) ∧ a ∈ O ∧ BoAll c (mns H O) xs ds ∧ Env c H0 O H σ (Γ.set i (some (.d (.lst xs)))) := by
  obtain ⟨fp, hr, nd, sub⟩ := e.rep
  obtain ⟨x, f, pre, post, h1, h2, h3, h4⟩ := hr.nth h
  obtain ⟨a, xs, rfl, rfl, ha, b⟩ := h2
  subst h3
  have hσ : σ.set i (some (.ref a)) = σ := by
    obtain ⟨hlt, e1⟩ := List.getElem?_eq_some_iff.mp h1
    rw [← e1]
    exact List.set_getElem_self hlt
  have := h4 O H (some (.ref a)) (some (.d (.lst xs))) [a] (fun y t g q z => z) ⟨a, rfl, rfl, ha, trivial⟩
  rw [hσ] at this
  exact ⟨a, xs, h1, ha, sub a (by simp), b, e.r0, e.j, e.fr, e.dm, _, this, nd, sub⟩
/-- a slot is given a new list D whose items stay -/
theorem Env.newW (e : Env c H0 O H σ Γ) {i : Nat} {D : Addr} {xs : List V} (hD : H D = none) (r : Rr c H H') (h : H' D = some (.lst xs)) (rm : Rr c (mns H O) (mns H' (D :: O))) (b : BoAll c (mns H' (D :: O)) xs ds) : Env c H0 (D :: O) H' (σ.set i (some (.ref D))) (Γ.set i (some (.w ds))) := by
  have hO : D ∉ O := new_notO e hD
  refine ⟨e.r0.tr rm, rm.2 e.j, fun a ha => ?_, fun a ha => ?_, ?_⟩
  · rcases List.mem_cons.mp ha with q | q
    · rw [q]; exact e.back0 (by rw [mns_out hO]; exact hD)
    · exact e.fr a q
  · rcases List.mem_cons.mp ha with q | q
    · rw [q]; exact ⟨_, h, trivial⟩
    · obtain ⟨u, w, hw⟩ := e.dm a q
      exact ⟨u, r.1 a _ (e.okO a q) w, hw⟩
  · obtain ⟨fp, hr, nd, sub⟩ := e.rep
    have keep : ∀ y t g, (∀ a ∈ g, a ∈ O) → RepO c O H y t g → RepO c (D :: O) H' y t g := fun y t g hg z => by
      cases t with
      | none => exact z
      | some t =>
        cases t with
        | v d => exact ⟨z.1, z.2.elim fun v hv => ⟨v, hv.1, hv.2.mono e.j rm⟩⟩
        | o d => exact z.elim fun v hv => ⟨v, hv.1, hv.2.up (fun _ _ s => r.tup e.jH s) fun a ha o ho => r.1 a o (e.okO a (hg a ha)) ho⟩
        | r y => exact z
        | d u => exact z.elim fun a ⟨w1, w2, w3, w4⟩ => ⟨a, w1, w2, r.1 a _ (e.okO a (hg a (by rw [w1]; simp))) w3, w4⟩
        | w ds => exact z.elim fun a ⟨xs, w1, w2, w3, w4⟩ => ⟨a, xs, w1, w2, r.1 a _ (e.okO a (hg a (by rw [w1]; simp))) w3, w4.mono e.j rm⟩
    by_cases hi : i < Γ.length
    · obtain ⟨x, g, pre, post, h1, h2, h3, h4⟩ := hr.nth (s := Γ[i]) (List.getElem?_eq_getElem hi)
      subst h3
      refine ⟨pre ++ ([D] ++ post), h4 _ _ _ _ [D] (fun y t g' q z => keep y t g' (fun a ha => sub a (by have := q a ha; simp at this ⊢; rcases this with w | w <;> simp [w])) z) ⟨D, xs, rfl, rfl, h, b⟩, ?_, fun a ha => ?_⟩
      · have n0 : (pre ++ post).Nodup := nd.sublist (by simp)
        rw [List.nodup_append] at n0 ⊢
        refine ⟨n0.1, ?_, ?_⟩
        · rw [List.nodup_append]
          refine ⟨by simp, n0.2.1, fun a ha b' hb q => ?_⟩
          subst q
          rw [List.mem_singleton.mp ha] at hb
          exact hO (sub D (by simp [hb]))
        · intro a ha b' hb q
          subst q
          rcases List.mem_append.mp hb with w | w
          · rw [List.mem_singleton.mp w] at ha
            exact hO (sub D (by simp [ha]))
          · exact n0.2.2 a ha a w rfl
      · simp only [List.mem_append, List.mem_cons, List.not_mem_nil, or_false] at ha ⊢
        rcases ha with q | q | q
        · exact .inr (sub a (by simp [q]))
        · exact .inl q
        · exact .inr (sub a (by simp [q]))
    · have hs : ¬ i < σ.length := by rw [hr.len]; exact hi
      rw [List.set_eq_of_length_le (by omega), List.set_eq_of_length_le (by omega)]
      exact ⟨fp, hr.map fun x s g q z => keep x s g (fun a ha => sub a (q a ha)) z, nd, fun a ha => by simp [sub a ha]⟩
/-- te makes a new list whose items stay -/
def EvW (c : Ct) (te : TE) (Γ : List (Option Rs)) (ds : List PyData) : Prop :=
  ∀ H0 O H σ, Env c H0 O H σ Γ → ∀ Q : VK, (∀ p xs H2, H p = none → Rr c H H2 → H2 p = some (.lst xs) → Rr c (mns H O) (mns H2 (p :: O)) → BoAll c (mns H2 (p :: O)) xs ds → Q (.ref p) H2) → te σ H Q
theorem q_asgW (h : EvW c te Γ ds) (p : Sd c u (Γ.set n (some (.w ds))) P) : Sd c (tSeq (tAsg te (gName n)) u) Γ P := fun H0 O H σ D e s =>
  h H0 O H σ e _ fun a xs H2 ha r h2 rm b => p H0 (a :: O) H2 _ D (e.newW ha r h2 rm b) s
theorem newW1 {H1 : Hp} {xs : List V} {p : Addr} (e : Env c H0 O H σ Γ) (r : Rr c H H1) (hp : H1 p = none) (b : BoAll c (mns H1 O) xs ds) {Q : VK} (q : ∀ p xs H2, H p = none → Rr c H H2 → H2 p = some (.lst xs) → Rr c (mns H O) (mns H2 (p :: O)) → BoAll c (mns H2 (p :: O)) xs ds → Q (.ref p) H2) : Q (.ref p) (upd H1 p (.lst xs)) :=
  q p xs _ (r.back e.jH hp) (r.tr (Rr.same fun b u z => by rw [upd_ne (ne_of_none z hp)]; exact z)) upd_same (by rw [mns_own hp]; exact r.mns e.j e.okO) (by rw [mns_own hp]; exact b)
theorem w_cat (ha : Ev c ta Γ .v (.list ds)) (hb : Ev c tb Γ .v (.list es)) (hl : ds.length + es.length ≤ 1000000) : EvW c (tOp (rCatS c.K) ta tb) Γ (ds ++ es) := fun H0 O H σ e Q q =>
  ha H0 O H σ e _ fun v H1 r1 s1 => hb H0 O H1 σ (e.on r1) _ fun u H2 r2 s2 => by
    have bv : Bo c (mns H2 O) v (.list ds) := Res.on (k := .v) e r1 r2 s1
    have bu : Bo c (mns H2 O) u (.list es) := s2
    obtain ⟨p, xs, rfl, _, sl, al⟩ := bv.lst'
    obtain ⟨b, zs, rfl, _, sl2, al2⟩ := bu.lst'
    exact ⟨p, b, xs, zs, rfl, rfl, mns_same.seq sl, mns_same.seq sl2, by rw [al.len, al2.len]; exact sizeOk hl, fun p' hp' => newW1 e (r1.tr r2) hp' (al.app al2) q⟩
/-- from now on it is not written -/
theorem Env.freezeW (e : Env c H0 O H σ Γ) {i : Nat} (h : Γ[i]? = some (some (.w ds))) : ∃ O', Env c H0 O' H σ (Γ.set i (some (.v (.list ds)))) := by
  obtain ⟨fp, hr, nd, sub⟩ := e.rep
  obtain ⟨x, f, pre, post, h1, h2, h3, h4⟩ := hr.nth h
  obtain ⟨a, xs, rfl, rfl, ha, b⟩ := h2
  subst h3
  have hm : ∀ z, z ∈ O.filter (fun z => !decide (z = a)) ↔ z ∈ O ∧ z ≠ a := fun z => by simp
  have sm : Same (mns H O) (mns H (O.filter fun z => !decide (z = a))) := mns_sub fun z hz => ((hm z).mp hz).1
  have dis : ∀ z ∈ pre ++ post, z ≠ a := fun z hz w => by
    subst w
    have n2 := (List.nodup_append.mp nd).2.1
    rcases List.mem_append.mp hz with u | u
    · exact (List.nodup_append.mp nd).2.2 z u z (by simp) rfl
    · exact (List.nodup_append.mp n2).2.2 z (by simp) z u rfl
  refine ⟨O.filter fun z => !decide (z = a), ⟨e.r0.tr (Rr.same sm), e.j.same sm, fun z hz => e.fr z ((hm z).mp hz).1, fun z hz => e.dm z ((hm z).mp hz).1, ?_⟩⟩
  have hσ : σ.set i (some (.ref a)) = σ := by
    obtain ⟨hlt, e1⟩ := List.getElem?_eq_some_iff.mp h1
    rw [← e1]
    exact List.set_getElem_self hlt
  have hb : Bo c (mns H (O.filter fun z => !decide (z = a))) (.ref a) (.list ds) := by
    refine .lst (e.okO a (sub a (by simp))) (.inl (.inl ?_)) (b.same sm)
    rw [mns_out fun z => ((hm a).mp z).2 rfl]
    exact ha
  have := h4 (O.filter fun z => !decide (z = a)) H (some (.ref a)) (some (.v (.list ds))) [] (fun y t g q z => ?_) ⟨rfl, .ref a, rfl, hb⟩
  · rw [hσ] at this
    exact ⟨_, this, nd.sublist (by simp), fun z hz => (hm z).mpr ⟨sub z (by simp at hz ⊢; rcases hz with w | w <;> simp [w]), dis z (by simpa using hz)⟩⟩
  · cases t with
    | none => exact z
    | some t =>
      cases t with
      | v d => exact ⟨z.1, z.2.elim fun v hv => ⟨v, hv.1, hv.2.same sm⟩⟩
      | o d => exact z
      | r y => exact z
      | d u => exact z
      | w ds => exact z.elim fun a ⟨xs, w1, w2, w3, w4⟩ => ⟨a, xs, w1, w2, w3, w4.same sm⟩
theorem s_freezeW (h : Γ[n]? = some (some (.w ds))) (hs : Sd c t (Γ.set n (some (.v (.list ds)))) P) : Sd c t Γ P := fun H0 O H σ D e s => by
  obtain ⟨O', e'⟩ := e.freezeW h
  exact hs H0 O' H σ D e' s
theorem x_no (h : EvT c tt Γ false) (p : SdX c H0 u Γ) : SdX c H0 (tIfS tt t u) Γ := fun O H σ D e => h H0 O H σ e _ fun H1 r => by
  show if false = true then t D σ H1 else u D σ H1
  rw [if_neg (by decide)]
  exact p O H1 σ D (e.on r)
end
end Lm


/-! xs[i] = ys.pop(k); [rows[x].pop(0) for x in ..] -/
namespace Lm
open PySem PySem.Spec PyProof.Rows L2
section
variable {c : Ct} {H H' H0 H1 H2 H3 : Hp} {O : List Addr} {σ : L2.St} {Γ Γ' Γ1 : List (Option Rs)}
variable {te ta tb tx : TE} {tr : TA} {u : TS} {k ka kb : Kd} {d x y z : PyData} {i j : Int} {ds es : List PyData} {P : Out → Prop}
theorem Env.bareR (e : Env c H0 O H σ Γ) (hb : bareB Γ = true) : Reps c O H σ Γ [] := let ⟨_, hr, _⟩ := e.rep; hr.bareM (D := 0) e.j Rr.rf hb
theorem Env.take (e : Env c H0 O H σ Γ) (hb : bareB Γ = true) {n : Nat} {a : Addr} {ns : List Int} (ha : a ∈ O) (h : H a = some (.lst (ns.map V.int))) : Env c H0 O H (σ.set n (some (.ref a))) (Γ.set n (some (.o (.list (ns.map .int))))) := by
  have hr := e.bareR hb
  refine ⟨e.r0, e.j, e.fr, e.dm, ?_⟩
  by_cases hi : n < Γ.length
  · obtain ⟨x, f, pre, post, h1, h2, h3, h4⟩ := hr.nth (s := Γ[n]) (List.getElem?_eq_getElem hi)
    have h3' := h3.symm
    rw [List.append_eq_nil_iff, List.append_eq_nil_iff] at h3'
    obtain ⟨rfl, rfl, rfl⟩ := h3'
    exact ⟨[a], h4 O H _ _ [a] (fun _ _ _ _ z => z) ⟨.ref a, rfl, .lst h (FoAll.leaves (flatAll_ints _) (BoAll.ofInts _))⟩, by simp, fun b hb => by cases List.mem_singleton.mp hb; exact ha⟩
  · have hs : ¬ n < σ.length := by rw [hr.len]; exact hi
    rw [List.set_eq_of_length_le (by omega), List.set_eq_of_length_le (by omega)]
    exact ⟨[], hr, List.nodup_nil, fun a h => nomatch h⟩
/-! ### rows from which the first ones are taken -/
end
end Lm


/-! who raises what among the triples (k34) -/
namespace Lm
open PySem PySem.Spec PyProof.Rows L2
section
variable {K : PySem.W.Frag} {C : Addr} {H0 : Hp} {Γ : List (Option Rs)} {σ : L2.St} {te : TE} {tt : TT} {t u : TS} {nm : Str}
theorem x_asgE {c : Ct} {g : TG} (h : EvRz c H0 te Γ) : SdX c H0 (tAsg te g) Γ := fun O H σ D e => h O H σ _ e
theorem x_asgO {c : Ct} {d : PyData} {n : Nat} (h : Ev c te Γ .o d) (p : SdX c H0 u (Γ.set n (some (.o d)))) : SdX c H0 (tSeq (tAsg te (gName n)) u) Γ := fun O H σ D e => h H0 O H σ e _ fun v H2 r ⟨fp, f, nd, new⟩ => p _ H2 _ D (e.setO r f nd new)
end
/-! what is no allocation, no assignment of it -/
end Lm


/-! isinstance of a caught error that keeps a text; a handler for its base class -/
namespace Lm
open PySem PySem.Spec PyProof.Rows L2
/-- isinstance(e, c): a the caught error, cls its class, d its dict -/
def rIsX (K : PySem.W.Frag) (D a : Addr) (cls : Value) (d : Option Addr) : List V → Hp → VK → Prop := fun xs H Q => ∃ (c : V) (cv : Value) (b : Bool) (dd : Addr) (fs : List (Str × V)), xs = [.ref a, c] ∧ cls = .ref D ∧ d = some dd ∧ H dd = some (.xd fs) ∧ (∀ u, RelV c u → u = cv) ∧ PySem.W.kitOne K (.ref D) cv = some b ∧ Q (.bl b) H
theorem call_isX {X : Cx} {a D : Addr} {oe : Obj} {cls : Value} {d : Option Addr} {pn : List (Addr × Obj)} (C : ExcC X.K D) (hz : Zc cls d oe) (hf : ∃ vs, oe.data = .fields vs) : CallR (X.suite a ((a, oe) :: pn)) (.builtin "isinstance") (rIsX X.K D a cls d) := by
  intro pins s σ H xs us Q I r h
  obtain ⟨c, cv, b, dd, fs, rfl, rfl, rfl, ea, hcv, e, q⟩ := h
  cases r with
  | cons rx rr =>
    cases rr with
    | cons rt rr =>
      cases rr
      cases rx
      have ec := hcv _ rt
      subst ec
      obtain ⟨hget, _⟩ := I.pin (a, oe) (List.mem_append.mpr (.inl List.mem_cons_self))
      obtain ⟨vs, hv⟩ := hf
      have hx : ObjOk X.prog X.w H s.heap dd (.xd fs) := I.hok dd _ ea
      obtain ⟨mA, hns, hr⟩ := hx
      obtain ⟨od, ho, hl⟩ := lookIn_ns hns
      have J : PySem.W.InstAt s.heap a oe D (some od) := ⟨hget, hz.1, by unfold PySem.W.notCls; rw [hv] <;> rfl, by rw [hz.2]; exact ho⟩
      have cl : (PySem.W.clsIn X.K D).isSome = true := by obtain ⟨cd, hc, _⟩ := PySem.W.any_some C.hd; rw [hc]; rfl
      exact PySem.W.kia_one (PySem.W.kitx_exc (od := some od) cl C.hg C.hk C.hs C.ha C.hn C.ht C.hm) I.kIn J e (fun z => nomatch z) fun tk => ⟨.bl b, H, I.kept (t' := tk) fun _ _ z => z, rfl, q⟩
/-- what a handler for the base class asks of the error's class C and of the base class L -/
structure ExcH (K : PySem.W.Frag) (mg : Str → Option Value) (C L : Addr) : Prop where
  isC : ExcC K C
  hL : mg "LeastError" = some (.ref L)
  exL : PySem.W.exmOne K (.ref C) (.ref L) = some true
  kV : PySem.W.kitOne K (.ref C) (.type "ValueError") = some true
theorem kit_val {K : PySem.W.Frag} {C : Addr} (h : PySem.W.subIn K (.ref C) (.type "ValueError") = some true) : PySem.W.kitOne K (.ref C) (.type "ValueError") = some true := by
  unfold PySem.W.kitOne
  rw [if_neg (by simp)]
  unfold PySem.W.kitCls
  show (if PySem.W.kitMeta "ValueError" = true then _ else _) = _
  rw [if_pos (by decide +kernel)]
  exact h
/-! a call of what answers or raises, in a body -/
section
variable {K : PySem.W.Frag} {C : Addr} {R : List PyData → Str → Prop} {pre : Pre} {E : XK} {W : WX} {te : TE} {ta : TA} {Γ : List (Option Rs)} {ds es : List PyData} {d : PyData} {P : Out → Prop} {c : Ct}
theorem x_skip {tt : TT} {t u : TS} {H0 : Hp} (h : EvT c tt Γ false) (p : SdX c H0 u Γ) : SdX c H0 (tSeq (tIfS tt t tNext) u) Γ := fun O H σ D e => h H0 O H σ e _ fun H1 r => by
  show if false = true then _ else _
  rw [if_neg (by decide)]
  exact p O H1 σ D (e.on r)
theorem x_take {tt : TT} {t u : TS} {H0 : Hp} (h : EvT c tt Γ true) (p : SdX c H0 t Γ) : SdX c H0 (tSeq (tIfS tt t tNext) u) Γ := fun O H σ D e => h H0 O H σ e _ fun H1 r => by
  show if true = true then _ else _
  rw [if_pos rfl]
  exact p O H1 σ _ (e.on r)
end
/-! who raises what among the rules (k61) -/
end Lm


/-! lists of one's own with drawn items; the rule of k61 and what is none -/
namespace Lm
open PySem PySem.Spec PyProof.Rows L2
section
variable {c : Ct} {Γ : List (Option Rs)} {te : TE} {tr : TA} {u : TS} {n : Nat} {ds : List PyData} {P : Out → Prop} {Pd : List PyData → Prop} {Pe : PyData → Prop}
/-- te makes a new list whose items stay: one of several -/
def EvWN (c : Ct) (te : TE) (Γ : List (Option Rs)) (Pd : List PyData → Prop) : Prop :=
  ∀ H0 O H σ, Env c H0 O H σ Γ → ∀ Q : VK, (∀ p xs ds H2, Pd ds → H p = none → Rr c H H2 → H2 p = some (.lst xs) → Rr c (mns H O) (mns H2 (p :: O)) → BoAll c (mns H2 (p :: O)) xs ds → Q (.ref p) H2) → te σ H Q
theorem s_appWN (hx : Γ[n]? = some (some (.w ds))) (h : EvN c te Γ .v Pe) (hl : ds.length < 1000000) (p : ∀ d, Pe d → P (.nx (Γ.set n (some (.w (ds ++ [d])))))) : Sd c (tDrop (tBM c.K "list" rAppend (tVar n) (tCons te tNil))) Γ P := fun H0 O H σ D e s => by
  obtain ⟨a, xs, ha, hH, hO, b, _⟩ := e.wd hx
  refine ⟨.ref a, ha, .inl ⟨rfl, xs, .inl (.inl hH)⟩, h H0 O H σ e _ fun v d H2 pd r rs => ?_⟩
  have e2 := e.on r
  obtain ⟨a', xs', ha', hH', hO', b', ed⟩ := e2.wd hx
  have : a' = a := by rw [ha] at ha'; cases ha'; rfl
  subst this
  have bv : Bo c (mns H2 O) v d := rs
  have hn : n < Γ.length := (List.getElem?_eq_some_iff.mp hx).1
  obtain ⟨p2, hp2, hq2, hq3, ew⟩ := ed.writeD (w := .lst (xs' ++ [v])) (List.getElem?_set_self hn) trivial
  have : p2 = a' := by rw [ha] at hp2; cases hp2; rfl
  subst this
  have em : mns (upd H2 p2 (.lst (xs' ++ [v]))) O = mns H2 O := by
    funext z
    by_cases hz : z ∈ O
    · rw [mns_in hz, mns_in hz]
    · rw [mns_out hz, mns_out hz, upd_ne (fun w => hz (by rw [w]; exact hq3))]
  refine ⟨p2, xs', v, rfl, rfl, hH', by rw [b'.len, sizeLine_eq]; omega, s _ (p d pd) O _ σ ?_⟩
  rw [List.set_set] at ew
  have := ew.dw (ds := ds ++ [d]) (List.getElem?_set_self hn) (by rw [em]; exact b'.app (.cons bv .nil))
  rwa [List.set_set] at this
end
/-! the rule of two pairs -/
def zr (n : Nat) : List Int := List.replicate n 0
/-! rows of arguments -/
end Lm


/-! itertools.combinations(list, k) -/
namespace CmbK
open PySem PySem.Spec PyProof.Rows L2
end CmbK


/-! cliques of entries, by their heights (k63) -/
namespace Lm
open PySem PySem.Spec PyProof.Rows L2 CmbK
def prsB (F : List (List Int)) (es : List (List Int)) : Bool := (pairL es.length).all fun ks => togB F (es.getD (ks.getD 0 0) []) (es.getD (ks.getD 1 0) [])
/-- sets of entries that go together, each entry in turn -/
def wthB (F : List (List Int)) (e : List Int) (ch : List (List Int)) : Bool := ch.all (togB F e)
def grwS (F : List (List Int)) (found : List (List (List Int))) (e : List Int) : List (List (List Int)) := found ++ (found.filter (wthB F e)).map (· ++ [e])
def grwL (F R : List (List Int)) : List (List (List Int)) := R.foldl (grwS F) [[]]
def bigL (F R : List (List Int)) : Int := mxL ((grwL F R).map fun ch => (ch.length : Int))
/-- one of each, one after another -/
def prodL (cs : List (List Int)) : List (List Int) := cs.foldl (fun rows c => rows.flatMap fun r => c.map fun x => r ++ [x]) [[]]
def boxL (M : List Int) : List (List Int) := prodL (M.map fun m => upI 0 (m + 1).toNat)
/-- good heights: as many entries as asked, all together -/
def okH (F : List (List Int)) (s : Int) (h : List Int) : Bool := decide (((entL h).length : Int) = s) && prsB F (entL h)
end Lm


/-! cliques: the mathematics (k63) -/
namespace Lm
open PySem PySem.Spec PyProof.Rows L2
def enE (x y : Nat) : List Int := [((x + 1 : Nat) : Int), (y : Int)]
theorem us_en {r : List Int} {x y : Nat} : usB r (enE x y) = decide ((y : Int) < r.getD x 0) := by
  unfold usB enE
  simp
theorem en_inj {x y x' y' : Nat} : enE x y = enE x' y' ↔ x = x' ∧ y = y' := by
  unfold enE
  simp
  omega
theorem tog_iff {F : List (List Int)} {x y x' y' : Nat} : togB F (enE x y) (enE x' y') = true ↔ ¬ (x = x' ∧ y = y') ∧ ∃ r ∈ F, (y : Int) < r.getD x 0 ∧ (y' : Int) < r.getD x' 0 := by
  unfold togB
  rw [Bool.and_eq_true, Bool.not_eq_true', decide_eq_false_iff_not, en_inj, List.any_eq_true]
  refine and_congr Iff.rfl ⟨fun ⟨b, hb, w⟩ => ?_, fun ⟨r, hr, h1, h2⟩ => ⟨true, List.mem_map.mpr ⟨r, hr, ?_⟩, rfl⟩⟩
  · obtain ⟨r, hr, e⟩ := List.mem_map.mp hb
    rw [us_en, us_en] at e
    have : b = true := w
    rw [this, Bool.and_eq_true, decide_eq_true_eq, decide_eq_true_eq] at e
    exact ⟨r, hr, e⟩
  · rw [us_en, us_en, decide_eq_true h1, decide_eq_true h2]
    rfl
theorem tog_comm {F : List (List Int)} {a b : List Int} : togB F a b = togB F b a := by
  unfold togB
  congr 1
  · congr 1
    rw [decide_eq_decide]
    exact eq_comm
  · congr 2
    funext r
    exact Bool.and_comm _ _
end Lm


/-! calm histories, all of them, in order (k48) -/
namespace Lm
open PySem PySem.Spec PyProof.Rows L2
variable {v b : Int} {s : List Int} {A : List (List Int)} {k : Nat} {t : List (List Int)} {r : List Int}
/-- tables in order -/
def TLe : List (List Int) → List (List Int) → Prop
  | [], [] => True
  | a :: h, b :: t => (a.length = b.length ∧ lexLe a b ∧ a ≠ b) ∨ (a = b ∧ TLe h t)
  | _, _ => False
theorem TLe.rf : ∀ {h : List (List Int)}, TLe h h
  | [] => trivial
  | _ :: _ => .inr ⟨rfl, TLe.rf⟩
end Lm


/-! the first colouring: x = xs.pop() + 1, the search, its end (k65, k67) -/
namespace Lm
open PySem PySem.Spec PyProof.Rows L2
section
variable {c : Ct} {Γ : List (Option Rs)} {P : Out → Prop} {u : TS}
end
/-! ### colourings, in order -/
/-- all tuples of n numbers below m, in order -/
def colL (m : Nat) : Nat → List (List Nat)
  | 0 => [[]]
  | n + 1 => (colL m n).flatMap fun c => (List.range m).map fun x => c ++ [x]
/-- what coexists has different numbers -/
def okC (tg : Nat → Nat → Bool) (c : List Nat) : Bool := (List.range c.length).all fun k => (List.range k).all fun j => !(decide (c.getD j 0 = c.getD k 0) && tg k j)
def firC (n m : Nat) (tg : Nat → Nat → Bool) : Option (List Nat) := (colL m n).find? (okC tg)
/-- c, as far as it goes, is not behind d -/
def PLe : List Nat → List Nat → Prop
  | [], _ => True
  | _ :: _, [] => False
  | a :: c, x :: d => a < x ∨ (a = x ∧ PLe c d)
/-- c is before d, at some place that both have -/
def PLt : List Nat → List Nat → Prop
  | a :: c, x :: d => a < x ∨ (a = x ∧ PLt c d)
  | _, _ => False
theorem ple_split : ∀ {c d : List Nat} {p : Nat}, PLe (c ++ [p]) d → (∃ x r, d = c ++ x :: r ∧ p ≤ x) ∨ PLt c d
  | [], [], p, h => h.elim
  | [], x :: d, p, h => by
    rcases h with h | ⟨h, _⟩
    · exact .inl ⟨x, d, rfl, by omega⟩
    · exact .inl ⟨x, d, rfl, by omega⟩
  | a :: c, [], p, h => h.elim
  | a :: c, x :: d, p, h => by
    rcases h with h | ⟨rfl, h⟩
    · exact .inr (.inl h)
    · rcases ple_split h with ⟨y, r, rfl, w⟩ | w
      · exact .inl ⟨y, r, rfl, w⟩
      · exact .inr (.inr ⟨rfl, w⟩)
theorem plt_snoc : ∀ {c d : List Nat} {a : Nat}, PLt (c ++ [a]) d → PLe (c ++ [a + 1]) d
  | [], [], _, h => h.elim
  | [], x :: d, a, h => by
    rcases h with h | ⟨_, h⟩
    · by_cases e : a + 1 = x
      · exact .inr ⟨e, trivial⟩
      · exact .inl (by omega)
    · cases d <;> exact h.elim
  | b :: c, [], _, h => h.elim
  | b :: c, x :: d, a, h => by
    rcases h with h | ⟨e, h⟩
    · exact .inl h
    · exact .inr ⟨e, plt_snoc h⟩
theorem ple_pre : ∀ {c d r : List Nat}, d = c ++ r → PLe c d
  | [], _, _, _ => trivial
  | a :: c, _, r, rfl => .inr ⟨rfl, ple_pre rfl⟩
theorem plt_ple : ∀ {c d : List Nat}, PLt c d → PLe c d
  | [], _, h => h.elim
  | a :: c, [], h => h.elim
  | a :: c, x :: d, h => by
    rcases h with h | ⟨e, h⟩
    · exact .inl h
    · exact .inr ⟨e, plt_ple h⟩
variable {n m : Nat} {tg : Nat → Nat → Bool} {c d : List Nat}
theorem okC_iff : okC tg c = true ↔ ∀ k, k < c.length → ∀ j, j < k → c.getD j 0 = c.getD k 0 → tg k j = false := by
  unfold okC
  rw [List.all_eq_true]
  constructor
  · intro h k hk j hj e
    have := List.all_eq_true.mp (h k (List.mem_range.mpr hk)) j (List.mem_range.mpr hj)
    rw [decide_eq_true e, Bool.true_and, Bool.not_eq_true'] at this
    exact this
  · intro h k hk
    refine List.all_eq_true.mpr fun j hj => ?_
    by_cases e : c.getD j 0 = c.getD k 0
    · rw [h k (List.mem_range.mp hk) j (List.mem_range.mp hj) e, Bool.and_false]; rfl
    · rw [decide_eq_false e, Bool.false_and]; rfl
theorem gd_app {c r : List Nat} {j : Nat} (h : j < c.length) : (c ++ r).getD j 0 = c.getD j 0 := by
  rw [List.getD_eq_getElem?_getD, List.getElem?_append_left h, ← List.getD_eq_getElem?_getD]
theorem okC_pre {r : List Nat} (h : okC tg (c ++ r) = true) : okC tg c = true := okC_iff.mpr fun k hk j hj e => okC_iff.mp h k (by simp; omega) j hj (by rw [gd_app (by omega), gd_app hk]; exact e)
/-! ### the search, place by place -/
/-- where the search stands: c so far, numbers from p on are tried next -/
structure SrC (n m : Nat) (tg : Nat → Nat → Bool) (c : List Nat) (p : Nat) : Prop where
  len : c.length ≤ n
  rng : ∀ x ∈ c, x < m
  ok : okC tg c = true
  pm : p ≤ m
  le : ∀ d, d.length = n → (∀ x ∈ d, x < m) → okC tg d = true → PLe c d ∧ (c.length < n → PLe (c ++ [p]) d)
/-- the first number from p on that fits -/
def freC (tg : Nat → Nat → Bool) (c : List Nat) (p m : Nat) : Option Nat := ((List.range (m - p)).map (· + p)).find? fun b => okC tg (c ++ [b])
theorem freC_none {p : Nat} (h : freC tg c p m = none) {b : Nat} (h1 : p ≤ b) (h2 : b < m) : okC tg (c ++ [b]) = false := by
  unfold freC at h
  have := List.find?_eq_none.mp h b (List.mem_map.mpr ⟨b - p, List.mem_range.mpr (by omega), by omega⟩)
  exact Bool.eq_false_iff.mpr this
theorem SrC.back {a : Nat} {p : Nat} (h : SrC n m tg (c ++ [a]) p) (hl : (c ++ [a]).length < n) (f : freC tg (c ++ [a]) p m = none) : SrC n m tg c (a + 1) := by
  have am := h.rng a (by simp)
  have cl : c.length < n := by simp at hl; omega
  refine ⟨by omega, fun x hx => h.rng x (by simp [hx]), okC_pre h.ok, by omega, fun d h1 h2 h3 => ?_⟩
  have key : PLe (c ++ [a + 1]) d := by
    rcases ple_split ((h.le d h1 h2 h3).2 hl) with ⟨x, r, rfl, hx⟩ | w
    · have xm := h2 x (by simp)
      have := freC_none f hx xm
      rw [okC_pre (c := (c ++ [a]) ++ [x]) (r := r) (by simpa using h3)] at this
      cases this
    · exact plt_snoc w
  refine ⟨?_, fun _ => key⟩
  rcases ple_split key with ⟨x, r, e, hx⟩ | w
  · exact ple_pre e
  · exact plt_ple w
end Lm


/-! xs[::-1] of a list, list(range(a, b)), n & 1; families of up to twenty (k67) -/
namespace Lm
open PySem PySem.Spec PyProof.Rows L2
section
variable {c : Ct} {Γ : List (Option Rs)} {te ta tb : TE} {k ka kb : Kd} {ds : List PyData} {i j : Int}
end
/-- which places coexist -/
def tgL (F R : List (List Int)) (k j : Nat) : Bool := togB F (R.getD k []) (R.getD j [])
/-- the lists by variants, where the places R have the numbers c -/
def lstsR (R : List (List Int)) (c : List Nat) (v : Nat) : List (List Int) := (List.range (v - 1)).map fun x => ((List.range R.length).filter fun k => decide ((R.getD k []).getD 0 0 = ((x + 1 : Nat) : Int))).map fun k => ((c.getD k 0 : Nat) : Int)
def lstsD (R : List (List Int)) (v : Nat) : Option (List Nat) → PyData
  | none => .none
  | some c => .tuple ((lstsR R c v).map tupD)
end Lm


/-! raise C("..") of any class that keeps a text; promises of fewest (k65) -/
namespace Lm
open PySem PySem.Spec PyProof.Rows L2
section
variable {c : Ct} {Γ : List (Option Rs)} {te : TE} {P : Out → Prop} {ds : List PyData} {d : PyData} {n m : Nat}
end
section
variable {c : Ct} {H0 : Hp} {Γ : List (Option Rs)} {K : PySem.W.Frag}
end
/-- the numbers, cut by the shares -/
def prtL (gs : List Int) (c : List Int) : List (List Int) := (List.range gs.length).map fun x => (c.drop (gs.take x).sum.toNat).take (gs.getD x 0).toNat
theorem EvI.to {c : Ct} {wi : TI} {Γ : List (Option Rs)} {fz : Bool} {a b : List Im} (h : EvI c wi Γ fz a) (e : a = b) : EvI c wi Γ fz b := e ▸ h
end Lm


/-! a, b = xs.pop(); enumerate of a list or a tuple; promises of fewest and of case trees (k65) -/
namespace Lm
open PySem PySem.Spec PyProof.Rows L2
section
variable {c : Ct} {Γ : List (Option Rs)} {P : Out → Prop} {u : TS} {g : TG}
end
/-! ### the answer of fewest -/
abbrev R65 (F : List (List Int)) (v : Nat) : List (List Int) := entL (gsL F (v - 1))
def om65 (F : List (List Int)) (v : Nat) : Nat := (bigL F (R65 F v)).toNat
def hg65 (F : List (List Int)) (v : Nat) : Option (List Int) := (boxL (gsL F (v - 1))).find? (okH F (bigL F (R65 F v)))
def tree65 (F : List (List Int)) (v : Nat) : PyData :=
  match hg65 F v with
  | none => .none
  | some h => if 0 < om65 F v then .tuple [.str "clique", .tuple ((entL h).map tupD)] else .none
def few65 (F : List (List Int)) (v : Nat) : PyData := .tuple [.int (om65 F v : Nat), lstsD (R65 F v) v (firC (R65 F v).length (om65 F v) (tgL F (R65 F v))), tree65 F v]
/-! ### case trees: a clique at the root -/
end Lm


/-! the lists of a colouring serve the family (k65) -/
namespace Lm
open PySem PySem.Spec PyProof.Rows L2
/-- what fewest finds -/
structure Few65 (F : List (List Int)) (v : Nat) (hs : List Int) (c : List Nat) : Prop where
  hg : hg65 F v = some hs
  hl : hs.length = v - 1
  hr : ∀ x ∈ hs, 0 ≤ x ∧ x ≤ 10
  om : (entL hs).length = om65 F v
  big : bigL F (R65 F v) = (om65 F v : Nat)
  pw : (entL hs).Pairwise fun a b => togB F a b = true
  sub : (entL hs).Sublist (R65 F v)
  om9 : om65 F v ≤ 9
  ec : firC (R65 F v).length (om65 F v) (tgL F (R65 F v)) = some c
  cl : c.length = (R65 F v).length
  cm : ∀ x ∈ c, x < om65 F v
  ok : okC (tgL F (R65 F v)) c = true
  few : few65 F v = .tuple [.int (om65 F v : Nat), .tuple ((lstsR (R65 F v) c v).map tupD), tree65 F v]
  lst : Lsts (lstsR (R65 F v) c v) ((v : Int) - 1) (om65 F v : Nat)
  srv : ∀ r ∈ F, OkF (lstsR (R65 F v) c v) r
  prt : prtL (gsL F (v - 1)) (castL c) = lstsR (R65 F v) c v
  sum : ((castL c).length : Int) = (gsL F (v - 1)).sum
  ent : ∀ e ∈ R65 F v, ∃ x y : Nat, e = [((x + 1 : Nat) : Int), (y : Int)] ∧ x < v - 1 ∧ y < 10
theorem Few65.flat {F : List (List Int)} {v : Nat} {hs : List Int} {c : List Nat} (f : Few65 F v hs c) : flatD (tree65 F v) = true ∧ flatD (few65 F v) = true := by
  have t : flatD (tree65 F v) = true := by
    unfold tree65
    rw [f.hg]
    show flatD (if 0 < om65 F v then PyData.tuple [.str "clique", .tuple ((entL hs).map tupD)] else .none) = true
    split
    · show (true && (flatAll ((entL hs).map tupD) && true)) = true
      rw [fl_rows]; rfl
    · rfl
  refine ⟨t, ?_⟩
  rw [f.few]
  show (true && (flatAll ((lstsR (R65 F v) c v).map tupD) && (flatD (tree65 F v) && true))) = true
  rw [fl_rows, t]
  rfl
end Lm


/-! things grouped in a dict of lists (k72, k74) -/
namespace Lm
open PySem PySem.Spec PyProof.Rows L2
/-! ### groups -/
abbrev GE := (Int × Int) × List Int
abbrev GA := GE × Addr
/-- the lists of the groups, each one's own -/
structure Grp (F : Hp) (O : List Addr) (H : Hp) (G : List GA) : Prop where
  nd : (G.map (·.2)).Nodup
  fr : ∀ g ∈ G, F g.2 = none ∧ g.2 ∉ O
  lst : ∀ g ∈ G, H g.2 = some (.lst (g.1.2.map V.int))
theorem Grp.on {F H H' : Hp} {O : List Addr} {G : List GA} (h : Grp F O H G) (sm : ∀ g ∈ G, H' g.2 = H g.2) : Grp F O H' G := ⟨h.nd, h.fr, fun g hg => by rw [sm g hg]; exact h.lst g hg⟩
/-! ### one turn: moving.setdefault((old, new), []).append(bucket) -/
end Lm


namespace Lm
/-! nearest allocations (k04): what is rounded up and down -/
def sR (n : Nat) (f : Nat → Int) : Int := ((List.range n).map f).sum
theorem sR_succ {n : Nat} {f : Nat → Int} : sR (n + 1) f = sR n f + f n := by
  unfold sR; rw [List.range_succ, List.map_append, List.sum_append]; simp
theorem sR_congr {n : Nat} {f g : Nat → Int} (h : ∀ k < n, f k = g k) : sR n f = sR n g := by
  induction n with
  | zero => rfl
  | succ n ih => rw [sR_succ, sR_succ, ih fun k hk => h k (by omega), h n (by omega)]
section
variable {n : Nat} {W p : Int} {c x r : Nat → Int}
end
end Lm
namespace Lm
open PySem PySem.Spec PyProof.Rows L2
theorem sR_list : ∀ L : List Int, L.sum = sR L.length (fun k => L.getD k 0)
  | [] => rfl
  | x :: L => by
    have ih := sR_list L
    unfold sR at ih ⊢
    rw [List.length_cons, List.range_succ_eq_map, List.map_cons, List.map_map, List.sum_cons, List.sum_cons, ih]
    rfl
/-! by the rests: greatest first -/
/-! weights -/
section
variable {ws as : List Int} {b : Int}
end
end Lm


/-! gcd, abs, zip of two lists that stay, max of a list of any data; k04's readings -/
namespace Lm
open PySem PySem.Spec PyProof.Rows L2
section
variable {c : Ct} {Γ : List (Option Rs)} {te ta tb : TE} {k ka kb k1 k2 : Kd} {i j : Int}
end
end Lm
namespace L2
open PySem PySem.Spec PyProof.Rows Lm
section
variable {X : Cx}
end
end L2
namespace Lm
open PySem PySem.Spec PyProof.Rows L2
/-! rows of two ints -/
end Lm


/-! rules for all allowed shares (k84): those of fewest's lists are steady, and fewer buckets give none -/
namespace Lm
open PySem PySem.Spec PyProof.Rows L2
/-! allowed shares, each once -/
/-! lists that are long enough give each allocation its buckets -/
/-- the pair that lists give for shares -/
def alc84 (b : Int) (s : List Int) : List Int := (b - s.sum) :: s
end Lm


/-! steady rules for all allowed shares: how many, and that fewer buckets than a clique give none (k84) -/
namespace Lm
open PySem PySem.Spec PyProof.Rows L2
def stdB (r : List Pr) (p : Pr) (b : Nat) : Bool := r.all fun o => (List.range b).all fun y => !(leftB o p y || leftB p o y)
/-- the assignments with these counts -/
def asg84 (v : Int) (b : Nat) (as : List Int) : List (List Int) := (allL v b).filter fun f => decide (countsI f v = as)
def stepS (v : Int) (b : Nat) (R : List (List Pr)) (s : List Int) : List (List Pr) := (asg84 v b (alc84 (b : Int) s)).flatMap fun f => (R.filter fun r => stdB r (alc84 (b : Int) s, f) b).map fun r => r ++ [(alc84 (b : Int) s, f)]
def fndS (v : Int) (b : Nat) (A : List (List Int)) : List (List Pr) := A.foldl (stepS v b) [[]]
theorem fndS_snoc {v : Int} {b : Nat} {A : List (List Int)} {s : List Int} : fndS v b (A ++ [s]) = stepS v b (fndS v b A) s := by unfold fndS; rw [List.foldl_append]; rfl
theorem std_iff {r : List Pr} {p : Pr} {b : Nat} : stdB r p b = true ↔ ∀ o ∈ r, ∀ y < b, leftB o p y = false ∧ leftB p o y = false := by
  unfold stdB
  simp only [List.all_eq_true, List.mem_range, Bool.not_eq_true', Bool.or_eq_false_iff]
theorem left_iff {p q : Pr} {y : Nat} : leftB p q y = false ↔ (p.2.getD y 0 ≠ 0 → p.1.getD (p.2.getD y 0).toNat 0 ≤ q.1.getD (p.2.getD y 0).toNat 0 → q.2.getD y 0 = p.2.getD y 0) := by
  unfold leftB
  rw [← Bool.not_eq_true]
  simp only [Bool.and_eq_true, Bool.not_eq_true', decide_eq_false_iff_not, decide_eq_true_eq]
  constructor
  · intro h h1 h2
    apply Classical.byContradiction
    intro h3
    exact h ⟨h1, h3, h2⟩
  · rintro h ⟨h1, h3, h2⟩
    exact h3 (h h1 h2)
/-- what is found: one pair for each of the shares, all of them steady -/
theorem fnd_mem {v : Int} {b : Nat} (hv : 0 ≤ v) : ∀ (A : List (List Int)) {r : List Pr}, r ∈ fndS v b A →
    r.length = A.length ∧ (∀ i (p : Pr), r[i]? = some p → p.1 = alc84 (b : Int) (A.getD i []) ∧ p.2 ∈ asg84 v b p.1) ∧ (∀ p ∈ r, ∀ q ∈ r, ∀ y < b, leftB p q y = false) := by
  have main : ∀ (n : Nat) (A : List (List Int)), A.length = n → ∀ {r : List Pr}, r ∈ fndS v b A → r.length = A.length ∧ (∀ i (p : Pr), r[i]? = some p → p.1 = alc84 (b : Int) (A.getD i []) ∧ p.2 ∈ asg84 v b p.1) ∧ (∀ p ∈ r, ∀ q ∈ r, ∀ y < b, leftB p q y = false) := fun n => ?_
  · exact fun A r hr => main A.length A rfl hr
  induction n with
  | zero =>
    intro A hA r hr
    have := List.length_eq_zero_iff.mp hA
    subst this
    have : r = [] := by simpa [fndS] using hr
    subst this
    exact ⟨rfl, fun i p h => by simp at h, fun p h => by simp at h⟩
  | succ n ih' =>
    intro A0 hA r hr
    obtain ⟨A, s, rfl⟩ : ∃ A s, A0 = A ++ [s] := by
      rcases List.eq_nil_or_concat A0 with e | ⟨A, s, e⟩
      · rw [e] at hA; simp at hA
      · exact ⟨A, s, by rw [e, List.concat_eq_append]⟩
    have ih := @ih' A (by simpa using hA)
    rw [fndS_snoc] at hr
    obtain ⟨f, hf, hr⟩ := List.mem_flatMap.mp hr
    obtain ⟨r0, h0, rfl⟩ := List.mem_map.mp hr
    obtain ⟨h0, hs⟩ := List.mem_filter.mp h0
    obtain ⟨l0, p0, q0⟩ := ih h0
    have st := std_iff.mp hs
    have self : ∀ y < b, leftB (alc84 (b : Int) s, f) (alc84 (b : Int) s, f) y = false := fun y _ => left_iff.mpr fun _ _ => rfl
    refine ⟨by simp [l0], fun i p h => ?_, fun p hp q hq y hy => ?_⟩
    · by_cases e : i < r0.length
      · rw [List.getElem?_append_left e] at h
        have := p0 i p h
        have g : (A ++ [s]).getD i [] = A.getD i [] := by
          rw [List.getD_eq_getElem?_getD, List.getElem?_append_left (by omega), List.getD_eq_getElem?_getD]
        rw [g]; exact this
      · rw [List.getElem?_append_right (by omega)] at h
        have ei : i - r0.length = 0 := by have := (List.getElem?_eq_some_iff.mp h).1; simp at this; omega
        rw [ei] at h
        have : p = (alc84 (b : Int) s, f) := (Option.some.inj h).symm
        subst this
        have g : (A ++ [s]).getD i [] = s := by
          rw [List.getD_eq_getElem?_getD, List.getElem?_append_right (by omega), show i - A.length = 0 by omega]; rfl
        rw [g]
        exact ⟨rfl, hf⟩
    · rcases List.mem_append.mp hp with w | w
      · rcases List.mem_append.mp hq with z | z
        · exact q0 p w q z y hy
        · rw [List.mem_singleton.mp z]; exact (st p w y hy).1
      · rw [List.mem_singleton.mp w]
        rcases List.mem_append.mp hq with z | z
        · exact (st q z y hy).2
        · rw [List.mem_singleton.mp z]; exact self y hy
/-! how many -/
/-- shares of one variant at most -/
def sngB (s : List Int) : Bool := decide ((s.filter fun x => decide (x ≠ 0)).length ≤ 1)
theorem mem_asg {v : Int} (hv : 0 ≤ v) {b : Nat} {as f : List Int} : f ∈ asg84 v b as ↔ (f.length = b ∧ ∀ x ∈ f, 0 ≤ x ∧ x < v) ∧ countsI f v = as := by
  unfold asg84
  rw [List.mem_filter, mem_allL hv, decide_eq_true_eq]
/-- the allowed shares in order -/
structure Aw84 (F A : List (List Int)) (v : Nat) : Prop where
  fam : Fam F (v : Int)
  v2 : 2 ≤ v
  v4 : v ≤ 4
  two : ∀ r ∈ F, ∀ x ∈ r, x ≤ 2
  mem : ∀ s, s ∈ A ↔ AllF F s
  asc : A.Pairwise fun a b => TS.code 1000 a < TS.code 1000 b
theorem code_set {B : Int} (hB : 0 < B) : ∀ {s : List Int} {i : Nat}, i < s.length → TS.code B (s.set i (s.getD i 0 - 1)) < TS.code B s
  | x :: s, 0, _ => by
    show (x - 1) * B ^ s.length + TS.code B s < x * B ^ s.length + TS.code B s
    have : 0 < B ^ s.length := Int.pow_pos hB
    rw [Int.sub_mul]
    omega
  | x :: s, i + 1, h => by
    show x * B ^ (s.set i (s.getD i 0 - 1)).length + TS.code B (s.set i (s.getD i 0 - 1)) < x * B ^ s.length + TS.code B s
    rw [List.length_set]
    have := code_set hB (s := s) (i := i) (by simpa using h)
    omega
section
variable {F A : List (List Int)} {v b : Nat}
theorem Aw84.shr (h : Aw84 F A v) {s : List Int} (hs : s ∈ A) : s.length = v - 1 ∧ ∀ x ∈ s, 0 ≤ x ∧ x ≤ 2 := by
  obtain ⟨r, hr, hl, hb⟩ := (h.mem s).mp hs
  have rl := (h.fam.shr r hr).len
  refine ⟨by omega, fun x hx => ?_⟩
  obtain ⟨i, hi, rfl⟩ := List.getElem_of_mem hx
  have := hb i hi
  have e : s.getD i 0 = s[i] := by simp [List.getD_eq_getElem?_getD, hi]
  have r2 := h.two r hr _ (gd_mem (l := r) (j := i) (by omega))
  omega
/-- one bucket less of a variant is allowed, and stands before -/
theorem Aw84.pred (h : Aw84 F A v) {s : List Int} {i n : Nat} (hn : A[n]? = some s) (hi : i < s.length) (pos : 0 < s.getD i 0) : s.set i (s.getD i 0 - 1) ∈ A.take n := by
  have hs := List.mem_of_getElem? hn
  obtain ⟨r, hr, hl, hb⟩ := (h.mem s).mp hs
  have mem : s.set i (s.getD i 0 - 1) ∈ A := (h.mem _).mpr ⟨r, hr, by rw [List.length_set]; exact hl, fun j hj => by
    rw [List.length_set] at hj
    have := hb j hj
    by_cases e : i = j
    · subst e
      rw [getD_setI hi, if_pos rfl]; omega
    · rw [getD_setI hi, if_neg e]; exact this⟩
  have lt := code_set (B := 1000) (by decide) hi
  have nl := (List.getElem?_eq_some_iff.mp hn).1
  have pw := h.asc
  rw [← List.take_append_drop n A] at pw mem
  rcases List.mem_append.mp mem with w | w
  · exact w
  · exfalso
    have dr : A.drop n = s :: A.drop (n + 1) := by
      rw [List.drop_eq_getElem_cons nl]
      congr 1
      rw [List.getElem?_eq_getElem nl] at hn
      exact Option.some.inj hn
    rw [dr] at w pw
    rcases List.mem_cons.mp w with w | w
    · rw [w] at lt; omega
    · have := (List.pairwise_cons.mp (List.pairwise_append.mp pw).2.1).1 _ w
      omega
theorem alc_at {s : List Int} {i : Nat} : (alc84 (b : Int) s).getD (i + 1) 0 = s.getD i 0 := rfl
/-- with shares of two variants there is at most one -/
theorem Aw84.one (h : Aw84 F A v) {s : List Int} {n : Nat} (hn : A[n]? = some s) (hs : sngB s = false) {r : List Pr} (hr : r ∈ fndS (v : Int) b (A.take n)) : ((asg84 (v : Int) b (alc84 (b : Int) s)).filter fun f => stdB r (alc84 (b : Int) s, f) b).length ≤ 1 := by
  obtain ⟨rl, rp, rq⟩ := fnd_mem (by omega) _ hr
  have sl := (h.shr (List.mem_of_getElem? hn)).1
  have nl := (List.getElem?_eq_some_iff.mp hn).1
  -- where one of them has a variant, the other has it too
  have same : ∀ f ∈ (asg84 (v : Int) b (alc84 (b : Int) s)).filter (fun f => stdB r (alc84 (b : Int) s, f) b), ∀ g ∈ (asg84 (v : Int) b (alc84 (b : Int) s)).filter (fun f => stdB r (alc84 (b : Int) s, f) b), ∀ y < b, f.getD y 0 ≠ 0 → g.getD y 0 = f.getD y 0 := fun f hf g hg y hy ne => by
    obtain ⟨fa, fs⟩ := List.mem_filter.mp hf
    obtain ⟨ga, gs⟩ := List.mem_filter.mp hg
    obtain ⟨⟨fl, fr⟩, fc⟩ := (mem_asg (by omega)).mp fa
    have fy := fr _ (gd_mem (l := f) (j := y) (by omega))
    obtain ⟨u, hu⟩ : ∃ u : Nat, f.getD y 0 = (u : Int) + 1 := ⟨(f.getD y 0 - 1).toNat, by omega⟩
    -- another variant with shares
    obtain ⟨w, hw, wu, wp⟩ : ∃ w, w < s.length ∧ w ≠ u ∧ 0 < s.getD w 0 := by
      apply Classical.byContradiction
      intro no
      have zero : ∀ w (hw : w < s.length), w ≠ u → s[w] = 0 := fun w hw ne => by
        apply Classical.byContradiction
        intro q
        have e : s.getD w 0 = s[w] := by simp [List.getD_eq_getElem?_getD, hw]
        have := ((h.shr (List.mem_of_getElem? hn)).2 _ (List.getElem_mem hw)).1
        exact no ⟨w, hw, ne, by omega⟩
      have : sngB s = true := by
        unfold sngB
        rw [decide_eq_true_eq]
        by_cases ul : u < s.length
        · have sp : s = s.take u ++ s[u] :: s.drop (u + 1) := by
            rw [← List.drop_eq_getElem_cons ul, List.take_append_drop]
          rw [sp, List.filter_append, List.length_append, List.filter_cons]
          have z1 : (s.take u).filter (fun x => decide (x ≠ 0)) = [] := by
            rw [List.filter_eq_nil_iff]
            intro x hx
            obtain ⟨i, hi, rfl⟩ := List.getElem_of_mem hx
            rw [List.length_take] at hi
            rw [List.getElem_take, zero i (by omega) (by omega)]
            decide
          have z2 : (s.drop (u + 1)).filter (fun x => decide (x ≠ 0)) = [] := by
            rw [List.filter_eq_nil_iff]
            intro x hx
            obtain ⟨i, hi, rfl⟩ := List.getElem_of_mem hx
            rw [List.length_drop] at hi
            rw [List.getElem_drop, zero (u + 1 + i) (by omega) (by omega)]
            decide
          rw [z1, z2]
          split <;> simp
        · have z1 : s.filter (fun x => decide (x ≠ 0)) = [] := by
            rw [List.filter_eq_nil_iff]
            intro x hx
            obtain ⟨i, hi, rfl⟩ := List.getElem_of_mem hx
            rw [zero i hi (by omega)]
            decide
          rw [z1]; simp
      rw [this] at hs; cases hs
    have pm := h.pred hn hw wp
    obtain ⟨i, hi, ei⟩ := List.getElem_of_mem pm
    have ir : i < r.length := by omega
    obtain ⟨p1, p2⟩ := rp i r[i] (List.getElem?_eq_getElem ir)
    have gi : (A.take n).getD i [] = s.set w (s.getD w 0 - 1) := by rw [List.getD_eq_getElem?_getD, List.getElem?_eq_getElem hi, ei]; rfl
    rw [gi] at p1
    have pr : r[i] ∈ r := List.getElem_mem ir
    have f1 := std_iff.mp fs _ pr y hy
    have g1 := std_iff.mp gs _ pr y hy
    have at1 : (r[i].1).getD (u + 1) 0 = (alc84 (b : Int) s).getD (u + 1) 0 := by
      rw [p1, alc_at, alc_at, getD_setI hw, if_neg wu]
    have un : ((u : Int) + 1).toNat = u + 1 := by omega
    have o1 := left_iff.mp f1.2 (by show f.getD y 0 ≠ 0; exact ne) (by show (alc84 (b : Int) s).getD (f.getD y 0).toNat 0 ≤ _; rw [hu, un, at1]; exact Int.le_refl _)
    have o1 : r[i].2.getD y 0 = f.getD y 0 := o1
    have o2 := left_iff.mp g1.1 (by rw [o1]; exact ne) (by rw [o1]; show _ ≤ (alc84 (b : Int) s).getD (f.getD y 0).toNat 0; rw [hu, un, at1]; exact Int.le_refl _)
    have o2 : g.getD y 0 = r[i].2.getD y 0 := o2
    rw [o2, o1]
  have alleq : ∀ f ∈ (asg84 (v : Int) b (alc84 (b : Int) s)).filter (fun f => stdB r (alc84 (b : Int) s, f) b), ∀ g ∈ (asg84 (v : Int) b (alc84 (b : Int) s)).filter (fun f => stdB r (alc84 (b : Int) s, f) b), f = g := fun f hf g hg => by
    have fl := ((mem_asg (v := (v : Int)) (by omega)).mp (List.mem_filter.mp hf).1).1.1
    have gl := ((mem_asg (v := (v : Int)) (by omega)).mp (List.mem_filter.mp hg).1).1.1
    apply List.ext_getElem
    · omega
    · intro y h1 h2
      have e1 : f.getD y 0 = f[y] := by simp [List.getD_eq_getElem?_getD, h1]
      have e2 : g.getD y 0 = g[y] := by simp [List.getD_eq_getElem?_getD, h2]
      rw [← e1, ← e2]
      by_cases z : f.getD y 0 = 0
      · by_cases z2 : g.getD y 0 = 0
        · omega
        · have := same g hg f hf y (by omega) z2; omega
      · have := same f hf g hg y (by omega) z; omega
  have nd : ((asg84 (v : Int) b (alc84 (b : Int) s)).filter fun f => stdB r (alc84 (b : Int) s, f) b).Nodup := ((pw_nodup (allL_pw _ _)).filter _).filter _
  revert alleq nd
  generalize (asg84 (v : Int) b (alc84 (b : Int) s)).filter (fun f => stdB r (alc84 (b : Int) s, f) b) = L
  intro alleq nd
  match L, alleq, nd with
  | [], _, _ => simp
  | [_], _, _ => simp
  | x :: y :: L, al, nd =>
    have := al x (by simp) y (by simp)
    subst this
    exact absurd (List.mem_cons_self ..) (List.nodup_cons.mp nd).1
theorem Aw84.nd (h : Aw84 F A v) : A.Nodup := h.asc.imp fun {a b} lt e => by rw [e] at lt; omega
/-- with fewer buckets than a clique has entries there is no steady rule -/
theorem Aw84.none (h : Aw84 F A v) {hs : List Int} (hl : hs.length = v - 1) (nn : ∀ x ∈ hs, 0 ≤ x) (hle : ∀ u, u < v - 1 → ∃ r0 ∈ F, hs.getD u 0 ≤ r0.getD u 0) (pw : (entL hs).Pairwise fun a b => togB F a b = true) (hsum : (b : Int) < hs.sum) : fndS (v : Int) b A = [] := by
  apply List.eq_nil_iff_forall_not_mem.mpr
  intro r hr
  obtain ⟨rl, rp, rq⟩ := fnd_mem (by omega) A hr
  have v2 := h.v2
  -- the pair of allowed shares
  have pair : ∀ s, s ∈ A → ∃ p ∈ r, p.1 = alc84 (b : Int) s ∧ p.2.length = b ∧ countsI p.2 (v : Int) = p.1 := fun s hs => by
    obtain ⟨i, hi, rfl⟩ := List.getElem_of_mem hs
    have ir : i < r.length := by omega
    obtain ⟨p1, p2⟩ := rp i r[i] (List.getElem?_eq_getElem ir)
    have := (mem_asg (v := (v : Int)) (by omega)).mp p2
    refine ⟨r[i], List.getElem_mem ir, ?_, this.1.1, this.2⟩
    rw [p1, List.getD_eq_getElem?_getD, List.getElem?_eq_getElem hi]; rfl
  have setl : ∀ (l : List Int) (i : Nat) (x : Int), (l.set i x).length = l.length := fun l i x => List.length_set
  have zl : (zr (v - 1)).length = v - 1 := by simp [zr]
  have z0 : ∀ j, (zr (v - 1)).getD j 0 = 0 := fun j => by
    simp only [zr, List.getD_eq_getElem?_getD, List.getElem?_replicate]; split <;> rfl
  have h0 : ∀ x, 0 ≤ hs.getD x 0 := fun x => by
    by_cases q : x < hs.length
    · exact nn _ (gd_mem q)
    · rw [List.getD_eq_getElem?_getD, List.getElem?_eq_none (by omega)]; exact Int.le_refl _
  -- two tops of the clique are used by one of the family's shares
  have top : ∀ u w, u < w → w < v - 1 → 0 < hs.getD u 0 → 0 < hs.getD w 0 → ∃ r0 ∈ F, hs.getD u 0 ≤ r0.getD u 0 ∧ hs.getD w 0 ≤ r0.getD w 0 := fun u w lt hw pu pw' => by
    have mu : enE u (hs.getD u 0 - 1).toNat ∈ entL hs := mem_ent.mpr ⟨u, (hs.getD u 0 - 1).toNat, rfl, by omega, by omega⟩
    have mw : enE w (hs.getD w 0 - 1).toNat ∈ entL hs := mem_ent.mpr ⟨w, (hs.getD w 0 - 1).toNat, rfl, by omega, by omega⟩
    have t : togB F (enE u (hs.getD u 0 - 1).toNat) (enE w (hs.getD w 0 - 1).toNat) = true := by
      obtain ⟨i, hi, ei⟩ := List.getElem_of_mem mu
      obtain ⟨j, hj, ej⟩ := List.getElem_of_mem mw
      have pw2 := List.pairwise_iff_getElem.mp pw
      rcases Nat.lt_trichotomy i j with q | q | q
      · have := pw2 i j hi hj q; rwa [ei, ej] at this
      · subst q; rw [ei] at ej; have := (en_inj.mp ej).1; omega
      · have := pw2 j i hj hi q; rw [ei, ej, tog_comm] at this; exact this
    obtain ⟨_, r0, hr0, a, b⟩ := tog_iff.mp t
    exact ⟨r0, hr0, by omega, by omega⟩
  have two84 : ∀ u w, u < v - 1 → w < v - 1 → ∀ r0 ∈ F, hs.getD u 0 ≤ r0.getD u 0 → hs.getD w 0 ≤ r0.getD w 0 → ((zr (v - 1)).set u (hs.getD u 0)).set w (hs.getD w 0) ∈ A := fun u w hu hw r0 hr0 e1 e2 => by
    have rl0 := h.fam.shr r0 hr0
    have rlen := rl0.len
    refine (h.mem _).mpr ⟨r0, hr0, by rw [setl, setl, zl]; omega, fun i hi => ?_⟩
    rw [setl, setl, zl] at hi
    have ri := rl0.nn _ (gd_mem (l := r0) (j := i) (by omega))
    rw [getD_setI (by rw [setl, zl]; exact hw)]
    by_cases q : w = i
    · rw [if_pos q, ← q]; exact ⟨h0 _, e2⟩
    · rw [if_neg q, getD_setI (by rw [zl]; exact hu)]
      by_cases q2 : u = i
      · rw [if_pos q2, ← q2]; exact ⟨h0 _, e1⟩
      · rw [if_neg q2, z0]; exact ⟨Int.le_refl _, ri⟩
  -- any two variants of the clique have a pair of the rule in which both have their shares
  have both : ∀ u w, u < w → w < v - 1 → 0 < hs.getD u 0 → 0 < hs.getD w 0 → ∃ p ∈ r, p.1.getD (u + 1) 0 = hs.getD u 0 ∧ p.1.getD (w + 1) 0 = hs.getD w 0 := fun u w lt hw pu pw' => by
    obtain ⟨r0, hr0, e1, e2⟩ := top u w lt hw pu pw'
    obtain ⟨p, hp, p1, _⟩ := pair _ (two84 u w (by omega) hw r0 hr0 e1 e2)
    refine ⟨p, hp, ?_, ?_⟩
    · rw [p1, alc_at, getD_setI (by rw [setl, zl]; exact hw), if_neg (by omega), getD_setI (by rw [zl]; omega), if_pos rfl]
    · rw [p1, alc_at, getD_setI (by rw [setl, zl]; exact hw), if_pos rfl]
  have ex : ∀ u, ∃ p : Pr, u < v - 1 → p ∈ r ∧ p.1.getD (u + 1) 0 = hs.getD u 0 ∧ p.2.length = b ∧ countsI p.2 (v : Int) = p.1 := fun u => by
    by_cases q : u < v - 1
    · obtain ⟨r0, hr0, e⟩ := hle u q
      obtain ⟨p, hp, p1, p2, p3⟩ := pair _ (two84 u u q q r0 hr0 e e)
      exact ⟨p, fun _ => ⟨hp, by rw [p1, alc_at, getD_setI (by rw [setl, zl]; exact q), if_pos rfl], p2, p3⟩⟩
    · exact ⟨([], []), fun w => absurd w q⟩
  obtain ⟨pu, hpu⟩ := Classical.axiomOfChoice ex
  let g : Nat → List Nat := fun u => (List.range b).filter fun y => decide ((pu u).2.getD y 0 = (u : Int) + 1)
  have gl : ∀ u, u < v - 1 → ((g u).length : Int) = hs.getD u 0 := fun u hu => by
    obtain ⟨_, e1, e2, e3⟩ := hpu u hu
    have cp := count_places (pu u).2 ((u : Int) + 1)
    rw [e2] at cp
    show (((List.range b).filter fun y => decide ((pu u).2.getD y 0 = (u : Int) + 1)).length : Int) = _
    rw [← cp, ← e1, ← e3]
    simp [countsI, upI, List.getD_eq_getElem?_getD, show u + 1 < v by omega]
  have fl : ∀ n, (((List.range n).flatMap g).length : Int) = sR n fun u => ((g u).length : Int) := fun n => by
    induction n with
    | zero => rfl
    | succ n ih => rw [List.range_succ, List.flatMap_append, List.length_append, Int.natCast_add, ih, sR_succ]; simp
  have nd : ((List.range (v - 1)).flatMap g).Nodup := by
    unfold List.Nodup
    rw [List.pairwise_flatMap]
    refine ⟨fun u _ => List.nodup_range.filter _, ?_⟩
    refine List.Pairwise.imp_of_mem (R := fun a b => a < b) (fun {u w} hu hw lt y hy z hz e => ?_) List.pairwise_lt_range
    subst e
    have hu := List.mem_range.mp hu
    have hw := List.mem_range.mp hw
    obtain ⟨y1, y2⟩ := List.mem_filter.mp hy
    obtain ⟨_, y3⟩ := List.mem_filter.mp hz
    have yb := List.mem_range.mp y1
    have y2 := of_decide_eq_true y2
    have y3 := of_decide_eq_true y3
    obtain ⟨u1, u2, u3, u4⟩ := hpu u hu
    obtain ⟨w1, w2, w3, w4⟩ := hpu w hw
    have pos : ∀ x, x < v - 1 → (pu x).2.getD y 0 = (x : Int) + 1 → 0 < hs.getD x 0 := fun x hx ey => by
      rw [← gl x hx]
      have : y ∈ g x := List.mem_filter.mpr ⟨y1, decide_eq_true ey⟩
      have := List.length_pos_of_mem this
      omega
    obtain ⟨p, hp, e1, e2⟩ := both u w lt hw (pos u hu y2) (pos w hw y3)
    have un : ∀ x : Nat, ((x : Int) + 1).toNat = x + 1 := fun x => by omega
    have s1 := left_iff.mp (rq _ u1 _ hp y yb) (by rw [y2]; omega) (by rw [y2, un, u2, e1]; exact Int.le_refl _)
    have s2 := left_iff.mp (rq _ w1 _ hp y yb) (by rw [y3]; omega) (by rw [y3, un, w2, e2]; exact Int.le_refl _)
    rw [y2] at s1
    rw [y3] at s2
    omega
  have le := nodup_sub nd (m := List.range b) fun y hy => by
    obtain ⟨u, _, hu⟩ := List.mem_flatMap.mp hy
    exact (List.mem_filter.mp hu).1
  rw [List.length_range] at le
  have f1 := fl (v - 1)
  have f2 := sR_congr (n := v - 1) (f := fun u => ((g u).length : Int)) (g := fun k => hs.getD k 0) gl
  have f3 := sR_list hs
  rw [hl] at f3
  omega
end
end Lm


/-! bool of a list; promises of k84 -/
namespace L2
open PySem PySem.Spec PyProof.Rows Lm
end L2
namespace Lm
open PySem PySem.Spec PyProof.Rows L2
end Lm
namespace Lm
open PySem PySem.Spec PyProof.Rows L2
end Lm


/-! for loops over what another def returns; new lists of drawn things that stay (k09) -/
namespace Lm
open PySem PySem.Spec PyProof.Rows L2
section
variable {c : Ct} {H H' H0 H1 H2 : Hp} {O : List Addr} {σ : L2.St} {Γ : List (Option Rs)} {te ta tb tl : TE} {tr : TA} {k : Kd} {u : TS} {n : Nat} {P : Out → Prop} {Pd : List PyData → Prop} {ds es : List PyData} {d : PyData}
/-- a new list of things that stay, frozen -/
theorem EvWN.v (h : EvWN c te Γ Pd) : EvN c te Γ .v (fun d => ∃ ds, d = .list ds ∧ Pd ds) := fun H0 O H σ e Q q =>
  h H0 O H σ e _ fun p xs ds H2 pd hp r h2 rm b => q _ _ H2 ⟨ds, rfl, pd⟩ r (by
    show Bo c (mns H2 O) (.ref p) (.list ds)
    have np : p ∉ O := new_notO e hp
    refine .lst (fun st l qq z => ?_) (.inl (.inl ?_)) (b.same (mns_sub fun z hz => by simp [hz]))
    · obtain ⟨ns, x, k, g1, _⟩ := e.jH st l qq
      rw [← z, hp] at g1
      cases g1
    · rw [mns_out np]; exact h2)
theorem EvW.wn (h : EvW c te Γ ds) : EvWN c te Γ (fun x => x = ds) := fun H0 O H σ e Q q => h H0 O H σ e _ fun p xs H2 hp r h2 rm b => q p xs ds H2 rfl hp r h2 rm b
theorem EvW.v (h : EvW c te Γ ds) : Ev c te Γ .v (.list ds) := EvN.det (h.wn.v.imp fun d ⟨x, e, w⟩ => by rw [e, w])
/-- any item of a list that stays -/
theorem n_pick {m n : Nat} {st l : Addr} {E : XK} (hc : c.so = some (st, l)) (h0 : Γ[m]? = some (some (.r (.ref st)))) (hx : Γ[n]? = some (some (.v (.list ds)))) (h1 : 0 < ds.length) (h2 : ds.length ≤ 1000) : EvN c (tCall (sp__law_pick c.K) [] E (tCons (tVar m) (tCons (tVar n) tNil))) Γ .v (fun d => d ∈ ds) := fun H0 O H σ e Q q => by
  have hcc : c = sc c.K st l := by cases c; cases hc; rfl
  refine ⟨_, e.slotR h0, ?_⟩
  refine d_var hx H0 O H σ e _ fun v H1 r1 s1 => ?_
  have bv : Bo c (mns H1 O) v (.list ds) := s1
  obtain ⟨p, xs, rfl, ok, sl, al⟩ := bv.lst'
  refine ⟨st, l, p, xs, rfl, (e.on r1).jH st l hc, mns_same.seq sl, fun w => ok st l hc w, by rw [al.len]; exact h1, by rw [al.len]; exact h2, fun i v H' hi r => ?_⟩
  rw [← hcc] at r
  obtain ⟨d, hd, bd⟩ := al.get hi
  exact q v d H' (List.mem_of_getElem? hd) (r1.tr r) (bd.mono (e.on r1).j (r.mns (e.on r1).j e.okO))
end
section
variable {K : PySem.W.Frag} {C : Addr}
theorem kit_ref {L : Addr} {cd : PySem.ClassData} (h1 : PySem.W.clsIn K L = some cd) (h2 : PySem.W.typeIn K (.ref L) = some (.type "type")) (h3 : PySem.W.subIn K (.ref C) (.ref L) = some true) : PySem.W.kitOne K (.ref C) (.ref L) = some true := by
  unfold PySem.W.kitOne
  split
  · rfl
  · unfold PySem.W.kitCls
    show (if ((PySem.W.clsIn K L).isSome && PySem.W.typeIn K (.ref L) == some (.type "type")) = true then _ else _) = _
    rw [h1, h2, if_pos (by simp)]
    exact h3
end
end Lm


/-! refusals of allocations and assignments (k09) -/
namespace Lm
open PySem PySem.Spec PyProof.Rows L2
section
variable {K : PySem.W.Frag} {C : Addr} {H0 : Hp} {Γ : List (Option Rs)} {te : TE} {c : Ct} {r : List V → Hp → VK → Prop}
end
/-! good and wrong parts, by the word's number -/
/-! what is wrong -/
end Lm
namespace Lm
open PySem PySem.Spec PyProof.Rows L2
end Lm
namespace Lm
open PySem PySem.Spec PyProof.Rows L2
end Lm
namespace Lm
open PySem PySem.Spec PyProof.Rows L2
end Lm
namespace Lm
open PySem PySem.Spec PyProof.Rows L2
theorem EvW.to09 {c : Ct} {te : TE} {Γ : List (Option Rs)} {ds es : List PyData} (h : EvW c te Γ ds) (e : ds = es) : EvW c te Γ es := e ▸ h
end Lm


/-! texts: length, sign, part, sum, product, a sign in a text (k91 to k95) -/
namespace Lm
open PySem PySem.Spec PyProof.Rows L2
def rLenU (K : PySem.W.Frag) : List V → Hp → VK → Prop := fun xs H Q => rLen K xs H Q ∨ ∃ z, xs = [.str z] ∧ z.length ≤ sizeLine ∧ Q (.int z.length) H
def rAddU (K : PySem.W.Frag) : R2 := fun x y H Q => rAddA K x y H Q ∨ ∃ i j, x = .str i ∧ y = .str j ∧ i.length + j.length ≤ sizeLine ∧ Q (.str (i ++ j)) H
def rSlT (K : PySem.W.Frag) : V → Option Int → Option Int → Hp → VK → Prop := fun x lo hi H Q => rSlU K x lo hi H Q ∨ rSlS x lo hi H Q
def rMulT : R2 := fun x y H Q => rMulA x y H Q ∨ ∃ a n, x = .str a ∧ y = .int n ∧ -1000000 ≤ n ∧ n ≤ 1000 ∧ a.length ≤ 1000 ∧ Q (.str (Txt.mul a n)) H
section
variable {X : Cx} {K : PySem.W.Frag} (hK : X.K = K)
include hK
theorem k_lenU : CallR X (.builtin "len") (rLenU K) := hK ▸ (fun pins s σ H xs us Q I r h => h.elim (fun h => cr_len pins s σ H xs us Q I r h) fun h => call_len_str pins s σ H xs us Q I r h)
theorem k_addU : OpR X (binaryOp .Add) (rAddU K) := hK ▸ (fun pins s σ H x y v u Q I rx ry h => h.elim (fun h => op_addA pins s σ H x y v u Q I rx ry h) fun h => op_add_str pins s σ H x y v u Q I rx ry h)
theorem k_slS : SlR X (rSlT K) := by
  subst hK
  intro pins s σ H x v vl vu lo hi sl Q I rx hs pl pu w
  rcases w with h | h
  · exact k_slU (K := X.K) rfl pins s σ H x v vl vu lo hi sl Q I rx hs pl pu h
  · exact sl_str pins s σ H x v vl vu lo hi sl Q I rx hs pl pu h
end
theorem op_mulT {X : Cx} : OpR X (binaryOp .Mult) rMulT := fun pins s σ H x y v u Q I rx ry h => by
  rcases h with h | ⟨a, n, rfl, rfl, h1, h2, h3, q⟩
  · exact op_mulA pins s σ H x y v u Q I rx ry h
  · obtain ⟨t, rfl⟩ := rx
    obtain ⟨t', rfl⟩ := ry
    refine SB.mul ⟨?_, fun h4 _ => ?_, fun h4 _ => ?_⟩ fun t' k => ⟨.str (Txt.mul a n), H, I.tok _, ⟨_, rfl⟩, q⟩
    · rw [Bool.or_eq_false_iff]; exact ⟨decide_eq_false (by omega), decide_eq_false (by omega)⟩
    · have : (a.length : Int) ≤ (2 ^ 63 - 1) / n := Int.le_ediv_of_mul_le (by omega) (by
        have : (a.length : Int) * n ≤ 1000 * 1000 := Int.mul_le_mul (by omega) h2 (by omega) (by omega)
        omega)
      omega
    · have : a.length * n.toNat ≤ 1000 * 1000 := Nat.mul_le_mul h3 (by omega)
      have := sizeLine_eq
      show decide (_ > sizeLine) = false
      refine decide_eq_false ?_
      omega
section
variable {c : Ct} {H : Hp} {O : List Addr} {σ : L2.St} {Γ : List (Option Rs)} {te ta tb : TE} {k ka kb : Kd} {z a b : Str} {i : Int} {ch : Nat}
theorem e_lenS (h : Ev c te Γ k (.str z)) (hl : z.length ≤ 100000) : Ev c (tCB (rLenU c.K) (tCons te tNil)) Γ .v (.int z.length) :=
  d_cb (a_cons h a_nil) fun H O vs Q s q => by
    obtain ⟨x, rfl, b⟩ := s.one
    exact .inr ⟨z, by rw [b.str'], by rw [sizeLine_eq]; omega, q _ H Rr.rf (.int _)⟩
theorem e_addS (ha : Ev c ta Γ ka (.str a)) (hb : Ev c tb Γ kb (.str b)) (hl : a.length + b.length ≤ 100000) : Ev c (tOp (rAddU c.K) ta tb) Γ .v (.str (a ++ b)) :=
  d_bin ha hb fun H O v u Q bv bu q => .inr ⟨a, b, bv.str', bu.str', by rw [sizeLine_eq]; omega, q _ H Rr.rf (.str _)⟩
theorem e_mulS (ha : Ev c ta Γ ka (.str a)) (hb : Ev c tb Γ kb (.int i)) (h1 : -1000000 ≤ i) (h2 : i ≤ 1000) (h3 : a.length ≤ 1000) : Ev c (tOp rMulT ta tb) Γ .v (.str (Txt.mul a i)) :=
  d_bin ha hb fun H O v u Q bv bu q => .inr ⟨a, i, bv.str', bu.int', h1, h2, h3, q _ H Rr.rf (.str _)⟩
/-- a sign of a text -/
theorem e_ixS (ha : Ev c ta Γ ka (.str z)) (hb : Ev c tb Γ kb (.int i)) (hl : z.length ≤ 100000) (he : atI z.cps.toList i = some ch) : Ev c (tOp (rIx c.K) ta tb) Γ .v (.str ⟨#[ch]⟩) :=
  d_bin ha hb fun H O v u Q bv bu q => .inr (.inr ⟨z, i, ch, bv.str', bu.int', by rw [sizeLine_eq]; omega, he, q _ H Rr.rf (.str _)⟩)
theorem e_inS (ha : Ev c ta Γ ka (.str ⟨#[ch]⟩)) (hb : Ev c tb Γ kb (.str z)) : Ev c (tOp rInS ta tb) Γ .v (.bool (decide (ch ∈ z.cps.toList))) :=
  d_bin ha hb fun H O v u Q bv bu q => ⟨ch, z, bv.str', bu.str', q _ H Rr.rf (.bl _)⟩
theorem e_notInS (ha : Ev c ta Γ ka (.str ⟨#[ch]⟩)) (hb : Ev c tb Γ kb (.str z)) : Ev c (tOp rNotInS ta tb) Γ .v (.bool (!decide (ch ∈ z.cps.toList))) :=
  d_bin ha hb fun H O v u Q bv bu q => ⟨ch, z, bv.str', bu.str', q _ H Rr.rf (.bl _)⟩
/-- a part of a text -/
theorem e_slS {tl th : TO} {lo hi : Option Int} (h : Ev c te Γ k (.str z)) (h1 : Eo c tl Γ lo) (h2 : Eo c th Γ hi) (hl : z.length ≤ 100000) : Ev c (tSl (rSlT c.K) te tl th) Γ .v (.str (cutS z lo hi)) := fun H0 O H σ e Q q =>
  h H0 O H σ e _ fun v H1 r1 s1 => h1 H0 O H1 σ (e.on r1) _ fun H2 r2 => h2 H0 O H2 σ ((e.on r1).on r2) _ fun H3 r3 => by
    have r : Rr c H H3 := (r1.tr r2).tr r3
    have b := (Res.bo e (Res.on e r1 (r2.tr r3) s1)).str'
    exact .inr ⟨z, b, by rw [sizeLine_eq]; omega, q _ H3 r (.str _)⟩
end
/-! the signs of a text -/
theorem cut_sign {z : Str} {lo hi : Nat} (h : hi ≤ z.length) (h2 : lo ≤ hi) : (cutS z (some (lo : Int)) (some (hi : Int))).cps.toList = (z.cps.toList.drop lo).take (hi - lo) := by
  unfold cutS
  rw [HT.sIx_nat, HT.sIx_nat, Nat.min_eq_left h, Nat.min_eq_left (by omega)]
theorem pe_constS {X : Cx} {x : Str} {z : Str} {pos : Pos} (hg : Gl X x) (hm : ∃ t, X.mg x = some (.str z t)) (hd : (x == ("__debug__" : Str)) = false := by decide) : PE X (.Name x pos) (tC (.str z)) := by
  obtain ⟨t, h⟩ := hm
  exact pe_glob hg h ⟨t, rfl⟩ hd
end Lm


/-! the tokens of texts (k91 to k95) -/
namespace Lm
open PySem PySem.Spec PyProof.Rows L2
/-- the signs of a text -/
abbrev sgL (z : Str) : List Nat := z.cps.toList
/-- the text of these signs -/
def strN (L : List Nat) : Str := ⟨L.toArray⟩
theorem sg_strN (L : List Nat) : sgL (strN L) = L := by simp [strN]
theorem strN_len (L : List Nat) : (strN L).length = L.length := by simp [strN, Str.length]
theorem sg_len (z : Str) : (sgL z).length = z.length := by simp [Str.length]
/-- the longest part at the front that has these signs only -/
def runS (L C : List Nat) : List Nat := L.takeWhile fun c => decide (c ∈ C)
theorem run_len (L C : List Nat) : (runS L C).length ≤ L.length := (List.takeWhile_sublist _).length_le
theorem run_at_in {L C : List Nat} {j : Nat} (h : j < (runS L C).length) : ∃ c, L[j]? = some c ∧ c ∈ C := by
  have e := List.takeWhile_append_dropWhile (p := fun c => decide (c ∈ C)) (l := L)
  have g : L[j]? = (runS L C)[j]? := by
    conv => lhs; rw [← e]
    exact List.getElem?_append_left h
  rw [g, List.getElem?_eq_getElem h]
  refine ⟨_, rfl, ?_⟩
  have m := List.getElem_mem h
  have := List.all_takeWhile (p := fun c => decide (c ∈ C)) (l := L)
  rw [List.all_eq_true] at this
  simpa using this _ m
theorem run_at_out {L C : List Nat} : (∀ c, L[(runS L C).length]? = some c → c ∉ C) := by
  intro c h0
  have e : runS L C ++ (L.dropWhile fun c => decide (c ∈ C)) = L := List.takeWhile_append_dropWhile
  have h : ((runS L C) ++ L.dropWhile fun c => decide (c ∈ C))[(runS L C).length]? = some c := by rw [e]; exact h0
  rw [List.getElem?_append_right (Nat.le_refl _), Nat.sub_self] at h
  have := List.head?_dropWhile_not (fun c => decide (c ∈ C)) L
  rw [List.head?_eq_getElem?, h] at this
  simpa using this
theorem run_take (L C : List Nat) : L.take (runS L C).length = runS L C := by
  have e : runS L C ++ (L.dropWhile fun c => decide (c ∈ C)) = L := List.takeWhile_append_dropWhile
  have h : (runS L C ++ (L.dropWhile fun c => decide (c ∈ C))).take (runS L C).length = runS L C := List.take_left
  rwa [e] at h
def sp_run_at (K : PySem.W.Frag) : Sp := spD K fun ds k d => ∃ (z C : Str) (a : Nat), ds = [.str z, .int (a : Int), .str C] ∧ a ≤ z.length ∧ z.length ≤ 1000 ∧ k = .v ∧ d = .str (strN (runS ((sgL z).drop a) (sgL C)))
/-- what check_text lets -/
def txtB : PyData → Bool
  | .str z => decide (z.length ≤ 400) && !decide (10 ∈ sgL z)
  | _ => false
def sp_check_text (K : PySem.W.Frag) : Sp := spD K fun ds k d => ∃ z : Str, ds = [.str z] ∧ txtB (.str z) = true ∧ k = .v ∧ d = .none
/-! the scanner -/
abbrev sLET : Str := Str.ofString "abcdefghijklmnopqrstuvwxyz"
abbrev sDIG : Str := Str.ofString "0123456789"
abbrev sNAM : Str := Str.ofString "abcdefghijklmnopqrstuvwxyz0123456789_"
abbrev sSIG : Str := Str.ofString ",.*/"
theorem let_nam {c : Nat} (h : c ∈ sgL sLET) : c ∈ sgL sNAM := by
  have : ∀ c ∈ sgL sLET, c ∈ sgL sNAM := by decide +kernel
  exact this c h
/-- what begins at a place -/
def tokA (L : List Nat) (a : Nat) : Except String (String × List Nat) :=
  if L.getD a 0 ∈ sgL sLET then (if 12 < (runS (L.drop a) (sgL sNAM)).length then .error "a name has at most 12 characters" else .ok ("name", runS (L.drop a) (sgL sNAM)))
  else if L.getD a 0 ∈ sgL sDIG then (if 6 < (runS (L.drop a) (sgL sDIG)).length then .error "a number has at most 6 digits" else .ok ("number", runS (L.drop a) (sgL sDIG)))
  else if L.getD a 0 ∈ sgL sSIG then .ok ("sign", [L.getD a 0])
  else .error "no token begins here"
theorem run_pos {L C : List Nat} {a : Nat} (h : a < L.length) (m : L.getD a 0 ∈ C) : 0 < (runS (L.drop a) C).length := by
  have e : L.drop a = L.getD a 0 :: L.drop (a + 1) := by
    rw [List.drop_eq_getElem_cons h, List.getD_eq_getElem?_getD, List.getElem?_eq_getElem h]; rfl
  rw [e]
  unfold runS
  rw [List.takeWhile_cons_of_pos (by simpa using m)]
  simp
theorem tok_len {L : List Nat} {a : Nat} {k : String} {r : List Nat} (h : tokA L a = .ok (k, r)) (ha : a < L.length) : 0 < r.length ∧ a + r.length ≤ L.length := by
  unfold tokA at h
  split at h
  · next m =>
    split at h
    · cases h
    · cases h
      have := run_len (L.drop a) (sgL sNAM)
      rw [List.length_drop] at this
      exact ⟨run_pos ha (let_nam m), by omega⟩
  · split at h
    · next m =>
      split at h
      · cases h
      · cases h
        have := run_len (L.drop a) (sgL sDIG)
        rw [List.length_drop] at this
        exact ⟨run_pos ha m, by omega⟩
    · split at h
      · cases h; exact ⟨by simp, by simp; omega⟩
      · cases h
abbrev Tok9 := String × List Nat × Nat
def tokD (t : Tok9) : PyData := .tuple [.str (Str.ofString t.1), .str (strN t.2.1), .int (t.2.2 : Int)]
/-- the tokens from a place on, with at most so many steps -/
def scn (L : List Nat) : Nat → Nat → Except (Nat × String) (List Tok9)
  | 0, _ => .ok []
  | n + 1, a => if a < L.length then
      (if L.getD a 0 = 32 then scn L n (a + 1)
       else match tokA L a with
        | .error w => .error (a + 1, w)
        | .ok (k, r) => match scn L n (a + r.length) with
          | .ok ts => .ok ((k, r, a + 1) :: ts)
          | .error e => .error e)
    else .ok []
def sp_name_at (K : PySem.W.Frag) : Sp := spD K fun ds k d => ∃ (z : Str) (a : Nat), ds = [.str z, .int (a : Int)] ∧ a ≤ z.length ∧ z.length ≤ 1000 ∧ (runS ((sgL z).drop a) (sgL sNAM)).length ≤ 12 ∧ k = .v ∧ d = tokD ("name", runS ((sgL z).drop a) (sgL sNAM), a + 1)
def sp_number_at (K : PySem.W.Frag) : Sp := spD K fun ds k d => ∃ (z : Str) (a : Nat), ds = [.str z, .int (a : Int)] ∧ a ≤ z.length ∧ z.length ≤ 1000 ∧ (runS ((sgL z).drop a) (sgL sDIG)).length ≤ 6 ∧ k = .v ∧ d = tokD ("number", runS ((sgL z).drop a) (sgL sDIG), a + 1)
def sp_token_at (K : PySem.W.Frag) : Sp := spD K fun ds k d => ∃ (z : Str) (a : Nat) (kd : String) (r : List Nat), ds = [.str z, .int (a : Int)] ∧ a < z.length ∧ z.length ≤ 1000 ∧ tokA (sgL z) a = .ok (kd, r) ∧ k = .v ∧ d = tokD (kd, r, a + 1)
def sp_scan (K : PySem.W.Frag) : Sp := spD K fun ds k d => ∃ (z : Str) (ts : List Tok9), ds = [.str z] ∧ txtB (.str z) = true ∧ scn (sgL z) z.length 0 = .ok ts ∧ k = .o ∧ d = .list (ts.map tokD ++ [tokD ("end", [], z.length + 1)])
theorem flatTok (t : Tok9) : flatD (tokD t) = true := rfl
end Lm


/-! try with several clauses `except C as n` -/
namespace Lm
open PySem PySem.Spec PyProof.Rows L2
/-- what the clauses want, one after another; slot i is their name's -/
def wAsM (K : PySem.W.Frag) (i : Nat) (Wo : WX) (D : Ends) : List (Value × (Addr → Value → Option Addr → TS)) → WX
  | [] => Wo
  | p :: r => fun cl dd σ H => ∃ b, PySem.W.exmOne K cl p.1 = some b ∧
      (b = true → ∀ x, H x = none → p.2 x cl dd { nx := fun τ J => D.nx (τ.set i none) J, rt := D.rt, bk := fun τ J => D.bk (τ.set i none) J, ct := fun τ J => D.ct (τ.set i none) J } (σ.set i (some (.ref x))) H) ∧
      (b = false → wAsM K i Wo D r cl dd σ H)
inductive AsOk (X : Cx) (nm : Str) : List ExceptHandler → List (Value × (Addr → Value → Option Addr → TS)) → Prop
  | nil : AsOk X nm [] []
  | cons {cn : Str} {c : Value} {th : Addr → Value → Option Addr → TS} {fst : Stmt} {more : List Stmt} {q1 q2 : Pos} {hs : List ExceptHandler} {l : List (Value × (Addr → Value → Option Addr → TS))} (nc : Names X cn c)
      (run : ∀ (x : Addr) (ox : Obj) (cl : Value) (dd : Option Addr) (pl : List (Addr × Obj)), Zc cl dd ox → (∃ us, ox.data = .fields us) → PSs (X.suite x ((x, ox) :: pl)) (fst :: more) (th x cl dd)) (tl : AsOk X nm hs l) :
      AsOk X nm (.ExceptHandler (some (.Name cn q1)) (some nm) (fst :: more) q2 :: hs) ((c, th) :: l)
section
variable {X : Cx} {body : List Stmt} {h0 : ExceptHandler} {hs : List ExceptHandler} {l : List (Value × (Addr → Value → Option Addr → TS))} {nm : Str} {i : Nat} {pos : Pos} {tb : WX → TS} {Wo : WX}
theorem ps_try_asM (hst : X.stack = X.env :: X.outer) (hfr : X.env.frame = some X.env.locals) (nd : X.N.Nodup) (ni : X.N[i]? = some nm) (kn : X.env.kindOf nm = some .local) (tk : Takes X Wo)
    (hb : ∀ (Wb : WX) (pl : List (Addr × Obj)) (xe : Value → Shared → Prop), Takes (X.tr pl xe) Wb → PassesOwn (model X.prog X.w) X.A X.env xe → PSs (X.tr pl xe) body (tb Wb))
    (cl : AsOk X nm (h0 :: hs) l) : PS X (.Try body (h0 :: hs) [] [] pos) (fun D σ H => tb (wAsM X.K i Wo D l) D σ H) := ⟨fun pins s σ H D I h => by
  have ik := I.ok
  have fs : X.A.frames = some (X.env :: X.outer) := ik.frames.trans (congrArg some hst)
  have lc : Loc X.env.scope nm := .inl kn
  refine wpAny_Try_except (wpAny_mono ((hb (wAsM X.K i Wo D l) (X.pn ++ pins) (fun u t => wpAny (model X.prog X.w) X.A (noteFrame u X.env) (fun _ t2 => wpAny (model X.prog X.w) X.A (setFlight u none) (fun _ t3 => wpAny (model X.prog X.w) X.A (handleBy u X.env (h0 :: hs)) (SP X pins D) X.xe t3) X.xe t2) X.xe t)
    (fun u t z => ?_) PassesOwn.looking).run [] s σ H D (I.toTry _) h) (fun o t z => ?_) fun _ _ z => z)
  · obtain ⟨x, B, sI, pi, τ, J, cls, dd, rfl, Iv, nb, up, sky, nx, os, ag, wish⟩ := z
    have Iv := Iv.ofTry (pins := pins) ik
    have sky : Sky B (X.env :: X.outer) x (Zc cls dd) X.env.locals t.heap := hst ▸ sky
    show wpAny (model X.prog X.w) X.A (noteFrame (.ref x) X.env) _ _ _
    refine Sky.land Zc.steady fs hfr sky fun g fly upg => ?_
    have Ig : Inv X pins τ J { t with heap := g } := Iv.landed nb fly.1 (up.trans upg) os ag
    obtain ⟨ox, us, gx, zx, dx⟩ := fly.there
    have nofr : x ∉ frs (X.env :: X.outer) := fun hm => by
      obtain ⟨_, o', e', hn⟩ := fly.2.2.1.mem hm
      rw [gx] at e'
      cases e'
      exact hn _ dx
    have nloc : x ≠ X.env.locals := fun z => nofr (List.mem_filterMap.mpr ⟨X.env, List.mem_cons_self, by rw [hfr, z]⟩)
    have nout : x ∉ X.fs := fun hm => by
      obtain ⟨v2, m2, z2⟩ := List.mem_filterMap.mp hm
      exact nofr (List.mem_filterMap.mpr ⟨v2, List.mem_cons_of_mem _ m2, z2⟩)
    have all : ∀ {hs' : List ExceptHandler} {l' : List (Value × (Addr → Value → Option Addr → TS))}, AsOk X nm hs' l' → wAsM X.K i Wo D l' cls dd τ J → wpAny (model X.prog X.w) X.A (handleBy (.ref x) X.env hs') (SP X pins D) X.xe { t with heap := g } := by
      intro hs' l' ok
      induction ok with
      | nil =>
        intro wish
        obtain ⟨k1, k2, k3, oy, vy, T, oT, tv, gy, zy, dy, hT, hr⟩ := id fly
        refine wpAny_handleBy_nil ?_
        unfold PySem.passOn
        refine wpAny_bind (wpAny_field gy dy hT ?_)
        rw [if_neg (by simp : ¬ ((Value.ref T == Value.none) = true))]
        have out : wpAny (model X.prog X.w) X.A (setFlight (.ref x) X.env.frame) (fun _ t4 => wpAny (model X.prog X.w) X.A (throw (.ref x) : Sem Flow) (SP X pins D) X.xe t4) X.xe { t with heap := g } := by
          rw [hfr]
          exact HandSPX.setFlight_upZ fly fun g4 z4 up4 => wpAny_throw (tk _ _ ⟨x, B, sI, pins, τ, J, cls, dd, rfl, Iv, nb, (up.trans upg).trans up4, .inr (.inr (hst ▸ z4)), nx, os, ag, wish⟩)
        first
          | exact wpAny_bind (wpAny_pure (wpAny_bind out))
          | exact wpAny_bind out
      | @cons cn c th fst more q1 q2 hs2 l2 nc run tl ih =>
        intro wish
        obtain ⟨b, hb1, yes, no⟩ := wish
        have S3 := Ig.suite gx dx nx nloc nout
        have lm := PySem.W.exm_one (M := model X.prog X.w) Ig.kIn (fun A Q E t5 k q => wpAny_typeOf_ref (k _ _ gx) (by rw [zx.1]; exact q)) hb1
        refine wpAny_handleBy_cons (codeAny_handlers_test ?_) (fun z => by cases z)
        have ask : ∀ {Q E : Value → Shared → Prop}, Q c { t with heap := g } → wpAny (model X.prog X.w) (X.A.mark (some (.ref x))) (eval (.Name cn q1) X.env) Q E { t with heap := g } := fun {Q E} q => by
          obtain ⟨g1, g2, g3 | ⟨g3, g4, g5⟩⟩ := nc
          · exact ld_glob (X := X.suite x ((x, ox) :: (X.pn ++ pins))) S3 g1 g3 q g2
          · exact ld_blt (X := X.suite x ((x, ox) :: (X.pn ++ pins))) S3 g1 g3 g4 q g5 g2
        refine ask (lm.here ?_)
        cases b with
        | false => exact ih (no rfl)
        | true =>
          refine codeAny_handlers_suite_as (HandSPX.lands_againZ fly fun g4 fly4 up4 => ?_)
          have I4 : Inv X pins τ J { t with heap := g4 } := Iv.landed nb fly4.1 ((up.trans upg).trans up4) os ag
          obtain ⟨o4, u4, x4, z4, d4⟩ := fly4.there
          refine store_ok (X := X.suite x ((x, o4) :: (X.pn ++ pins))) (v := .ref x) (I4.suite x4 d4 nx nloc nout) nd ni lc rfl (fun t5 S5 => ?_) (.inr kn)
          refine wpAny_mono ((run x o4 cls dd (X.pn ++ pins) z4 ⟨_, d4⟩).run [] t5 _ J _ S5 (yes rfl x nx)) (fun f t6 r6 => ?_) (fun _ _ z => False.elim z)
          have fin : ∀ {τ6 : L2.St} {J6 : Hp} {Q : Shared → Prop}, Inv (X.suite x ((x, o4) :: (X.pn ++ pins))) [] τ6 J6 t6 → (∀ t7, Inv X pins (τ6.set i none) J6 t7 → Q t7) → wpAny (model X.prog X.w) X.A (do bindName X.env nm .none; unbindBehindTheSuite X.env nm q2) (fun _ t7 => Q t7) X.xe t6 :=
            fun {τ6 J6 Q} S6 k => gone_ok (S6.unsuite ik) nd ni kn k
          cases f with
          | next => obtain ⟨_, _, S6, k6⟩ := r6; exact fin S6 fun _ J7 => ⟨_, _, J7, k6⟩
          | brk => obtain ⟨_, _, S6, k6⟩ := r6; exact fin S6 fun _ J7 => ⟨_, _, J7, k6⟩
          | cont => obtain ⟨_, _, S6, k6⟩ := r6; exact fin S6 fun _ J7 => ⟨_, _, J7, k6⟩
          | ret v => obtain ⟨_, _, _, S6, v6, k6⟩ := r6; exact fin S6 fun _ J7 => ⟨_, _, _, J7, v6, k6⟩
    exact all cl wish
  · cases o with
    | next => obtain ⟨_, _, S, k⟩ := z; exact wpAny_execs_nil ⟨_, _, S.ofTry ik, k⟩
    | brk => obtain ⟨_, _, S, k⟩ := z; exact ⟨_, _, S.ofTry ik, k⟩
    | cont => obtain ⟨_, _, S, k⟩ := z; exact ⟨_, _, S.ofTry ik, k⟩
    | ret v => obtain ⟨_, _, _, S, r, k⟩ := z; exact ⟨_, _, _, S.ofTry ik, r, k⟩⟩
end
end Lm


/-! an exception class that keeps a column and words (TextError) -/
namespace Lm
open PySem PySem.Spec PyProof.Rows L2
/-- its fields, the newest first -/
def txF (col : Int) (wd : Str) : List (Str × V) := [("words", .str wd), ("column", .int col)]
/-- its __init__ -/
def spIniT (C : Addr) : Sp := fun vs H Q _ => ∃ (a : Addr) (col : Int) (wd : Str), vs = [.ref a, .int col, .str wd] ∧ 0 ≤ col ∧ col ≤ 100000 ∧ wd.length ≤ 1000 ∧ H a = some (exo a C none) ∧
  ∀ dx, H dx = none → dx ≠ a → Q .non (upd (upd (upd H dx (exd dx [("column", .int col)])) a (exo a C (some dx))) dx (exd dx (txF col wd)))
structure ExcT (P : Program) (w : World) (K : PySem.W.Frag) (mg : Str → Option Value) (base : Heap) (C : Addr) : Prop where
  O : OexC K C
  X : XfC K C
  hC : mg "TextError" = some (.ref C)
  n1 : PySem.W.findIn K (.ref C) "column" = some none
  n2 : PySem.W.findIn K (.ref C) "words" = some none
  exm : PySem.W.exmOne K (.ref C) (.ref C) = some true
  ini : ∃ fI fdI, PySem.W.findIn K (.ref C) "__init__" = some (some (.ref fI)) ∧ PySem.W.typeIn K (.ref fI) = some (.type "function") ∧ FnOk P w K mg base (L2.CX P w) 1 fI fdI ["self", "column", "words"] (spIniT C) ∧ Binds K fdI ["self", "column", "words"] []
theorem len_int {i : Int} (h0 : 0 ≤ i) (h1 : i ≤ 100000) : i.natAbs.log2 < 1920 := by
  have : i.natAbs < 2 ^ 17 := by omega
  by_cases z : i.natAbs = 0
  · rw [z]; decide
  · have := (Nat.log2_lt z).mpr this
    omega
/-- the readings of such an __init__ -/
theorem run_iniT {K : PySem.W.Frag} {C a : Addr} {col : Int} {p1 p2 wd : Str} {σ : L2.St} {H : Hp} {D : Ends} (l1 : p1.length ≤ 1000) (l2 : p2.length ≤ 1000) (h0 : 0 ≤ col) (h1 : col ≤ 100000) (hz : wd.length ≤ 1000) (O : OexC K C) (n1 : PySem.W.findIn K (.ref C) "column" = some none) (n2 : PySem.W.findIn K (.ref C) "words" = some none)
    (s0 : σ[0]? = some (some (.ref a))) (s1 : σ[1]? = some (some (.int col))) (s2 : σ[2]? = some (some (.str wd))) (ha : H a = some (exo a C none))
    (hq : ∀ dx, H dx = none → dx ≠ a → D.nx σ (upd (upd (upd H dx (exd dx [("column", .int col)])) a (exo a C (some dx))) dx (exd dx (txF col wd)))) :
    tJs [tC (.str p1), tFmt (tVar 1), tC (.str p2), tFmt (tVar 2)] Str.empty σ H fun out H1 => H1 a = some (exo a C none) ∧ (tSeq (tOst K "column" (tVar 0) (tVar 1)) (tOst K "words" (tVar 0) (tVar 2))) D σ H1 := by
  have e0 : Str.empty.length = 0 := by decide
  have ld := int_text_len_1921 (len_int h0 h1)
  refine ⟨p1, rfl, ?_, .int col, s1, .inr ⟨col, rfl, len_int h0 h1, _, rfl, ?_, p2, rfl, ?_, .str wd, s2, .inl ⟨wd, rfl, ?_, wd, rfl, ?_, ha, .int col, s1, .ref a, s0, a, C, rfl, O, n1, .inl ⟨ha, fun dx hdx hne => ?_⟩⟩⟩⟩
  · rw [PySem.Str.length_append, sizeLine_eq]; omega
  · rw [PySem.Str.length_append, PySem.Str.length_append, sizeLine_eq]; omega
  · rw [PySem.Str.length_append, PySem.Str.length_append, PySem.Str.length_append, sizeLine_eq]; omega
  · rw [sizeLine_eq]; omega
  · rw [PySem.Str.length_append, PySem.Str.length_append, PySem.Str.length_append, PySem.Str.length_append, sizeLine_eq]; omega
  · refine ⟨.str wd, s2, .ref a, s0, a, C, rfl, O, n2, .inr ⟨dx, [("column", .int col)], upd_same, ?_, by simp, hq dx hdx hne⟩⟩
    rw [upd_ne hne, upd_same]
/-- TextError(col, wd) -/
theorem mkO_T {C : Addr} {ta tb : TE} {σ : L2.St} {H : Hp} {Q : XK} {col : Int} {wd : Str} (h0 : 0 ≤ col) (h1 : col ≤ 100000) (hz : wd.length ≤ 1000) (h : ∀ Q' : List V → Hp → Prop, Q' [.int col, .str wd] H → tCons ta (tCons tb tNil) σ H Q') (q : ∀ dx, H dx = none → Q (.ref C) (some dx) (upd H dx (.xd (txF col wd)))) :
    tMkO C (spIniT C) [] (tCons ta (tCons tb tNil)) σ H Q := by
  refine h _ ⟨by simp, fun a ha => ⟨a, col, wd, rfl, h0, h1, hz, upd_same, fun dx hdx hne => ⟨rfl, dx, txF col wd, ?_, upd_same, ?_, ?_⟩⟩⟩
  · rw [upd_ne hne.symm, upd_same]
  · rw [upd_ne hne] at hdx; exact hdx
  · rw [upd_ne hne] at hdx
    have e : upd (del (upd (upd (upd (upd H a (exo a C none)) dx (exd dx [("column", .int col)])) a (exo a C (some dx))) dx (exd dx (txF col wd))) a) dx (.xd (txF col wd)) = upd H dx (.xd (txF col wd)) := by
      funext b
      by_cases k1 : b = dx
      · rw [k1, upd_same, upd_same]
      · rw [upd_ne k1, upd_ne k1]
        by_cases k2 : b = a
        · rw [k2, del_same, ha]
        · rw [del_ne k2, upd_ne k1, upd_ne k2, upd_ne k1, upd_ne k2]
    rw [e]
    exact q dx hdx
/-! defs that raise it -/
def spRefT (K : PySem.W.Frag) (C : Addr) (R : List PyData → Nat × String → Prop) : Sp := fun vs H Q E => ∃ ds cw, BoAll (pc K) H vs ds ∧ R ds cw ∧ ∀ dx H1, Same H H1 → H1 dx = some (.xd (txF (cw.1 : Int) (Str.ofString cw.2))) → E (.ref C) (some dx) H1
abbrev spDT (K : PySem.W.Frag) (C : Addr) (sp : Sp) (R : List PyData → Nat × String → Prop) : Sp := fun vs H Q E => sp vs H Q E ∨ spRefT K C R vs H Q E
section
variable {K : PySem.W.Frag} {C : Addr} {H0 : Hp} {Γ : List (Option Rs)} {σ : L2.St} {te tf : TE} {ta : TA} {tt : TT} {t u : TS} {k kb : Kd} {d x : PyData} {n : Nat} {cw : Nat × String} {ds : List PyData} {R : List PyData → Nat × String → Prop} {sp : Sp} {E : XK} {W : L2.St → XK} {a : Bool}
theorem x_refT (ha : EvA (pc K) ta Γ false ds) (hr : R ds cw) (hE : ∀ dx H1, Same H0 H1 → H1 dx = some (.xd (txF (cw.1 : Int) (Str.ofString cw.2))) → E (.ref C) (some dx) H1) : EvRz (pc K) H0 (tCall (spDT K C sp R) [] E ta) Γ := fun O H σ Q e =>
  ha H0 O H σ e _ fun vs H1 r s => .inr ⟨ds, cw, by rw [List.append_nil]; exact s, hr, fun dx H2 sm z => hE dx H2 (same_of e r sm) z⟩
/-- where it answers, whatever stands beside -/
theorem x_goodO {pre : Pre} {sp' : Sp} (h : EvA (pc K) ta Γ false ds) (hp : pre ds k d) : Ev (pc K) (tCall (fun vs H Q E => spD K pre vs H Q E ∨ sp' vs H Q E) [] E ta) Γ k d := fun H0 O H σ e Q q =>
  h H0 O H σ e _ fun vs H1 r s => by
    refine .inl ⟨ds, k, d, by rw [List.append_nil]; exact s.pure, hp, fun v H2 sm rt => q v H2 (r.tr (Rr.same sm)) ?_⟩
    have r2 : Rr (pc K) H H2 := r.tr (Rr.same sm)
    cases k with
    | v => exact (Bo.flat (c := pc K) (c' := pc K) rfl rt.1 rt.2).flatM e r2 rt.1
    | o => exact rt.elim fun fp z => ⟨fp, z.1, z.2.1, fun a ha => r.back e.jH (z.2.2 a ha)⟩
    | b => exact rt.1.elim fun _ e => nomatch e
theorem x_raiseT {col : Int} {wd : Str} {ta tb : TE} (h0 : 0 ≤ col) (h1 : col ≤ 100000) (hz : wd.length ≤ 1000) (ha : EvA (pc K) (tCons ta (tCons tb tNil)) Γ true [.int col, .str wd]) (hE : ∀ dx H1, Same H0 H1 → H1 dx = some (.xd (txF col wd)) → E (.ref C) (some dx) H1) :
    SdX (pc K) H0 (fun _ σ H => tMkO C (spIniT C) [] (tCons ta (tCons tb tNil)) σ H fun cls d H' => E cls d H') Γ := fun O H σ D e => by
  refine ha H0 O H σ e _ fun vs H2 r s => ?_
  have sb := BoAll.same mns_same s
  obtain ⟨v1, v2, rfl, b1, b2⟩ : ∃ v1 v2, vs = [v1, v2] ∧ v1 = .int col ∧ v2 = .str wd := by
    cases sb with
    | cons b1 r =>
      cases r with
      | cons b2 r => cases r; exact ⟨_, _, rfl, b1.int', b2.str'⟩
  subst b1 b2
  have m := mkO_T (C := C) (σ := σ) (H := H2) (ta := tC (.int col)) (tb := tC (.str wd)) (Q := fun cls d H' => E cls d H') h0 h1 hz (fun Q' q => q) fun dx hdx => hE dx _ (fun a o z => by
    have z1 : H2 a = some o := (e.rH.tr r).1 a o (fun _ _ w => nomatch w) z
    rw [upd_ne (ne_of_none z1 hdx)]
    exact z1) upd_same
  exact m
theorem run_refT {N : List Str} {t : TS} {vs : List V} {H : Hp} {Q : VK}
    (hs : ∀ ds cw, R ds cw → (∀ dx H1, Same H H1 → H1 dx = some (.xd (txF (cw.1 : Int) (Str.ofString cw.2))) → E (.ref C) (some dx) H1) → SdX (pc K) H t (argsG ds N.length)) (h : spRefT K C R vs H Q E) : t { nx := fun _ H' => Q .non H', rt := Q } (start N vs) H := by
  obtain ⟨ds, cw, hb, hd, hE⟩ := h
  exact hs ds cw hd hE [] H (start N vs) _ (env_args Ji.pc hb)
/-- a loop that something breaks off -/
theorem x_while {tc : TT} {tb : TS} (I : Nat → List (Option Rs) → Prop) {n0 : Nat} (h0 : I n0 Γ)
    (hs : ∀ n Γ1, I n Γ1 → EvT (pc K) tc Γ1 true ∧ (SdX (pc K) H0 tb Γ1 ∨ Sd (pc K) tb Γ1 (fun o => ∃ Γ3 m, (o = .nx Γ3 ∨ o = .ct Γ3) ∧ m < n ∧ I m Γ3))) : SdX (pc K) H0 (tWhile tc tb) Γ := fun O H σ D e => by
  refine ⟨fun n σ' H' => ∃ O' Γ', I n Γ' ∧ Env (pc K) H0 O' H' σ' Γ', ⟨n0, O, Γ, h0, e⟩, ?_⟩
  rintro n σ' H' ⟨O', Γ', hI, e'⟩
  obtain ⟨ht, hb⟩ := hs n Γ' hI
  refine ht _ _ _ _ e' _ fun H2 r2 => ?_
  rw [if_pos rfl]
  refine ⟨fun τ J => ∃ m, m < n ∧ ∃ O4 Γ4, I m Γ4 ∧ Env (pc K) H0 O4 J τ Γ4, fun τ J h => h, ?_⟩
  rcases hb with hb | hb
  · exact hb _ _ _ _ (e'.on r2)
  · refine hb _ _ _ _ _ (e'.on r2) fun o po => ?_
    obtain ⟨Γ3, m, ho, hm, h3⟩ := po
    rcases ho with rfl | rfl
    · exact fun O4 H4 σ4 e4 => ⟨m, hm, O4, Γ3, h3, e4⟩
    · exact fun O4 H4 σ4 e4 => ⟨m, hm, O4, Γ3, h3, e4⟩
end
end Lm


/-! what the scanner raises; what it leaves in a try (k91 to k95) -/
namespace Lm
open PySem PySem.Spec PyProof.Rows L2
def RcTx (ds : List PyData) (nm : Str) : Prop := ∃ x, ds = [x] ∧ (∀ z : Str, x = .str z → z.length ≤ 100000) ∧ txtB x = false ∧ nm = "text"
theorem RcTx_len {ds nm} (h : RcTx ds nm) : ds.length = 1 := by obtain ⟨x, rfl, _⟩ := h; rfl
def RtNm (ds : List PyData) (cw : Nat × String) : Prop := ∃ (z : Str) (a : Nat), ds = [.str z, .int (a : Int)] ∧ a ≤ z.length ∧ z.length ≤ 1000 ∧ 12 < (runS ((sgL z).drop a) (sgL sNAM)).length ∧ cw = (a + 1, "a name has at most 12 characters")
theorem RtNm_len {ds cw} (h : RtNm ds cw) : ds.length = 2 := by obtain ⟨z, a, rfl, _⟩ := h; rfl
def RtNu (ds : List PyData) (cw : Nat × String) : Prop := ∃ (z : Str) (a : Nat), ds = [.str z, .int (a : Int)] ∧ a ≤ z.length ∧ z.length ≤ 1000 ∧ 6 < (runS ((sgL z).drop a) (sgL sDIG)).length ∧ cw = (a + 1, "a number has at most 6 digits")
theorem RtNu_len {ds cw} (h : RtNu ds cw) : ds.length = 2 := by obtain ⟨z, a, rfl, _⟩ := h; rfl
def RtTk (ds : List PyData) (cw : Nat × String) : Prop := ∃ (z : Str) (a : Nat) (w : String), ds = [.str z, .int (a : Int)] ∧ a < z.length ∧ z.length ≤ 1000 ∧ tokA (sgL z) a = .error w ∧ cw = (a + 1, w)
theorem RtTk_len {ds cw} (h : RtTk ds cw) : ds.length = 2 := by obtain ⟨z, a, w, rfl, _⟩ := h; rfl
def RtSc (ds : List PyData) (cw : Nat × String) : Prop := ∃ z : Str, ds = [.str z] ∧ txtB (.str z) = true ∧ scn (sgL z) z.length 0 = .error cw
theorem RtSc_len {ds cw} (h : RtSc ds cw) : ds.length = 1 := by obtain ⟨z, rfl, _⟩ := h; rfl
theorem msg_len {L : List Nat} {a : Nat} {w : String} (h : tokA L a = .error w) : (Str.ofString w).length ≤ 1000 := by
  unfold tokA at h
  split at h
  · split at h
    · cases h; decide +kernel
    · cases h
  · split at h
    · split at h
      · cases h; decide +kernel
      · cases h
    · split at h
      · cases h
      · cases h; decide +kernel
end Lm


/-! what is told of a text: its tokens, a place and words, a name (k91) -/
namespace Lm
open PySem PySem.Spec PyProof.Rows L2
def sp__law_told91 (K : PySem.W.Frag) : Sp := spD K fun ds k d => ∃ x, ds = [x] ∧
  ((∃ (z : Str) (ts : List Tok9), x = .str z ∧ txtB (.str z) = true ∧ scn (sgL z) z.length 0 = .ok ts ∧ k = .o ∧ d = .list (ts.map tokD ++ [tokD ("end", [], z.length + 1)])) ∨
   (∃ (z : Str) (cw : Nat × String), x = .str z ∧ txtB (.str z) = true ∧ scn (sgL z) z.length 0 = .error cw ∧ k = .v ∧ d = .tuple [.int (cw.1 : Int), .str (Str.ofString cw.2)]) ∨
   ((∀ z : Str, x = .str z → z.length ≤ 100000) ∧ txtB x = false ∧ k = .v ∧ d = .str "text"))
theorem exm_no {K : PySem.W.Frag} {C D : Addr} {cd : ClassData} (xb : PySem.W.subIn K (.ref D) (.type "BaseException") = some true) (hc : PySem.W.clsIn K D = some cd) (xt : PySem.W.typeIn K (.ref D) = some (.type "type")) (hs : PySem.W.subIn K (.ref C) (.ref D) = some false) :
    PySem.W.exmOne K (.ref C) (.ref D) = some false := by
  unfold PySem.W.exmOne PySem.W.kitCls
  rw [if_pos (by rw [xb]; rfl)]
  show (if ((PySem.W.clsIn K D).isSome && PySem.W.typeIn K (.ref D) == some (.type "type")) = true then PySem.W.subIn K (.ref C) (.ref D) else none) = some false
  rw [hc, xt, hs]
  rfl
section
variable {P : Program} {w : World} {K : PySem.W.Frag} {mg : Str → Option Value} {base : Heap} {C CT L : Addr} {i : Nat} {Wo : WX} {D : Ends} {dx : Addr} {H1 : Hp} {σ : L2.St} {nm wd : Str} {col : Int} {r : List (Value × (Addr → Value → Option Addr → TS))}
/-- except TextError as e: return (e.column, e.words) if isinstance(e, LeastError) else None -/
theorem was_T (X : ExcT P w K mg base CT) (XH : ExcH K mg CT L) (kL : PySem.W.kitOne K (.ref CT) (.ref L) = some true) (hi : i < σ.length) (hdx : H1 dx = some (.xd (txF col wd)))
    (q : ∀ p H2, Same H1 H2 → TpN K H2 p [.int col, .str wd] → D.rt (.ref p) H2) :
    wAsM K i Wo D ((.ref CT, fun a cls d => tRet (tIf (tB (tCB (rIsX K CT a cls d) (tCons (tVar i) (tCons (tC (.ref L)) tNil)))) (tTupN (tCons (tXf a cls d CT "column" (tVar i)) (tCons (tXf a cls d CT "words" (tVar i)) tNil))) (tC .non))) :: r) (.ref CT) (some dx) σ H1 := by
  refine ⟨true, X.exm, fun _ a ha => ?_, fun w => nomatch w⟩
  have v0 : (σ.set i (some (.ref a)))[i]? = some (some (.ref a)) := List.getElem?_set_self hi
  refine ⟨.ref a, v0, .ref L, .ref L, true, dx, _, rfl, rfl, rfl, hdx, fun u h => h, kL, true, rfl, ?_⟩
  show if true = true then _ else _
  rw [if_pos rfl]
  exact ⟨.ref a, v0, rfl, rfl, dx, _, .int col, rfl, hdx, rfl, .ref a, v0, rfl, rfl, dx, _, .str wd, rfl, hdx, rfl, by show 2 ≤ sizeLine; decide, newTk (c := pc K) fun p H2 hp sm tp => q p H2 sm tp⟩
/-- a clause that does not catch, then except BadValue as e: return e.name -/
theorem was_B (X : Exc1 P w K mg base "BadValue" "name" C) {th : Addr → Value → Option Addr → TS} (no : PySem.W.exmOne K (.ref C) (.ref CT) = some false) (hi : i < σ.length) (hdx : H1 dx = some (.xd [("name", .str nm)])) (q : D.rt (.str nm) H1) :
    wAsM K i Wo D ((.ref CT, th) :: (.ref C, fun a cls d => tRet (tXf a cls d C "name" (tVar i))) :: r) (.ref C) (some dx) σ H1 :=
  ⟨false, no, (fun w => nomatch w), fun _ => ⟨true, X.exm, fun _ a ha => ⟨.ref a, by rw [List.getElem?_set_self hi], rfl, rfl, dx, _, .str nm, rfl, hdx, rfl, q⟩, fun w => nomatch w⟩⟩
end
end Lm


/-! texts that are laid of words with blanks between: how they are scanned (k91) -/
namespace Lm
open PySem PySem.Spec PyProof.Rows L2
/-- words with the numbers of blanks before them -/
def layL (G : List (Nat × List Nat)) : List Nat := G.flatMap fun p => List.replicate p.1 32 ++ p.2
def plc (o : Nat) : List (Nat × List Nat) → List Nat
  | [] => []
  | p :: r => (o + p.1 + 1) :: plc (o + p.1 + p.2.length) r
def fstW (w : List Nat) : Nat := w.getD 0 0
def kindW (w : List Nat) : String := if w = [] then "end" else if fstW w ∈ sgL sDIG then "number" else if fstW w ∈ sgL sLET then "name" else "sign"
inductive GoodW : List Nat → Prop
  | sign {c} : c ∈ sgL sSIG → GoodW [c]
  | num {w} : 0 < w.length → w.length ≤ 6 → (∀ c ∈ w, c ∈ sgL sDIG) → GoodW w
  | name {c r} : c ∈ sgL sLET → r.length ≤ 11 → (∀ x ∈ r, x ∈ sgL sNAM) → GoodW (c :: r)
inductive BadW : List Nat → String → Prop
  | none {c r} : c ∉ sgL sLET → c ∉ sgL sDIG → c ∉ sgL sSIG → c ≠ 32 → BadW (c :: r) "no token begins here"
  | num {w} : 6 < w.length → (∀ c ∈ w, c ∈ sgL sDIG) → BadW w "a number has at most 6 digits"
  | name {c r} : c ∈ sgL sLET → 11 < r.length → (∀ x ∈ r, x ∈ sgL sNAM) → BadW (c :: r) "a name has at most 12 characters"
/-- a word that could be read on -/
def anB (w : List Nat) : Bool := decide (fstW w ∈ sgL sLET) || decide (fstW w ∈ sgL sDIG)
/-- between two words that would run together there is a blank -/
def GapOk (w : List Nat) : List (Nat × List Nat) → Prop
  | [] => True
  | p :: r => (anB w = true → fstW p.2 ∈ sgL sNAM → 0 < p.1) ∧ GapOk p.2 r
theorem run_app {w r C : List Nat} (h : ∀ c ∈ w, c ∈ C) (hr : ∀ c, r.head? = some c → c ∉ C) : runS (w ++ r) C = w := by
  unfold runS
  induction w with
  | nil =>
    cases r with
    | nil => rfl
    | cons c r => exact List.takeWhile_cons_of_neg (by simpa using hr c rfl)
  | cons a w ih =>
    rw [List.cons_append, List.takeWhile_cons_of_pos (by simpa using h a (by simp)), ih fun c hc => h c (by simp [hc])]
theorem run_ge {w r C : List Nat} (h : ∀ c ∈ w, c ∈ C) : w.length ≤ (runS (w ++ r) C).length := by
  unfold runS
  induction w with
  | nil => simp
  | cons a w ih =>
    rw [List.cons_append, List.takeWhile_cons_of_pos (by simpa using h a (by simp))]
    have := ih fun c hc => h c (by simp [hc])
    simp only [List.length_cons]
    omega
theorem dig_nam {c : Nat} (h : c ∈ sgL sDIG) : c ∈ sgL sNAM := by
  have : ∀ c ∈ sgL sDIG, c ∈ sgL sNAM := by decide +kernel
  exact this c h
theorem dig_let {c : Nat} (h : c ∈ sgL sDIG) : c ∉ sgL sLET := by
  have : ∀ c ∈ sgL sDIG, c ∉ sgL sLET := by decide +kernel
  exact this c h
theorem sig_let {c : Nat} (h : c ∈ sgL sSIG) : c ∉ sgL sLET ∧ c ∉ sgL sDIG ∧ c ∉ sgL sNAM := by
  have : ∀ c ∈ sgL sSIG, c ∉ sgL sLET ∧ c ∉ sgL sDIG ∧ c ∉ sgL sNAM := by decide +kernel
  exact this c h
theorem blank_no : 32 ∉ sgL sNAM ∧ 32 ∉ sgL sLET ∧ 32 ∉ sgL sDIG ∧ 32 ∉ sgL sSIG := by decide +kernel
theorem getD_drop {L r : List Nat} {a c : Nat} (h : L.drop a = c :: r) : L.getD a 0 = c ∧ a < L.length := by
  have hl : a < L.length := by
    have := congrArg List.length h
    rw [List.length_drop, List.length_cons] at this
    omega
  rw [List.drop_eq_getElem_cons hl] at h
  rw [List.getD_eq_getElem?_getD, List.getElem?_eq_getElem hl]
  exact ⟨(List.cons.inj h).1, hl⟩
theorem good_first {w : List Nat} (h : GoodW w) : ∃ c r, w = c :: r ∧ c ≠ 32 := by
  cases h with
  | @sign c h => exact ⟨c, [], rfl, fun e => blank_no.2.2.2 (e ▸ h)⟩
  | num h1 h2 h3 =>
    cases w with
    | nil => simp at h1
    | cons c r => exact ⟨c, r, rfl, fun e => blank_no.2.2.1 (e ▸ h3 c (by simp))⟩
  | @name c r h1 h2 h3 => exact ⟨c, r, rfl, fun e => blank_no.2.1 (e ▸ h1)⟩
/-- a good word is a token, where what follows does not run on -/
theorem tok_good {L w r : List Nat} {a : Nat} (h : GoodW w) (hd : L.drop a = w ++ r) (hr : anB w = true → ∀ c, r.head? = some c → c ∉ sgL sNAM) : tokA L a = .ok (kindW w, w) := by
  cases h with
  | @sign c h =>
    obtain ⟨g, _⟩ := getD_drop hd
    obtain ⟨n1, n2, _⟩ := sig_let h
    unfold tokA kindW
    rw [g, if_neg n1, if_neg n2, if_pos h, if_neg (by simp), if_neg (by simpa [fstW] using n2), if_neg (by simpa [fstW] using n1)]
  | num h1 h2 h3 =>
    cases w with
    | nil => simp at h1
    | cons c t =>
      have m := h3 c (by simp)
      obtain ⟨g, _⟩ := getD_drop hd
      have an : anB (c :: t) = true := by simp [anB, fstW, m]
      have e : runS (L.drop a) (sgL sDIG) = c :: t := by
        rw [hd]
        exact run_app h3 fun x hx hm => hr an x hx (dig_nam hm)
      unfold tokA kindW
      rw [g, if_neg (dig_let m), if_pos m, e, if_neg (by omega), if_neg (by simp), if_pos (by simpa [fstW] using m)]
  | @name c t h1 h2 h3 =>
    obtain ⟨g, _⟩ := getD_drop hd
    have an : anB (c :: t) = true := by simp [anB, fstW, h1]
    have e : runS (L.drop a) (sgL sNAM) = c :: t := by
      rw [hd]
      exact run_app (fun x hx => by
        rcases List.mem_cons.mp hx with q | q
        · rw [q]; exact let_nam h1
        · exact h3 x q) (hr an)
    unfold tokA kindW
    rw [g, if_pos h1, e, if_neg (by simp; omega), if_neg (by simp), if_neg (fun z => dig_let (by simpa [fstW] using z) h1), if_pos (by simpa [fstW] using h1)]
theorem tok_bad {L w r : List Nat} {a : Nat} {m : String} (h : BadW w m) (hd : L.drop a = w ++ r) : tokA L a = .error m := by
  cases h with
  | @none c t h1 h2 h3 h4 =>
    obtain ⟨g, _⟩ := getD_drop hd
    unfold tokA
    rw [g, if_neg h1, if_neg h2, if_neg h3]
  | num h1 h3 =>
    cases w with
    | nil => simp at h1
    | cons c t =>
      have m := h3 c (by simp)
      obtain ⟨g, _⟩ := getD_drop hd
      have e : (c :: t).length ≤ (runS (L.drop a) (sgL sDIG)).length := by rw [hd]; exact run_ge h3
      unfold tokA
      rw [g, if_neg (dig_let m), if_pos m, if_pos (by omega)]
  | @name c t h1 h2 h3 =>
    obtain ⟨g, _⟩ := getD_drop hd
    have e : (c :: t).length ≤ (runS (L.drop a) (sgL sNAM)).length := by
      rw [hd]
      exact run_ge fun x hx => by
        rcases List.mem_cons.mp hx with q | q
        · rw [q]; exact let_nam h1
        · exact h3 x q
    simp only [List.length_cons] at e
    unfold tokA
    rw [g, if_pos h1, if_pos (by omega)]
/-- blanks are passed -/
theorem scn_blanks {L r : List Nat} : ∀ (g N a : Nat), L.drop a = List.replicate g 32 ++ r → scn L (g + N) a = scn L N (a + g)
  | 0, N, a, _ => by rw [Nat.zero_add, Nat.add_zero]
  | g + 1, N, a, h => by
    rw [List.replicate_succ, List.cons_append] at h
    obtain ⟨e, l⟩ := getD_drop h
    have h2 : L.drop (a + 1) = List.replicate g 32 ++ r := by
      rw [List.drop_eq_getElem_cons l] at h
      exact (List.cons.inj h).2
    rw [show g + 1 + N = (g + N) + 1 by omega]
    show (if a < L.length then (if L.getD a 0 = 32 then scn L (g + N) (a + 1) else _) else _) = _
    rw [if_pos l, if_pos e, scn_blanks g N (a + 1) h2, show a + 1 + g = a + (g + 1) by omega]
def toksL (a : Nat) : List (Nat × List Nat) → List Tok9
  | [] => []
  | p :: r => (kindW p.2, p.2, a + p.1 + 1) :: toksL (a + p.1 + p.2.length) r
theorem lay_cons (p : Nat × List Nat) (G : List (Nat × List Nat)) : layL (p :: G) = List.replicate p.1 32 ++ (p.2 ++ layL G) := by
  unfold layL; rw [List.flatMap_cons, List.append_assoc]
theorem lay_head {G : List (Nat × List Nat)} {w : List Nat} (hg : GapOk w G) (an : anB w = true) (ne : ∀ p ∈ G, p.2 ≠ []) (t : List Nat) (ht : ∀ c, t.head? = some c → c ∉ sgL sNAM) : ∀ c, (layL G ++ t).head? = some c → c ∉ sgL sNAM := by
  cases G with
  | nil => exact ht
  | cons p G =>
    intro c hc
    rw [lay_cons] at hc
    obtain ⟨g, v⟩ := p
    cases g with
    | zero =>
      cases v with
      | nil => exact absurd rfl (ne (0, []) (by simp))
      | cons x v =>
        simp only [List.replicate_zero, List.nil_append, List.cons_append, List.head?_cons] at hc
        cases hc
        intro m
        have := hg.1 an (by simpa [fstW] using m)
        simp at this
    | succ g =>
      rw [List.replicate_succ] at hc
      cases hc
      exact blank_no.1
def Gaps : List (Nat × List Nat) → Prop
  | [] => True
  | p :: r => GapOk p.2 r
theorem gaps_tl {p : Nat × List Nat} {G : List (Nat × List Nat)} (h : GapOk p.2 G) : Gaps G := by
  cases G with
  | nil => trivial
  | cons q G => exact h.2
theorem drop_on {L A B : List Nat} {a g : Nat} (h : L.drop a = A ++ B) (hg : A.length = g) : L.drop (a + g) = B := by
  rw [← List.drop_drop, h, ← hg, List.drop_left]
theorem blanks_no (e : Nat) : ∀ c, (List.replicate e 32).head? = some c → c ∉ sgL sNAM := by
  intro c h
  cases e with
  | zero => cases h
  | succ e => cases h; exact blank_no.1
theorem scn_ok {L : List Nat} {e : Nat} : ∀ (G : List (Nat × List Nat)) (a N : Nat), (∀ p ∈ G, GoodW p.2) → Gaps G → L.drop a = layL G ++ List.replicate e 32 → L.length ≤ a + N → a ≤ L.length → scn L N a = .ok (toksL a G)
  | [], a, N, _, _, h, hn, ha => by
    have hl := congrArg List.length h
    rw [List.length_drop] at hl
    have hl : L.length - a = e := by simpa [layL] using hl
    have h' : L.drop a = List.replicate e 32 ++ [] := by rw [h]; simp [layL]
    obtain ⟨M, rfl⟩ : ∃ M, N = e + M := ⟨N - e, by omega⟩
    rw [scn_blanks e M a h']
    cases M with
    | zero => rfl
    | succ M =>
      show (if a + e < L.length then _ else _) = _
      rw [if_neg (by omega)]
      rfl
  | p :: G, a, N, hg, hp, h, hn, ha => by
    obtain ⟨g, w⟩ := p
    have gw : GoodW w := hg (g, w) (by simp)
    have hp : GapOk w G := hp
    obtain ⟨c, t, ew, c32⟩ := good_first gw
    rw [lay_cons, List.append_assoc, List.append_assoc] at h
    have h : L.drop a = List.replicate g 32 ++ (w ++ (layL G ++ List.replicate e 32)) := h
    have hl := congrArg List.length h
    rw [List.length_drop, List.length_append, List.length_append, List.length_replicate] at hl
    have wl : 0 < w.length := by rw [ew]; simp
    obtain ⟨M, rfl⟩ : ∃ M, N = g + (M + 1) := ⟨N - g - 1, by omega⟩
    rw [scn_blanks g (M + 1) a h]
    have d1 : L.drop (a + g) = w ++ (layL G ++ List.replicate e 32) := drop_on h (by simp)
    have d1' : L.drop (a + g) = c :: (t ++ (layL G ++ List.replicate e 32)) := by rw [d1, ew]; rfl
    obtain ⟨e1, l1⟩ := getD_drop d1'
    have d2 : L.drop (a + g + w.length) = layL G ++ List.replicate e 32 := drop_on d1 rfl
    show (if a + g < L.length then (if L.getD (a + g) 0 = 32 then _ else _) else _) = _
    rw [if_pos l1, if_neg (by rw [e1]; exact c32), tok_good gw d1 fun an => lay_head hp an (fun q hq z => by
      obtain ⟨_, _, e2, _⟩ := good_first (hg q (by simp [hq]))
      rw [z] at e2; cases e2) _ (blanks_no e)]
    have l2 : a + g + w.length ≤ L.length := by omega
    show (match scn L M (a + g + w.length) with | .ok ts => _ | .error e => _) = _
    rw [scn_ok G (a + g + w.length) M (fun q hq => hg q (by simp [hq])) (gaps_tl (p := (g, w)) hp) d2 (by omega) l2]
    rfl
theorem bad_first {w : List Nat} {m : String} (h : BadW w m) : ∃ c r, w = c :: r ∧ c ≠ 32 := by
  cases h with
  | @none c r _ _ _ h4 => exact ⟨c, r, rfl, h4⟩
  | num h1 h3 =>
    cases w with
    | nil => simp at h1
    | cons c r => exact ⟨c, r, rfl, fun e => blank_no.2.2.1 (e ▸ h3 c (by simp))⟩
  | @name c r h1 _ _ => exact ⟨c, r, rfl, fun e => blank_no.2.1 (e ▸ h1)⟩
theorem scn_err {L t : List Nat} {g : Nat} {w : List Nat} {m : String} {G2 : List (Nat × List Nat)} (hb : BadW w m) (ht : ∀ c, t.head? = some c → c ∉ sgL sNAM) : ∀ (G : List (Nat × List Nat)) (a N : Nat), (∀ p ∈ G, GoodW p.2) → (∀ p ∈ G2, p.2 ≠ []) → Gaps (G ++ (g, w) :: G2) → L.drop a = layL (G ++ (g, w) :: G2) ++ t → L.length ≤ a + N →
    scn L N a = .error (a + (layL G).length + g + 1, m)
  | [], a, N, _, _, _, h, hn => by
    obtain ⟨c, r, ew, c32⟩ := bad_first hb
    rw [List.nil_append, lay_cons, List.append_assoc, List.append_assoc] at h
    have h : L.drop a = List.replicate g 32 ++ (w ++ (layL G2 ++ t)) := h
    have hl := congrArg List.length h
    rw [List.length_drop, List.length_append, List.length_append, List.length_replicate] at hl
    have wl : 0 < w.length := by rw [ew]; simp
    obtain ⟨M, rfl⟩ : ∃ M, N = g + (M + 1) := ⟨N - g - 1, by omega⟩
    rw [scn_blanks g (M + 1) a h]
    have d1 : L.drop (a + g) = w ++ (layL G2 ++ t) := drop_on h (by simp)
    have d1' : L.drop (a + g) = c :: (r ++ (layL G2 ++ t)) := by rw [d1, ew]; rfl
    obtain ⟨e1, l1⟩ := getD_drop d1'
    show (if a + g < L.length then (if L.getD (a + g) 0 = 32 then _ else _) else _) = _
    rw [if_pos l1, if_neg (by rw [e1]; exact c32), tok_bad hb d1]
    simp [layL]
  | p :: G, a, N, hg, h2, hp, h, hn => by
    obtain ⟨f, v⟩ := p
    have gw : GoodW v := hg (f, v) (by simp)
    have hp : GapOk v (G ++ (g, w) :: G2) := hp
    obtain ⟨c, r, ew, c32⟩ := good_first gw
    rw [List.cons_append, lay_cons, List.append_assoc, List.append_assoc] at h
    have h : L.drop a = List.replicate f 32 ++ (v ++ (layL (G ++ (g, w) :: G2) ++ t)) := h
    have hl := congrArg List.length h
    rw [List.length_drop, List.length_append, List.length_append, List.length_replicate] at hl
    have wl : 0 < v.length := by rw [ew]; simp
    obtain ⟨M, rfl⟩ : ∃ M, N = f + (M + 1) := ⟨N - f - 1, by omega⟩
    rw [scn_blanks f (M + 1) a h]
    have d1 : L.drop (a + f) = v ++ (layL (G ++ (g, w) :: G2) ++ t) := drop_on h (by simp)
    have d1' : L.drop (a + f) = c :: (r ++ (layL (G ++ (g, w) :: G2) ++ t)) := by rw [d1, ew]; rfl
    obtain ⟨e1, l1⟩ := getD_drop d1'
    have d2 : L.drop (a + f + v.length) = layL (G ++ (g, w) :: G2) ++ t := drop_on d1 rfl
    show (if a + f < L.length then (if L.getD (a + f) 0 = 32 then _ else _) else _) = _
    rw [if_pos l1, if_neg (by rw [e1]; exact c32), tok_good gw d1 fun an => lay_head hp an (fun q hq z => by
      rcases List.mem_append.mp hq with hq | hq
      · obtain ⟨_, _, e2, _⟩ := good_first (hg q (by simp [hq]))
        rw [z] at e2; cases e2
      · rcases List.mem_cons.mp hq with hq | hq
        · obtain ⟨_, _, e2, _⟩ := bad_first hb
          rw [hq] at z
          have z : w = [] := z
          rw [z] at e2; cases e2
        · exact h2 q hq z) _ ht]
    show (match scn L M (a + f + v.length) with | .ok ts => _ | .error e => _) = _
    rw [scn_err hb ht G (a + f + v.length) M (fun q hq => hg q (by simp [hq])) h2 (gaps_tl (p := (f, v)) hp) d2 (by omega)]
    simp only [lay_cons, List.length_append, List.length_replicate]
    congr 2
    omega
end Lm


/-! drawn texts; promises of k91's law -/
namespace Lm
open PySem PySem.Spec PyProof.Rows L2
section
variable {c : Ct} {Γ : List (Option Rs)} {ta tb : TE} {ka kb : Kd} {i : Int}
theorem n_max2 {Q : Int → Prop} (ha : Ev c ta Γ ka (.int i)) (hb : EvN c tb Γ kb (SomeI Q)) : EvN c (tCB (fun xs H Q => ∃ i j, xs = [V.int i, V.int j] ∧ Q (.int (if j > i then j else i)) H) (tCons ta (tCons tb tNil))) Γ .v (SomeI fun m => ∃ j, Q j ∧ m = if j > i then j else i) := fun H0 O H σ e K q =>
  ha H0 O H σ e _ fun v H1 r1 s1 => hb H0 O H1 σ (e.on r1) _ fun u y H2 ⟨j, hj, qj⟩ r2 s2 => by
    subst hj
    exact ⟨i, j, by rw [(Res.bo e s1).int', (Res.bo (e.on r1) s2).int'], q _ (.int (if j > i then j else i)) H2 ⟨_, rfl, j, qj, rfl⟩ (r1.tr r2) (.int _)⟩
/-- a text and a drawn one -/
theorem n_addS {Qa Qb Q : Str → Prop} (ha : EvN c ta Γ ka (fun d => ∃ s, d = .str s ∧ Qa s)) (hb : EvN c tb Γ kb (fun d => ∃ s, d = .str s ∧ Qb s)) (h : ∀ s t, Qa s → Qb t → s.length + t.length ≤ 100000 ∧ Q (s ++ t)) : EvN c (tOp (rAddU c.K) ta tb) Γ .v (fun d => ∃ s, d = .str s ∧ Q s) :=
  n_bin ha hb fun x y ⟨s, hs, qs⟩ ⟨t, ht, qt⟩ => ⟨.str (s ++ t), ⟨_, rfl, (h s t qs qt).2⟩, fun H O v u Q bv bu q => by
    subst hs; subst ht
    have := (h s t qs qt).1
    exact .inr ⟨s, t, bv.str', bu.str', by rw [sizeLine_eq]; omega, q _ H Rr.rf (.str _)⟩⟩
theorem n_mulS {s : Str} {Qb : Int → Prop} {Q : Str → Prop} (ha : Ev c ta Γ ka (.str s)) (hb : EvN c tb Γ kb (SomeI Qb)) (h : ∀ n, Qb n → -1000000 ≤ n ∧ n ≤ 1000 ∧ s.length ≤ 1000 ∧ Q (Txt.mul s n)) : EvN c (tOp rMulT ta tb) Γ .v (fun d => ∃ s, d = .str s ∧ Q s) :=
  n_bin ha.n hb fun x y hx ⟨n, hn, qn⟩ => ⟨.str (Txt.mul s n), ⟨_, rfl, (h n qn).2.2.2⟩, fun H O v u Q bv bu q => by
    subst hn
    have hx : x = .str s := hx
    subst hx
    obtain ⟨h1, h2, h3, _⟩ := h n qn
    exact .inr ⟨s, n, bv.str', bu.int', h1, h2, h3, q _ H Rr.rf (.str _)⟩⟩
end
def sp__law_kind (K : PySem.W.Frag) : Sp := spD K fun ds k d => ∃ w : List Nat, ds = [.str (strN w)] ∧ w.length ≤ 1000 ∧ k = .v ∧ d = .str (Str.ofString (kindW w))
abbrev wS (w : List Nat) : PyData := .str (strN w)
structure Laid (W : List (List Nat)) (G : List (Nat × List Nat)) : Prop where
  w : G.map (·.2) = W
  g : ∀ p ∈ G, p.1 ≤ 3
  gaps : Gaps G
def laidD (G : List (Nat × List Nat)) (e : Nat) : PyData := .tuple [.str (strN (layL G ++ List.replicate e 32)), .list ((plc 0 G ++ [(layL G).length + e + 1]).map fun (n : Nat) => .int (n : Int))]
def sp__law_laid (K : PySem.W.Frag) : Sp := spS K fun ds k P => ∃ W : List (List Nat), ds = [.list (W.map wS)] ∧ W.length ≤ 20 ∧ (∀ w ∈ W, w ≠ [] ∧ w.length ≤ 20) ∧ k = .b ∧ P = fun d => ∃ G e, Laid W G ∧ e ≤ 2 ∧ d = laidD G e
theorem lay_snoc (G : List (Nat × List Nat)) (p : Nat × List Nat) : layL (G ++ [p]) = layL G ++ (List.replicate p.1 32 ++ p.2) := by
  unfold layL; simp
theorem plc_snoc (p : Nat × List Nat) : ∀ (G : List (Nat × List Nat)) (o : Nat), plc o (G ++ [p]) = plc o G ++ [o + (layL G).length + p.1 + 1]
  | [], o => by simp [plc, layL]
  | q :: G, o => by
    rw [List.cons_append]
    show _ :: plc _ (G ++ [p]) = _ :: (plc _ G ++ _)
    rw [plc_snoc p G, lay_cons]
    simp only [List.length_append, List.length_replicate]
    congr 3
    omega
def lastW (w : List Nat) : List (Nat × List Nat) → List Nat
  | [] => w
  | q :: G => lastW q.2 G
theorem lastW_at : ∀ (G : List (Nat × List Nat)) (w : List Nat), (w :: G.map (·.2))[G.length]? = some (lastW w G)
  | [], _ => rfl
  | q :: G, w => by
    show (q.2 :: G.map (·.2))[G.length]? = _
    exact lastW_at G q.2
theorem gap_snoc {g : Nat} {v : List Nat} : ∀ (G : List (Nat × List Nat)) (w : List Nat), GapOk w G → (anB (lastW w G) = true → fstW v ∈ sgL sNAM → 0 < g) → GapOk w (G ++ [(g, v)])
  | [], w, _, h => ⟨h, trivial⟩
  | q :: G, w, hg, h => ⟨hg.1, gap_snoc G q.2 hg.2 h⟩
theorem gaps_snoc {g : Nat} {v : List Nat} {G : List (Nat × List Nat)} (hg : Gaps G) (h : ∀ u, (G.map (·.2))[G.length - 1]? = some u → anB u = true → fstW v ∈ sgL sNAM → 0 < g) : Gaps (G ++ [(g, v)]) := by
  cases G with
  | nil => trivial
  | cons q G => exact gap_snoc G q.2 hg (h _ (lastW_at G q.2))
abbrev sAN : Str := Str.ofString "abcdefghijklmnopqrstuvwxyz0123456789"
theorem an_mem (c : Nat) : decide (c ∈ sgL sAN) = (decide (c ∈ sgL sLET) || decide (c ∈ sgL sDIG)) := by
  have e : sgL sAN = sgL sLET ++ sgL sDIG := by decide +kernel
  rw [e, Bool.eq_iff_iff]
  simp
theorem cut1 {w : List Nat} (h : w ≠ []) : cutS (strN w) none (some 1) = ⟨#[fstW w]⟩ := by
  cases w with
  | nil => exact absurd rfl h
  | cons c r =>
    have e : (cutS (strN (c :: r)) none (some ((1 : Nat) : Int))).cps.toList = [c] := by
      unfold cutS
      rw [HT.sIx_nat, HT.sIx_none, strN_len]
      simp [strN]
    show cutS _ _ _ = ⟨[c].toArray⟩
    rw [← e]
    rfl
theorem strN_app (A B : List Nat) : strN A ++ strN B = strN (A ++ B) := by
  show (⟨_⟩ : Str) = ⟨_⟩
  simp [strN]
theorem lay_le {G : List (Nat × List Nat)} (h : ∀ p ∈ G, p.1 ≤ 3) (h2 : ∀ p ∈ G, p.2.length ≤ 20) : (layL G).length ≤ 23 * G.length := by
  induction G with
  | nil => simp [layL]
  | cons p G ih =>
    rw [lay_cons]
    have := ih (fun q hq => h q (by simp [hq])) fun q hq => h2 q (by simp [hq])
    have := h p (by simp)
    have := h2 p (by simp)
    simp only [List.length_append, List.length_replicate, List.length_cons]
    omega
theorem plc_len : ∀ (G : List (Nat × List Nat)) (o : Nat), (plc o G).length = G.length
  | [], o => rfl
  | p :: G, o => by show (plc _ G).length + 1 = G.length + 1; rw [plc_len G]
theorem gdw_mem {W : List (List Nat)} {n : Nat} (h : n < W.length) : W.getD n [] ∈ W := by
  rw [List.getD_eq_getElem?_getD, List.getElem?_eq_getElem h]
  exact List.getElem_mem h
end Lm


/-! any item of a drawn list; the words of k91's law -/
namespace Lm
open PySem PySem.Spec PyProof.Rows L2
section
variable {c : Ct} {Γ : List (Option Rs)} {te ta : TE} {ka : Kd}
theorem n_pickN {Pd : List PyData → Prop} {m : Nat} {st l : Addr} {E : XK} (hc : c.so = some (st, l)) (h0 : Γ[m]? = some (some (.r (.ref st)))) (h : EvN c te Γ .v (fun d => ∃ ds, d = .list ds ∧ Pd ds)) (hl : ∀ ds, Pd ds → 0 < ds.length ∧ ds.length ≤ 1000) : EvN c (tCall (sp__law_pick c.K) [] E (tCons (tVar m) (tCons te tNil))) Γ .v (fun d => ∃ ds, Pd ds ∧ d ∈ ds) := fun H0 O H σ e Q q => by
  have hcc : c = sc c.K st l := by cases c; cases hc; rfl
  refine ⟨_, e.slotR h0, ?_⟩
  refine h H0 O H σ e _ fun v d H1 ⟨ds, ed, pd⟩ r1 s1 => ?_
  subst ed
  have bv : Bo c (mns H1 O) v (.list ds) := s1
  obtain ⟨p, xs, rfl, ok, sl, al⟩ := bv.lst'
  obtain ⟨l1, l2⟩ := hl ds pd
  refine ⟨st, l, p, xs, rfl, (e.on r1).jH st l hc, mns_same.seq sl, fun w => ok st l hc w, by rw [al.len]; exact l1, by rw [al.len]; exact l2, fun i v H' hi r => ?_⟩
  rw [← hcc] at r
  obtain ⟨d, hd, bd⟩ := al.get hi
  exact q v d H' ⟨ds, pd, List.mem_of_getElem? hd⟩ (r1.tr r) (bd.mono (e.on r1).j (r.mns (e.on r1).j e.okO))
/-- the first of two texts -/
theorem n_fst {Q : Str → Prop} (ha : EvN c ta Γ ka (fun d => ∃ a b : Str, d = .tuple [.str a, .str b] ∧ Q a)) : EvN c (tOp (rIx c.K) ta (tC (.int 0))) Γ .v (fun d => ∃ a, d = .str a ∧ Q a) :=
  n_bin ha (d_int (i := 0)).n fun x y ⟨a, b, hx, qa⟩ hy => ⟨.str a, ⟨a, rfl, qa⟩, fun H O v u Q bv bu q => by
    have hy : y = .int 0 := hy
    subst hx; subst hy
    obtain ⟨p, xs, rfl, s, al⟩ := bv.tup'
    obtain ⟨x, hx, bx⟩ := atI_bo (i := 0) (d := .str a) al rfl
    exact .inr (.inl ⟨p, xs, 0, x, rfl, bu.int', s.sq, hx, q x H Rr.rf (by rw [bx.str']; exact .str _)⟩)⟩
end
/-- the words that are drawn -/
def word0 (j : Nat) : List (List Nat) := [[44], [46], [42], [47], [48], [55], [57, 57, 57, 57, 57, 57], [48, 48, 48, 48, 48, 49], [49, 50], [97], [120, 95, 49], [97, 98, 99, 100, 101, 102, 103, 104, 105, 106, 107, 108], [122, 57, 95], 98 :: List.replicate j 95]
def str91 : List (List Nat × String) := [([65], "no token begins here"), ([95], "no token begins here"), ([45], "no token begins here"), ([9], "no token begins here"), ([97, 98, 99, 100, 101, 102, 103, 104, 105, 106, 107, 108, 109], "a name has at most 12 characters"), ([97, 95, 95, 95, 95, 95, 95, 95, 95, 95, 95, 95, 49], "a name has at most 12 characters"), ([49, 48, 48, 48, 48, 48, 48], "a number has at most 6 digits"), ([48, 48, 48, 48, 48, 48, 49], "a number has at most 6 digits")]
def strD (p : List Nat × String) : PyData := .tuple [wS p.1, .str (Str.ofString p.2)]
theorem word_good {j : Nat} (hj : j ≤ 11) : ∀ w ∈ word0 j, GoodW w := by
  intro w h
  simp only [word0, List.mem_cons, List.not_mem_nil, or_false] at h
  rcases h with rfl | rfl | rfl | rfl | rfl | rfl | rfl | rfl | rfl | rfl | rfl | rfl | rfl | rfl
  · exact .sign (by decide +kernel)
  · exact .sign (by decide +kernel)
  · exact .sign (by decide +kernel)
  · exact .sign (by decide +kernel)
  · exact .num (by decide) (by decide) (by decide +kernel)
  · exact .num (by decide) (by decide) (by decide +kernel)
  · exact .num (by decide) (by decide) (by decide +kernel)
  · exact .num (by decide) (by decide) (by decide +kernel)
  · exact .num (by decide) (by decide) (by decide +kernel)
  · exact .name (by decide +kernel) (by decide) (by decide +kernel)
  · exact .name (by decide +kernel) (by decide) (by decide +kernel)
  · exact .name (by decide +kernel) (by decide) (by decide +kernel)
  · exact .name (by decide +kernel) (by decide) (by decide +kernel)
  · refine .name (by decide +kernel) (by rw [List.length_replicate]; exact hj) fun x hx => ?_
    rw [List.eq_of_mem_replicate hx]; decide +kernel
theorem str_bad : ∀ p ∈ str91, BadW p.1 p.2 := by
  intro p h
  simp only [str91, List.mem_cons, List.not_mem_nil, or_false] at h
  rcases h with rfl | rfl | rfl | rfl | rfl | rfl | rfl | rfl
  · exact .none (by decide +kernel) (by decide +kernel) (by decide +kernel) (by decide)
  · exact .none (by decide +kernel) (by decide +kernel) (by decide +kernel) (by decide)
  · exact .none (by decide +kernel) (by decide +kernel) (by decide +kernel) (by decide)
  · exact .none (by decide +kernel) (by decide +kernel) (by decide +kernel) (by decide)
  · exact .name (by decide +kernel) (by decide) (by decide +kernel)
  · exact .name (by decide +kernel) (by decide) (by decide +kernel)
  · exact .num (by decide) (by decide +kernel)
  · exact .num (by decide) (by decide +kernel)
theorem good_le {w : List Nat} (h : GoodW w) : w ≠ [] ∧ w.length ≤ 12 ∧ 10 ∉ w := by
  have n10 : 10 ∉ sgL sNAM ∧ 10 ∉ sgL sLET ∧ 10 ∉ sgL sDIG ∧ 10 ∉ sgL sSIG := by decide +kernel
  cases h with
  | @sign c h => exact ⟨by simp, by simp, fun m => n10.2.2.2 (by rw [List.mem_singleton.mp m]; exact h)⟩
  | num h1 h2 h3 => exact ⟨fun e => by rw [e] at h1; simp at h1, by omega, fun m => n10.2.2.1 (h3 _ m)⟩
  | @name c r h1 h2 h3 => exact ⟨by simp, by simp; omega, fun m => by
      rcases List.mem_cons.mp m with q | q
      · exact n10.2.1 (q ▸ h1)
      · exact n10.1 (h3 _ q)⟩
theorem str_le : ∀ p ∈ str91, p.1 ≠ [] ∧ p.1.length ≤ 20 ∧ 10 ∉ p.1 := by decide
theorem lay_leB {b : Nat} {G : List (Nat × List Nat)} (h : ∀ p ∈ G, p.1 ≤ 3) (h2 : ∀ p ∈ G, p.2.length ≤ b) : (layL G).length ≤ (3 + b) * G.length := by
  induction G with
  | nil => simp [layL]
  | cons p G ih =>
    rw [lay_cons]
    have := ih (fun q hq => h q (by simp [hq])) fun q hq => h2 q (by simp [hq])
    have := h p (by simp)
    have := h2 p (by simp)
    simp only [List.length_append, List.length_replicate, List.length_cons]
    rw [Nat.mul_add]
    omega
theorem lay_no {G : List (Nat × List Nat)} (h : ∀ p ∈ G, 10 ∉ p.2) : 10 ∉ layL G := by
  intro m
  unfold layL at m
  obtain ⟨p, hp, hm⟩ := List.mem_flatMap.mp m
  rcases List.mem_append.mp hm with q | q
  · have := List.eq_of_mem_replicate q; omega
  · exact h p hp q
theorem txt_ok {L : List Nat} (h : L.length ≤ 400) (h2 : 10 ∉ L) : txtB (.str (strN L)) = true := by
  show (decide ((strN L).length ≤ 400) && !decide (10 ∈ sgL (strN L))) = _
  rw [strN_len, decide_eq_true h, sg_strN, decide_eq_false h2]
  rfl
theorem txt_long {L : List Nat} (h : 400 < L.length) : txtB (.str (strN L)) = false := by
  show (decide ((strN L).length ≤ 400) && !decide (10 ∈ sgL (strN L))) = _
  rw [strN_len, decide_eq_false (by omega)]
  rfl
theorem txt_nl {L : List Nat} (h : 10 ∈ L) : txtB (.str (strN L)) = false := by
  show (decide ((strN L).length ≤ 400) && !decide (10 ∈ sgL (strN L))) = _
  rw [sg_strN, decide_eq_true h]
  simp
theorem fold_rep (c : Nat) : ∀ (n : Nat) (acc : Array Nat), ((List.replicate n #[c]).foldl (· ++ ·) acc).toList = acc.toList ++ List.replicate n c
  | 0, acc => by simp
  | n + 1, acc => by
    rw [List.replicate_succ, List.foldl_cons, fold_rep c n, List.replicate_succ]
    simp
theorem mul_one (c n : Nat) : Txt.mul ⟨#[c]⟩ (n : Int) = strN (List.replicate n c) := by
  unfold Txt.mul
  by_cases h : n < 1
  · rw [if_pos (by omega)]
    obtain rfl : n = 0 := by omega
    rfl
  · rw [if_neg (by omega)]
    by_cases h1 : n = 1
    · subst h1; rfl
    · have e : ((n : Int) == 1 || (⟨#[c]⟩ : Str).length == 0) = false := by
        rw [Bool.or_eq_false_iff]
        exact ⟨by simpa using fun z => h1 (by omega), rfl⟩
      rw [if_neg (by rw [e]; simp), Int.toNat_natCast]
      have := fold_rep c n #[]
      show (⟨_⟩ : Str) = ⟨_⟩
      congr 1
      apply Array.ext'
      rw [this]
      simp
theorem bare_cons {x : Option Rs} {Γ : List (Option Rs)} (h : bareB [x] = true) (h2 : bareB Γ = true) : bareB (x :: Γ) = true := by
  cases x with
  | none => exact h2
  | some r => cases r <;> first | exact h2 | cases h
theorem plc_at (q : Nat × List Nat) (G2 : List (Nat × List Nat)) (t : List Nat) : ∀ (G : List (Nat × List Nat)) (o : Nat), (plc o (G ++ q :: G2) ++ t)[G.length]? = some (o + (layL G).length + q.1 + 1)
  | [], o => by simp [plc, layL]
  | p :: G, o => by
    show (plc (o + p.1 + p.2.length) (G ++ q :: G2) ++ t)[G.length]? = _
    rw [plc_at q G2 t G, lay_cons]
    simp only [List.length_append, List.length_replicate]
    congr 1
    omega
theorem laid_split {W1 W2 : List (List Nat)} {w : List Nat} : ∀ {G : List (Nat × List Nat)}, G.map (·.2) = W1 ++ w :: W2 → ∃ G1 g G2, G = G1 ++ (g, w) :: G2 ∧ G1.map (·.2) = W1 ∧ G2.map (·.2) = W2 := by
  induction W1 with
  | nil =>
    intro G h
    cases G with
    | nil => cases h
    | cons p G =>
      obtain ⟨g, v⟩ := p
      have h1 := List.cons.inj h
      obtain rfl : v = w := h1.1
      exact ⟨[], g, G, rfl, rfl, h1.2⟩
  | cons a W1 ih =>
    intro G h
    cases G with
    | nil => cases h
    | cons p G =>
      have h1 := List.cons.inj h
      obtain ⟨G1, g, G2, e1, e2, e3⟩ := ih h1.2
      exact ⟨p :: G1, g, G2, by rw [e1]; rfl, by show p.2 :: G1.map _ = _; rw [e2]; exact congrArg (· :: W1) h1.1, e3⟩
theorem s_frz3 {c : Ct} {Γ : List (Option Rs)} {t : TS} {P : Out → Prop} {n : Nat} {t2 : Option Rs} {ds : List PyData} (hx : Γ[n]? = some t2) (h2 : t2 = some (.v (.list ds)) ∨ t2 = some (.w ds) ∨ t2 = some (.o (.list ds))) (key : Sd c t (Γ.set n (some (.v (.list ds)))) P) : Sd c t Γ P := by
  rcases h2 with rfl | rfl | rfl
  · have e : Γ.set n (some (.v (.list ds))) = Γ := by
      refine List.ext_getElem? fun i => ?_
      by_cases z : n = i
      · subst z
        rw [List.getElem?_set_self (List.getElem?_eq_some_iff.mp hx).1, hx]
      · rw [List.getElem?_set_ne z]
    rwa [e] at key
  · exact s_freezeW hx key
  · exact s_freeze hx key
theorem toks_at (t : List Nat) : ∀ (G : List (Nat × List Nat)) (o i : Nat), i < G.length → ∃ w n, (G.map (·.2))[i]? = some w ∧ (plc o G ++ t)[i]? = some n ∧ (toksL o G)[i]? = some (kindW w, w, n)
  | [], _, i, h => by simp at h
  | p :: G, o, 0, _ => ⟨p.2, o + p.1 + 1, rfl, rfl, rfl⟩
  | p :: G, o, i + 1, h => by
    obtain ⟨w, n, h1, h2, h3⟩ := toks_at t G (o + p.1 + p.2.length) i (by simpa using h)
    exact ⟨w, n, h1, h2, h3⟩
theorem toks_len : ∀ (G : List (Nat × List Nat)) (o : Nat), (toksL o G).length = G.length
  | [], o => rfl
  | p :: G, o => by show (toksL _ G).length + 1 = G.length + 1; rw [toks_len G]
theorem eq_tok (t : Tok9) : EqOk 5 (tokD t) := .tup (by simp) fun x hx => by
  simp only [List.mem_cons, List.not_mem_nil, or_false] at hx
  rcases hx with rfl | rfl | rfl
  · exact .str _
  · exact .str _
  · exact .int _
theorem eq_toks {ts : List Tok9} (h : ts.length ≤ 1000) : EqOk 7 (.list [.list (ts.map tokD), .list (ts.map tokD)]) := .lst (by simp) fun x hx => by
  have e : x = .list (ts.map tokD) := by
    simp only [List.mem_cons, List.not_mem_nil, or_false] at hx
    rcases hx with h | h <;> exact h
  subst e
  exact .lst (by rw [List.length_map]; omega) fun y hy => by
    obtain ⟨t, _, rfl⟩ := List.mem_map.mp hy
    exact eq_tok t
end Lm


/-! the program's own text, by places -/
namespace W
open PySem PySem.Spec PyProof.Rows L2 Lm
def topS (i : Nat) : Stmt := PySem.Challenge.pw_leastmoved_k91_tokens_of_texts.main.body.getD i (.Pass ⟨0, 0, 0, 0⟩)
abbrev s_require : Stmt := topS 5
abbrev n_require : List Str := ["holds", "name"]
abbrev p_require : List Str := ["holds", "name"]
theorem sc_require : FnScope n_require p_require (defScope s_require) := ⟨rfl, rfl, rfl, by decide +kernel, rfl, by decide +kernel, by decide +kernel⟩
abbrev s_check_text : Stmt := topS 14
abbrev n_check_text : List Str := ["text"]
abbrev p_check_text : List Str := ["text"]
theorem sc_check_text : FnScope n_check_text p_check_text (defScope s_check_text) := ⟨rfl, rfl, rfl, by decide +kernel, rfl, by decide +kernel, by decide +kernel⟩
abbrev s_run_at : Stmt := topS 15
abbrev n_run_at : List Str := ["text", "at", "characters", "end"]
abbrev p_run_at : List Str := ["text", "at", "characters"]
theorem sc_run_at : FnScope n_run_at p_run_at (defScope s_run_at) := ⟨rfl, rfl, rfl, by decide +kernel, rfl, by decide +kernel, by decide +kernel⟩
abbrev s_name_at : Stmt := topS 16
abbrev n_name_at : List Str := ["text", "at", "name"]
abbrev p_name_at : List Str := ["text", "at"]
theorem sc_name_at : FnScope n_name_at p_name_at (defScope s_name_at) := ⟨rfl, rfl, rfl, by decide +kernel, rfl, by decide +kernel, by decide +kernel⟩
abbrev s_number_at : Stmt := topS 17
abbrev n_number_at : List Str := ["text", "at", "number"]
abbrev p_number_at : List Str := ["text", "at"]
theorem sc_number_at : FnScope n_number_at p_number_at (defScope s_number_at) := ⟨rfl, rfl, rfl, by decide +kernel, rfl, by decide +kernel, by decide +kernel⟩
abbrev s_token_at : Stmt := topS 18
abbrev n_token_at : List Str := ["text", "at"]
abbrev p_token_at : List Str := ["text", "at"]
theorem sc_token_at : FnScope n_token_at p_token_at (defScope s_token_at) := ⟨rfl, rfl, rfl, by decide +kernel, rfl, by decide +kernel, by decide +kernel⟩
abbrev s_scan : Stmt := topS 19
abbrev n_scan : List Str := ["text", "tokens", "at", "token"]
abbrev p_scan : List Str := ["text"]
theorem sc_scan : FnScope n_scan p_scan (defScope s_scan) := ⟨rfl, rfl, rfl, by decide +kernel, rfl, by decide +kernel, by decide +kernel⟩
abbrev s__law_stream : Stmt := topS 21
abbrev n__law_stream : List Str := ["script"]
abbrev p__law_stream : List Str := ["script"]
theorem sc__law_stream : FnScope n__law_stream p__law_stream (defScope s__law_stream) := ⟨rfl, rfl, rfl, by decide +kernel, rfl, by decide +kernel, by decide +kernel⟩
abbrev s__law_next : Stmt := topS 22
abbrev n__law_next : List Str := ["stream", "many", "k", "cell", "digit"]
abbrev p__law_next : List Str := ["stream", "many"]
theorem sc__law_next : FnScope n__law_next p__law_next (defScope s__law_next) := ⟨rfl, rfl, rfl, by decide +kernel, rfl, by decide +kernel, by decide +kernel⟩
abbrev s__law_is_integer : Stmt := topS 23
abbrev n__law_is_integer : List Str := ["actual"]
abbrev p__law_is_integer : List Str := ["actual"]
theorem sc__law_is_integer : FnScope n__law_is_integer p__law_is_integer (defScope s__law_is_integer) := ⟨rfl, rfl, rfl, by decide +kernel, rfl, by decide +kernel, by decide +kernel⟩
abbrev s__law_equal : Stmt := topS 24
abbrev n__law_equal : List Str := ["actual", "due", "at"]
abbrev p__law_equal : List Str := ["actual", "due"]
theorem sc__law_equal : FnScope n__law_equal p__law_equal (defScope s__law_equal) := ⟨rfl, rfl, rfl, by decide +kernel, rfl, by decide +kernel, by decide +kernel⟩
abbrev s__law_pick : Stmt := topS 25
abbrev n__law_pick : List Str := ["stream", "rows"]
abbrev p__law_pick : List Str := ["stream", "rows"]
theorem sc__law_pick : FnScope n__law_pick p__law_pick (defScope s__law_pick) := ⟨rfl, rfl, rfl, by decide +kernel, rfl, by decide +kernel, by decide +kernel⟩
abbrev s__law_laid : Stmt := topS 26
abbrev n__law_laid : List Str := ["stream", "words", "text", "places", "k", "word", "near"]
abbrev p__law_laid : List Str := ["stream", "words"]
theorem sc__law_laid : FnScope n__law_laid p__law_laid (defScope s__law_laid) := ⟨rfl, rfl, rfl, by decide +kernel, rfl, by decide +kernel, by decide +kernel⟩
abbrev s__law_kind : Stmt := topS 27
abbrev n__law_kind : List Str := ["word"]
abbrev p__law_kind : List Str := ["word"]
theorem sc__law_kind : FnScope n__law_kind p__law_kind (defScope s__law_kind) := ⟨rfl, rfl, rfl, by decide +kernel, rfl, by decide +kernel, by decide +kernel⟩
abbrev s__law_told : Stmt := topS 28
abbrev n__law_told : List Str := ["text", "problem"]
abbrev p__law_told : List Str := ["text"]
theorem sc__law_told : FnScope n__law_told p__law_told (defScope s__law_told) := ⟨rfl, rfl, rfl, by decide +kernel, rfl, by decide +kernel, by decide +kernel⟩
abbrev s_law : Stmt := topS 29
abbrev n_law : List Str := ["script", "stream", "words", "turn", "problem", "strange", "at", "word", "text", "places", "due", "k", "blank", "bad"]
abbrev p_law : List Str := ["script"]
theorem sc_law : FnScope n_law p_law (defScope s_law) := ⟨rfl, rfl, rfl, by decide +kernel, rfl, by decide +kernel, by decide +kernel⟩
abbrev s_ini_BadValue : Stmt := inClass (topS 2) 0
abbrev s_ini_TextError : Stmt := inClass (topS 3) 0
-- _law_told: stmt Try
structure Txt (mg : Str → Option Value) : Prop where
  b_ValueError : mg "ValueError" = none
  b_abs : mg "abs" = none
  b_all : mg "all" = none
  b_bool : mg "bool" = none
  b_enumerate : mg "enumerate" = none
  b_int : mg "int" = none
  b_isinstance : mg "isinstance" = none
  b_len : mg "len" = none
  b_list : mg "list" = none
  b_max : mg "max" = none
  b_range : mg "range" = none
  b_str : mg "str" = none
  b_tuple : mg "tuple" = none
  k_MOST_CHARACTERS : ∃ t, mg "MOST_CHARACTERS" = some (.int 400 t)
  k_LONGEST_NAME : ∃ t, mg "LONGEST_NAME" = some (.int 12 t)
  k_LONGEST_NUMBER : ∃ t, mg "LONGEST_NUMBER" = some (.int 6 t)
  k_LETTERS : ∃ t, mg "LETTERS" = some (.str (Str.ofString "abcdefghijklmnopqrstuvwxyz") t)
  k_DIGITS : ∃ t, mg "DIGITS" = some (.str (Str.ofString "0123456789") t)
  k_IN_NAMES : ∃ t, mg "IN_NAMES" = some (.str (Str.ofString "abcdefghijklmnopqrstuvwxyz0123456789_") t)
  k_SIGNS : ∃ t, mg "SIGNS" = some (.str (Str.ofString ",.*/") t)
end W

namespace W
open PySem PySem.Spec PyProof.Rows L2 Lm
theorem ok_require {P : Program} {w : World} {K : PySem.W.Frag} {mg : Str → Option Value} {base : Heap} {f : Addr} {fd : FuncData} (F : Fun K "require" "require" s_require f fd) (T : Txt mg) :
    FnOk P w K mg base CX0 1 f fd p_require (sp_require K) := by
  refine F.ok sc_require (fun vs H Q E h => spD_len h (by rintro ds k d ⟨nm, rfl, _⟩; rfl)) (fun cdv A outer s H vs Q E hr h => ⟨_, (pss_one (ps_if (pt_not (pt_val (pv 0))) (pss_one ps_never) pss_nil)), run_pure (N := n_require) (fun ds k d hp => ?_) h⟩)
  obtain ⟨nm, rfl, rfl, rfl⟩ := hp
  exact s_no ((t_not (t_B (d_var (d := .bool true) rfl))).to rfl) (s_next (.inr ⟨rfl, rfl, _, rfl⟩))

theorem ok_check_text {P : Program} {w : World} {K : PySem.W.Frag} {mg : Str → Option Value} {base : Heap} {f : Addr} {fd : FuncData} (F : Fun K "check_text" "check_text" s_check_text f fd) (T : Txt mg) (c_require : Cal P w K mg base CX0 1 "require" p_require (sp_require K)) :
    FnOk P w K mg base CX0 2 f fd p_check_text (sp_check_text K) := by
  refine F.ok sc_check_text (fun vs H Q E h => spD_len h (by rintro ds k d ⟨z, rfl, _⟩; rfl)) (fun cdv A outer s H vs Q E hr h => ⟨_, (pss_one (ps_expr (pe_cal c_require (hr.mono (by decide)) rfl pass0 (pa_cons (pe_and (pe_callB (k_isi (K := K) rfl) rfl T.b_isinstance (by decide +kernel) (pa_cons (pv 0) (pa_cons (pe_ty (n := "str") rfl T.b_str (by decide +kernel)) pa_nil))) (pe_and (pe_cmpR op_le (pe_callB (k_lenU (K := K) rfl) rfl T.b_len (by decide +kernel) (pa_cons (pv 0) pa_nil)) (pe_const rfl T.k_MOST_CHARACTERS) (nomark _)) (pe_one (pe_cmpR op_notInS pe_str (pv 0) (by with_unfolding_all rfl))))) (pa_cons pe_str pa_nil))))), run_pure (N := n_check_text) (fun ds k d hp => ?_) h⟩)
  obtain ⟨z, rfl, h, rfl, rfl⟩ := hp
  unfold txtB at h
  rw [Bool.and_eq_true, decide_eq_true_eq, Bool.not_eq_true', decide_eq_false_iff_not] at h
  exact s_drop (d_call (k := .v) (d := .none) (a_cons (Ev.to (d_andV (a := true) (b := true) (e_isi (d_var rfl) (kit_str (.str z))) fun _ => Ev.to (d_andV (a := true) (b := true) (Ev.to (d_le (e_lenS (d_var rfl) (by omega)) d_int) (congrArg PyData.bool (decide_eq_true (by omega)))) fun _ => Ev.to (e_notInS (ch := 10) d_str (d_var rfl)) (by rw [decide_eq_false h.2]; rfl)) rfl) (y := .bool true) rfl) (a_cons d_str a_nil)) ⟨_, rfl, rfl, rfl⟩) (.inr ⟨rfl, rfl, _, rfl⟩)

theorem ok_run_at {P : Program} {w : World} {K : PySem.W.Frag} {mg : Str → Option Value} {base : Heap} {f : Addr} {fd : FuncData} (F : Fun K "run_at" "run_at" s_run_at f fd) (T : Txt mg) :
    FnOk P w K mg base CX0 1 f fd p_run_at (sp_run_at K) := by
  refine F.ok sc_run_at (fun vs H Q E h => spD_len h (by rintro ds k d ⟨z, C, a, rfl, _⟩; rfl)) (fun cdv A outer s H vs Q E hr h => ⟨_, (pss_cons (ps_set (i := 3) sc_run_at.nd rfl (Or.inl rfl) (pv 1))
      (pss_cons (ps_while PassesOwn.never (PW.pt (pw_and (pt_cmpR op_lt (pv 3) (pe_callB (k_lenU (K := K) rfl) rfl T.b_len (by decide +kernel) (pa_cons (pv 0) pa_nil)) (nomark _)) (pw_and1 (pt_cmpR op_inS (pe_ix (k_ix (K := K) rfl) (pv 0) (pv 3) (fun _ _ => rfl)) (pv 2) (by with_unfolding_all rfl))))) (pss_one (ps_aug (i := 3) sc_run_at.nd rfl (Or.inl rfl) pe_int ip_add)))
      (pss_one (ps_ret (pe_slice (k_slS (K := K) rfl) (pv 0) (po_some (pv 1)) (po_some (pv 3))))))), run_pure (N := n_run_at) (fun ds k d hp => ?_) h⟩)
  obtain ⟨z, C, a, rfl, ha, hz, rfl, rfl⟩ := hp
  have rl := run_len ((sgL z).drop a) (sgL C)
  rw [List.length_drop, sg_len] at rl
  refine q_asg (d := .int (a : Int)) (d_var rfl) ?_
  refine q_while (fun N Γ1 => ∃ j, j + N = (runS ((sgL z).drop a) (sgL C)).length ∧ Γ1 = [some (.v (.str z)), some (.v (.int (a : Int))), some (.v (.str C)), some (.v (.int ((a + j : Nat) : Int)))]) (n0 := (runS ((sgL z).drop a) (sgL C)).length) ⟨0, by omega, rfl⟩ fun N Γ1 hI => ?_
  obtain ⟨j, hj, rfl⟩ := hI
  cases N with
  | zero =>
    refine ⟨false, ?_, fun w => (nomatch w), fun _ => ?_⟩
    · by_cases q : a + j < z.length
      · obtain ⟨ch, hc⟩ : ∃ ch, (sgL z)[a + j]? = some ch := ⟨_, List.getElem?_eq_getElem (by rw [sg_len]; exact q)⟩
        have no : ch ∉ sgL C := run_at_out (L := (sgL z).drop a) ch (by rw [List.getElem?_drop, ← hj]; exact hc)
        exact EvT.to (t_and (a := true) (b := false) (EvT.to (t_test (d_lt (d_var rfl) (e_lenS (d_var rfl) (by omega)))) (decide_eq_true (by omega))) fun _ => EvT.to (t_test (e_inS (e_ixS (d_var rfl) (d_var rfl) (by omega) (atI_nat hc)) (d_var rfl))) (decide_eq_false no)) rfl
      · exact EvT.to (t_and (a := false) (b := false) (EvT.to (t_test (d_lt (d_var rfl) (e_lenS (d_var rfl) (by omega)))) (decide_eq_false (by omega))) fun w => nomatch w) rfl
    · refine s_ret (Ev.to (e_slS (d_var rfl) (o_some (d_var rfl)) (o_some (d_var rfl)) (by omega)) ?_) (.inr ⟨rfl, rfl⟩) (.inl rfl)
      congr 1
      have e : (cutS z (some (a : Int)) (some ((a + j : Nat) : Int))).cps.toList = runS ((sgL z).drop a) (sgL C) := by
        rw [cut_sign (by omega) (by omega), show a + j - a = j by omega, show j = (runS ((sgL z).drop a) (sgL C)).length by omega, run_take]
      show cutS z _ _ = strN _
      rw [← e]
      rfl
  | succ N =>
    have q : a + j < z.length := by omega
    obtain ⟨ch, hc, hin⟩ := run_at_in (L := (sgL z).drop a) (C := sgL C) (j := j) (by omega)
    rw [List.getElem?_drop] at hc
    refine ⟨true, EvT.to (t_and (a := true) (b := true) (EvT.to (t_test (d_lt (d_var rfl) (e_lenS (d_var rfl) (by omega)))) (decide_eq_true (by omega))) fun _ => EvT.to (t_test (e_inS (e_ixS (d_var rfl) (d_var rfl) (by omega) (atI_nat hc)) (d_var rfl))) (decide_eq_true hin)) rfl, fun _ => ?_, fun w => nomatch w⟩
    exact s_aug (f := fun a b => a + b) rfl d_int (.inl ⟨_, N, .inl rfl, by omega, j + 1, by omega, by simp; omega⟩)

theorem ok_name_at {P : Program} {w : World} {K : PySem.W.Frag} {mg : Str → Option Value} {base : Heap} {f : Addr} {fd : FuncData} (F : Fun K "name_at" "name_at" s_name_at f fd) (T : Txt mg) (c_run_at : Cal P w K mg base CX0 1 "run_at" p_run_at (sp_run_at K)) :
    FnOk P w K mg base CX0 2 f fd p_name_at (sp_name_at K) := by
  refine F.ok sc_name_at (fun vs H Q E h => spD_len h (by rintro ds k d ⟨z, a, rfl, _⟩; rfl)) (fun cdv A outer s H vs Q E hr h => ⟨_, (pss_cons (ps_set (i := 2) sc_name_at.nd rfl (Or.inl rfl) (pe_cal c_run_at (hr.mono (by decide)) rfl pass0 (pa_cons (pv 0) (pa_cons (pv 1) (pa_cons (pe_constS rfl T.k_IN_NAMES) pa_nil)))))
      (pss_cons (ps_if (pt_cmpR op_gt (pe_callB (k_lenU (K := K) rfl) rfl T.b_len (by decide +kernel) (pa_cons (pv 2) pa_nil)) (pe_const rfl T.k_LONGEST_NAME) (nomark _)) (pss_one ps_never) pss_nil)
      (pss_one (ps_ret (pe_tupN (pa_cons pe_str (pa_cons (pv 2) (pa_cons (pe_op (k_add (K := K) rfl) (pv 1) pe_int) pa_nil)))))))), run_pure (N := n_name_at) (fun ds k d hp => ?_) h⟩)
  obtain ⟨z, a, rfl, ha, hz, hr', rfl, rfl⟩ := hp
  refine q_asg (d := .str (strN (runS ((sgL z).drop a) (sgL sNAM)))) (d_call (k := .v) (a_cons (d_var rfl) (a_cons (d_var rfl) (a_cons d_str a_nil))) ⟨z, sNAM, a, rfl, ha, hz, rfl, rfl⟩) ?_
  refine q_no (EvT.to (t_test (d_gt (e_lenS (d_var rfl) (by rw [strN_len]; omega)) d_int)) (decide_eq_false (by rw [strN_len]; omega))) ?_
  exact s_ret (Ev.to (d_tup (a_consV d_str (a_consV (d_var rfl) (a_consV (e_add (d_var rfl) d_int) a_nil))) (by simp)) rfl) (.inr ⟨rfl, rfl⟩) (.inl rfl)

theorem ok_number_at {P : Program} {w : World} {K : PySem.W.Frag} {mg : Str → Option Value} {base : Heap} {f : Addr} {fd : FuncData} (F : Fun K "number_at" "number_at" s_number_at f fd) (T : Txt mg) (c_run_at : Cal P w K mg base CX0 1 "run_at" p_run_at (sp_run_at K)) :
    FnOk P w K mg base CX0 2 f fd p_number_at (sp_number_at K) := by
  refine F.ok sc_number_at (fun vs H Q E h => spD_len h (by rintro ds k d ⟨z, a, rfl, _⟩; rfl)) (fun cdv A outer s H vs Q E hr h => ⟨_, (pss_cons (ps_set (i := 2) sc_number_at.nd rfl (Or.inl rfl) (pe_cal c_run_at (hr.mono (by decide)) rfl pass0 (pa_cons (pv 0) (pa_cons (pv 1) (pa_cons (pe_constS rfl T.k_DIGITS) pa_nil)))))
      (pss_cons (ps_if (pt_cmpR op_gt (pe_callB (k_lenU (K := K) rfl) rfl T.b_len (by decide +kernel) (pa_cons (pv 2) pa_nil)) (pe_const rfl T.k_LONGEST_NUMBER) (nomark _)) (pss_one ps_never) pss_nil)
      (pss_one (ps_ret (pe_tupN (pa_cons pe_str (pa_cons (pv 2) (pa_cons (pe_op (k_add (K := K) rfl) (pv 1) pe_int) pa_nil)))))))), run_pure (N := n_number_at) (fun ds k d hp => ?_) h⟩)
  obtain ⟨z, a, rfl, ha, hz, hr', rfl, rfl⟩ := hp
  refine q_asg (d := .str (strN (runS ((sgL z).drop a) (sgL sDIG)))) (d_call (k := .v) (a_cons (d_var rfl) (a_cons (d_var rfl) (a_cons d_str a_nil))) ⟨z, sDIG, a, rfl, ha, hz, rfl, rfl⟩) ?_
  refine q_no (EvT.to (t_test (d_gt (e_lenS (d_var rfl) (by rw [strN_len]; omega)) d_int)) (decide_eq_false (by rw [strN_len]; omega))) ?_
  exact s_ret (Ev.to (d_tup (a_consV d_str (a_consV (d_var rfl) (a_consV (e_add (d_var rfl) d_int) a_nil))) (by simp)) rfl) (.inr ⟨rfl, rfl⟩) (.inl rfl)

theorem ok_token_at {P : Program} {w : World} {K : PySem.W.Frag} {mg : Str → Option Value} {base : Heap} {f : Addr} {fd : FuncData} (F : Fun K "token_at" "token_at" s_token_at f fd) (T : Txt mg) (c_name_at : Cal P w K mg base CX0 2 "name_at" p_name_at (sp_name_at K)) (c_number_at : Cal P w K mg base CX0 2 "number_at" p_number_at (sp_number_at K)) :
    FnOk P w K mg base CX0 3 f fd p_token_at (sp_token_at K) := by
  refine F.ok sc_token_at (fun vs H Q E h => spD_len h (by rintro ds k d ⟨z, a, kd, r, rfl, _⟩; rfl)) (fun cdv A outer s H vs Q E hr h => ⟨_, (pss_cons (ps_if (pt_cmpR op_inS (pe_ix (k_ix (K := K) rfl) (pv 0) (pv 1) (fun _ _ => rfl)) (pe_constS rfl T.k_LETTERS) (by with_unfolding_all rfl)) (pss_one (ps_ret (pe_cal c_name_at (hr.mono (by decide)) rfl pass0 (pa_cons (pv 0) (pa_cons (pv 1) pa_nil))))) pss_nil)
      (pss_cons (ps_if (pt_cmpR op_inS (pe_ix (k_ix (K := K) rfl) (pv 0) (pv 1) (fun _ _ => rfl)) (pe_constS rfl T.k_DIGITS) (by with_unfolding_all rfl)) (pss_one (ps_ret (pe_cal c_number_at (hr.mono (by decide)) rfl pass0 (pa_cons (pv 0) (pa_cons (pv 1) pa_nil))))) pss_nil)
      (pss_cons (ps_if (pt_cmpR op_inS (pe_ix (k_ix (K := K) rfl) (pv 0) (pv 1) (fun _ _ => rfl)) (pe_constS rfl T.k_SIGNS) (by with_unfolding_all rfl)) (pss_one (ps_ret (pe_tupN (pa_cons pe_str (pa_cons (pe_ix (k_ix (K := K) rfl) (pv 0) (pv 1) (fun _ _ => rfl)) (pa_cons (pe_op (k_add (K := K) rfl) (pv 1) pe_int) pa_nil)))))) pss_nil)
      (pss_one ps_never)))), run_pure (N := n_token_at) (fun ds k d hp => ?_) h⟩)
  obtain ⟨z, a, kd, r, rfl, ha, hz, ht, rfl, rfl⟩ := hp
  have g : (sgL z)[a]? = some ((sgL z).getD a 0) := by rw [List.getD_eq_getElem?_getD, List.getElem?_eq_getElem (by rw [sg_len]; exact ha)]; rfl
  have ix : ∀ {Γ : List (Option Rs)}, Γ[0]? = some (some (.v (.str z))) → Γ[1]? = some (some (.v (.int (a : Int)))) → Ev (pc K) (tOp (rIx K) (tVar 0) (tVar 1)) Γ .v (.str ⟨#[(sgL z).getD a 0]⟩) := fun h0 h1 => e_ixS (d_var h0) (d_var h1) (by omega) (atI_nat g)
  unfold tokA at ht
  by_cases m1 : (sgL z).getD a 0 ∈ sgL sLET
  · rw [if_pos m1] at ht
    split at ht
    · cases ht
    · next q =>
      cases ht
      exact q_if (a := true) (EvT.to (t_test (e_inS (ix rfl rfl) d_str)) (decide_eq_true m1)) (fun _ => q_ret (d_call (k := .v) (a_cons (d_var rfl) (a_cons (d_var rfl) a_nil)) ⟨z, a, rfl, by omega, hz, by omega, rfl, rfl⟩) (.inr ⟨rfl, rfl⟩) (.inl rfl)) fun e => nomatch e
  rw [if_neg m1] at ht
  refine q_no (EvT.to (t_test (e_inS (ix rfl rfl) d_str)) (decide_eq_false m1)) ?_
  by_cases m2 : (sgL z).getD a 0 ∈ sgL sDIG
  · rw [if_pos m2] at ht
    split at ht
    · cases ht
    · next q =>
      cases ht
      exact q_if (a := true) (EvT.to (t_test (e_inS (ix rfl rfl) d_str)) (decide_eq_true m2)) (fun _ => q_ret (d_call (k := .v) (a_cons (d_var rfl) (a_cons (d_var rfl) a_nil)) ⟨z, a, rfl, by omega, hz, by omega, rfl, rfl⟩) (.inr ⟨rfl, rfl⟩) (.inl rfl)) fun e => nomatch e
  rw [if_neg m2] at ht
  refine q_no (EvT.to (t_test (e_inS (ix rfl rfl) d_str)) (decide_eq_false m2)) ?_
  by_cases m3 : (sgL z).getD a 0 ∈ sgL sSIG
  · rw [if_pos m3] at ht
    cases ht
    exact q_if (a := true) (EvT.to (t_test (e_inS (ix rfl rfl) d_str)) (decide_eq_true m3)) (fun _ => q_ret (Ev.to (d_tup (a_consV d_str (a_consV (ix rfl rfl) (a_consV (e_add (d_var rfl) d_int) a_nil))) (by simp)) rfl) (.inr ⟨rfl, rfl⟩) (.inl rfl)) fun e => nomatch e
  · rw [if_neg m3] at ht
    cases ht

theorem ok_scan {P : Program} {w : World} {K : PySem.W.Frag} {mg : Str → Option Value} {base : Heap} {f : Addr} {fd : FuncData} (F : Fun K "scan" "scan" s_scan f fd) (T : Txt mg) (c_check_text : Cal P w K mg base CX0 2 "check_text" p_check_text (sp_check_text K)) (c_token_at : Cal P w K mg base CX0 3 "token_at" p_token_at (sp_token_at K)) :
    FnOk P w K mg base CX0 4 f fd p_scan (sp_scan K) := by
  refine F.ok sc_scan (fun vs H Q E h => spD_len h (by rintro ds k d ⟨z, ts, rfl, _⟩; rfl)) (fun cdv A outer s H vs Q E hr h => ⟨_, (pss_cons (ps_expr (pe_cal c_check_text (hr.mono (by decide)) rfl pass0 (pa_cons (pv 0) pa_nil)))
      (pss_cons (ps_set (i := 1) sc_scan.nd rfl (Or.inl rfl) (pe_lst pa_nil))
      (pss_cons (ps_set (i := 2) sc_scan.nd rfl (Or.inl rfl) pe_int)
      (pss_cons (ps_while PassesOwn.never (pt_cmpR op_lt (pv 2) (pe_callB (k_lenU (K := K) rfl) rfl T.b_len (by decide +kernel) (pa_cons (pv 0) pa_nil)) (nomark _)) (pss_one (ps_if (pt_cmpR (k_eq (K := K) rfl (rUnits hr)) (pe_ix (k_ix (K := K) rfl) (pv 0) (pv 2) (fun _ _ => rfl)) pe_str (nomark _)) (pss_one (ps_aug (i := 2) sc_scan.nd rfl (Or.inl rfl) pe_int ip_add)) (pss_cons (ps_set (i := 3) sc_scan.nd rfl (Or.inl rfl) (pe_cal c_token_at (hr.mono (by decide)) rfl pass0 (pa_cons (pv 0) (pa_cons (pv 2) pa_nil))))
      (pss_cons (ps_expr (k_bm (K := K) rfl PySem.F.plainAttrs_list PySem.F.slot_list_append PySem.F.type_list_append mt_append (pv 1) (pa_cons (pv 3) pa_nil)))
      (pss_one (ps_aug (i := 2) sc_scan.nd rfl (Or.inl rfl) (pe_callB (k_lenU (K := K) rfl) rfl T.b_len (by decide +kernel) (pa_cons (pe_ix (k_ix (K := K) rfl) (pv 3) pe_int (fun _ _ => rfl)) pa_nil)) ip_add)))))))
      (pss_cons (ps_expr (k_bm (K := K) rfl PySem.F.plainAttrs_list PySem.F.slot_list_append PySem.F.type_list_append mt_append (pv 1) (pa_cons (pe_tupN (pa_cons pe_str (pa_cons pe_str (pa_cons (pe_op (k_add (K := K) rfl) (pe_callB (k_lenU (K := K) rfl) rfl T.b_len (by decide +kernel) (pa_cons (pv 0) pa_nil)) pe_int) pa_nil)))) pa_nil)))
      (pss_one (ps_ret (pv 1)))))))), run_pure (N := n_scan) (fun ds k d hp => ?_) h⟩)
  obtain ⟨z, ts, rfl, hb, hs, rfl, rfl⟩ := hp
  have hz : z.length ≤ 400 := by
    unfold txtB at hb
    rw [Bool.and_eq_true, decide_eq_true_eq] at hb
    exact hb.1
  refine q_drop (d_call (k := .v) (d := .none) (a_cons (d_var rfl) a_nil) ⟨z, rfl, hb, rfl, rfl⟩) ?_
  refine q_asgO (d := .list (([] : List Tok9).map tokD)) (d_lst (kv := false) (ds := []) a_nil rfl (by decide)) ?_
  refine q_asg (d := .int ((0 : Nat) : Int)) d_int ?_
  refine q_while (fun N Γ1 => ∃ (a : Nat) (acc rest : List Tok9) (t3 : Option Rs), a ≤ z.length ∧ z.length ≤ a + N ∧ acc.length ≤ a ∧ acc ++ rest = ts ∧ scn (sgL z) N a = .ok rest ∧ Γ1 = [some (.v (.str z)), some (.o (.list (acc.map tokD))), some (.v (.int (a : Int))), t3]) (n0 := z.length) ⟨0, [], ts, _, by omega, by omega, by simp, rfl, hs, rfl⟩ fun N Γ1 hI => ?_
  obtain ⟨a, acc, rest, t3, ha, hn, hac, hts, hr', rfl⟩ := hI
  by_cases q : a < z.length
  · refine ⟨true, EvT.to (t_test (d_lt (d_var rfl) (e_lenS (d_var rfl) (by omega)))) (decide_eq_true (by omega)), fun _ => ?_, fun w => nomatch w⟩
    have g : (sgL z)[a]? = some ((sgL z).getD a 0) := by rw [List.getD_eq_getElem?_getD, List.getElem?_eq_getElem (by rw [sg_len]; exact q)]; rfl
    obtain ⟨M, rfl⟩ : ∃ M, N = M + 1 := ⟨N - 1, by omega⟩
    unfold scn at hr'
    rw [if_pos (by rw [sg_len]; exact q)] at hr'
    refine s_if (a := decide ((sgL z).getD a 0 = 32)) (EvT.to (t_test (e_eqS (v := .str ⟨#[(sgL z).getD a 0]⟩) (w := .str ⟨#[32]⟩) (e_ixS (d_var rfl) (d_var rfl) (by omega) (atI_nat g)) d_str rfl rfl rfl rfl)) ?_) (fun w => ?_) (fun w => ?_)
    · by_cases e : (sgL z).getD a 0 = 32
      · rw [e]; simp
      · rw [decide_eq_false e]
        exact decide_eq_false fun w => e (by simpa using w)
    · rw [if_pos (of_decide_eq_true w)] at hr'
      exact s_aug (f := fun a b => a + b) rfl d_int (.inl ⟨_, M, .inl rfl, by omega, a + 1, acc, rest, _, by omega, by omega, by omega, hts, hr', rfl⟩)
    · rw [if_neg (of_decide_eq_false w)] at hr'
      cases ht : tokA (sgL z) a with
      | error x => rw [ht] at hr'; cases hr'
      | ok p =>
        obtain ⟨kd, r⟩ := p
        rw [ht] at hr'
        obtain ⟨l1, l2⟩ := tok_len ht (by rw [sg_len]; exact q)
        rw [sg_len] at l2
        dsimp only at hr'
        cases hu : scn (sgL z) M (a + r.length) with
        | error x => rw [hu] at hr'; cases hr'
        | ok us =>
          rw [hu] at hr'
          cases hr'
          refine q_asg (d := tokD (kd, r, a + 1)) (d_call (k := .v) (a_cons (d_var rfl) (a_cons (d_var rfl) a_nil)) ⟨z, a, kd, r, rfl, q, by omega, ht, rfl, rfl⟩) ?_
          refine q_app rfl (d := tokD (kd, r, a + 1)) (d_var rfl) rfl (by simp; omega) ?_
          exact s_aug (f := fun a b => a + b) rfl (e_lenS (e_ixT (d := .str (strN r)) (d_var rfl) d_int rfl rfl) (by rw [strN_len]; omega)) (.inl ⟨_, M, .inl rfl, by omega, a + r.length, acc ++ [(kd, r, a + 1)], us, some (.v (tokD (kd, r, a + 1))), by omega, by omega, by simp; omega, by rw [← hts]; simp, hu, by rw [strN_len, List.map_append]; simp⟩)
  · refine ⟨false, EvT.to (t_test (d_lt (d_var rfl) (e_lenS (d_var rfl) (by omega)))) (decide_eq_false (by omega)), fun w => (nomatch w), fun _ => ?_⟩
    have er : rest = [] := by
      cases N with
      | zero => cases hr'; rfl
      | succ M => unfold scn at hr'; rw [if_neg (by rw [sg_len]; exact q)] at hr'; cases hr'; rfl
    subst er
    rw [List.append_nil] at hts
    subst hts
    refine q_app rfl (d := tokD ("end", [], z.length + 1)) (Ev.to (d_tup (a_consV d_str (a_consV d_str (a_consV (e_add (e_lenS (d_var rfl) (by omega)) d_int) a_nil))) (by simp)) rfl) rfl (by simp; omega) ?_
    exact s_retO rfl (.inl rfl)

theorem ok__law_stream {P : Program} {w : World} {K : PySem.W.Frag} {mg : Str → Option Value} {base : Heap} {f : Addr} {fd : FuncData} (F : Fun K "_law_stream" "_law_stream" s__law_stream f fd) (T : Txt mg) :
    FnOk P w K mg base CX0 1 f fd p__law_stream (sp__law_stream K) := by
  refine F.ok sc__law_stream (fun vs H Q E h => by obtain ⟨a, ns, rfl, _⟩ := h; rfl) (fun cdv A outer s H vs Q E hr h => ⟨_, (pss_one (ps_ret (pe_lst (pa_cons (pe_callTy (k_list (K := K) rfl) rfl T.b_list (by decide +kernel) (pa_cons (pv 0) pa_nil)) (pa_cons pe_int (pa_cons pe_int pa_nil)))))), ?_⟩)
  obtain ⟨a, ns, rfl, hS, hl, k⟩ := h
  refine ⟨_, rfl, a, _, rfl, .inl hS, fun l hl => ⟨(by show 3 ≤ sizeLine; decide), fun st hst => ?_⟩⟩
  have nls : l ≠ st := fun z => by rw [z, upd_same] at hst; cases hst
  have hs0 : H st = none := by rw [← upd_ne (H := H) (o := .lst (ns.map V.int)) nls.symm]; exact hst
  refine k st l _ (fun b o z => ?_) hs0 ⟨ns, 0, 0, upd_same, by rw [upd_ne nls, upd_same], nls, by decide⟩
  rw [upd_ne (ne_of_none z hs0), upd_ne (ne_of_none z hl)]
  exact z

theorem ok__law_next {P : Program} {w : World} {K : PySem.W.Frag} {mg : Str → Option Value} {base : Heap} {f : Addr} {fd : FuncData} (F : Fun K "_law_next" "_law_next" s__law_next f fd) (T : Txt mg) :
    FnOk P w K mg base CX0 1 f fd p__law_next (sp__law_next K) := by
  refine F.ok sc__law_next (fun vs H Q E h => spS_len h (by rintro ds k P ⟨m, rfl, _⟩; rfl)) (fun cdv A outer s H vs Q E hr h => ⟨_, (Evl.pss_cut (ps_if (pt_cmpR (k_eq (K := K) rfl (rUnits hr)) (pe_ix (k_ix (K := K) rfl) (pv 0) pe_int (fun _ _ => rfl)) pe_int (nomark _)) (pss_cons (ps_set (i := 2) sc__law_next.nd rfl (Or.inl rfl) (pe_ix (k_ix (K := K) rfl) (pv 0) pe_int (fun _ _ => rfl)))
      (pss_cons (ps_set (i := 3) sc__law_next.nd rfl (Or.inl rfl) (pe_op (k_add (K := K) rfl) pe_int (pv 2)))
      (Evl.pss_cut (ps_if (pt_cmpR op_lt (pv 2) (pe_callB (k_len (K := K) rfl) rfl T.b_len (by decide +kernel) (pa_cons (pe_ix (k_ix (K := K) rfl) (pv 0) pe_int (fun _ _ => rfl)) pa_nil)) (nomark _)) (pss_one (ps_set (i := 3) sc__law_next.nd rfl (Or.inl rfl) (pe_callB call_abs rfl T.b_abs (by decide +kernel) (pa_cons (pe_ix (k_ix (K := K) rfl) (pe_ix (k_ix (K := K) rfl) (pv 0) pe_int (fun _ _ => rfl)) (pv 2) (fun _ _ => rfl)) pa_nil)))) pss_nil)
      (Evl.pss_cut (ps_if (pt_cmpR op_lt (pv 3) (pe_op op_pow pe_int pe_int) (nomark _)) (pss_cons (ps_set (i := 3) sc__law_next.nd rfl (Or.inl rfl) (pe_op op_mod (pe_callTy call_int1 rfl T.b_int (by decide +kernel) (pa_cons (pe_op (k_add (K := K) rfl) (pe_op (k_add (K := K) rfl) (pe_op op_mulA (pv 3) pe_int) (pe_op op_mulA (pv 2) pe_int)) pe_int) pa_nil)) pe_int))
      (pss_one (ps_set (i := 3) sc__law_next.nd rfl (Or.inl rfl) (pe_op (k_add (K := K) rfl) (pe_op op_mulA (pe_op op_mod (pe_callTy call_int1 rfl T.b_int (by decide +kernel) (pa_cons (pe_op (k_add (K := K) rfl) (pe_op op_mulA (pv 3) pe_int) pe_int) pa_nil)) pe_int) pe_int) (pv 3))))) pss_nil)
      (pss_cons (ps_asg (pv 3) (pg_sub (pv 0) pe_int set_list))
      (pss_one (ps_asg (pe_op (k_add (K := K) rfl) (pv 2) pe_int) (pg_sub (pv 0) pe_int set_list)))))))) pss_nil)
      (pss_cons (ps_set (i := 4) sc__law_next.nd rfl (Or.inl rfl) (pe_op op_mod (pe_callTy call_int1 rfl T.b_int (by decide +kernel) (pa_cons (pe_ix (k_ix (K := K) rfl) (pv 0) pe_int (fun _ _ => rfl)) pa_nil)) (pv 1)))
      (pss_cons (ps_asg (pe_op op_fdiv (pe_ix (k_ix (K := K) rfl) (pv 0) pe_int (fun _ _ => rfl)) (pv 1)) (pg_sub (pv 0) pe_int set_list))
      (pss_one (ps_ret (pv 4)))))), ?_⟩)
  obtain ⟨st, l, vs', ds, kd, P', rfl, hst, hb, ⟨m, rfl, hm, hm2, rfl, rfl⟩, hq⟩ := h
  obtain ⟨mv, rfl, bm⟩ := hb.one
  have em := bm.int'
  subst em
  obtain ⟨ns, x, k, h1, h2, h3, h4⟩ := hst
  -- behind the first if the stream's cell is any int
  refine ⟨fun σ H1 => ∃ (a b c : Option V) (x k : Int), σ = [some (.ref st), some (.int m), a, b, c] ∧ H1 st = some (.lst [.ref l, .int x, .int k]) ∧ H1 l = some (.lst (ns.map V.int)) ∧ 0 ≤ k ∧ ∀ a o, a ≠ st → H a = some o → H1 a = some o, ?_, ?_⟩
  · refine ⟨_, rfl, .inl ⟨st, _, 1, .int x, rfl, rfl, .inl (.inl h1), rfl, .inl ⟨rfl, _, rfl, ?_⟩⟩⟩
    refine ite2 (fun _ => ?_) (fun _ => ⟨_, _, _, x, k, rfl, h1, h2, h4, fun _ _ _ z => z⟩)
    refine ⟨_, rfl, .inl ⟨st, _, 2, .int k, rfl, rfl, .inl (.inl h1), rfl, ?_⟩⟩
    refine ⟨_, rfl, .inl ⟨7, k, rfl, rfl, ?_⟩⟩
    refine ⟨fun σ H1 => H1 = H ∧ ∃ z : Int, σ = [some (.ref st), some (.int m), some (.int k), some (.int z), none], ?_, ?_⟩
    · refine ⟨_, rfl, _, rfl, .inl ⟨st, _, 0, .ref l, rfl, rfl, .inl (.inl h1), rfl, ⟨l, _, rfl, .inl (.inl (.inl h2)), k, _, rfl, rfl, _, rfl, ?_⟩⟩⟩
      refine ite2 (fun hk => ?_) (fun _ => ⟨rfl, _, rfl⟩)
      have hk' : k < (ns.length : Int) := by simpa using of_decide_eq_true hk
      obtain ⟨j, rfl⟩ := Int.eq_ofNat_of_zero_le h4
      have hj : j < ns.length := by omega
      have hat : atI (ns.map V.int) (j : Int) = some (.int ns[j]) := atI_nat (by simp [hj])
      exact ⟨_, rfl, .inl ⟨st, _, 0, .ref l, rfl, rfl, .inl (.inl h1), rfl, _, rfl, .inl ⟨l, _, (j : Int), _, rfl, rfl, .inl (.inl h2), hat, _, rfl, rfl, _, rfl⟩⟩⟩
    · rintro σ H1 ⟨rfl, z, rfl⟩
      refine ⟨fun σ H1' => H1' = H1 ∧ ∃ z : Int, σ = [some (.ref st), some (.int m), some (.int k), some (.int z), none], ?_, ?_⟩
      · refine ⟨_, rfl, 10, 18, rfl, rfl, ⟨by decide, by decide, by decide⟩, z, _, rfl, rfl, _, rfl, ?_⟩
        refine ite2 (fun _ => ?_) (fun _ => ⟨rfl, _, rfl⟩)
        refine ⟨_, rfl, .inl ⟨z, 48271, rfl, rfl, .inr ⟨by decide, by decide⟩, _, rfl, .inl ⟨k, 69621, rfl, rfl, .inr ⟨by decide, by decide⟩, .inl ⟨_, _, rfl, rfl, .inl ⟨_, _, rfl, rfl, .inl ⟨_, rfl, _, _, rfl, rfl, (by show (0 : Int) < 2147483647; decide), ?_⟩⟩⟩⟩⟩⟩
        refine ⟨_, rfl, .inl ⟨_, 16807, rfl, rfl, .inr ⟨by decide, by decide⟩, .inl ⟨_, _, rfl, rfl, .inl ⟨_, rfl, _, _, rfl, rfl, (by show (0 : Int) < 2147483647; decide), .inl ⟨_, 65537, rfl, rfl, .inr ⟨by decide, by decide⟩, _, rfl, .inl ⟨_, _, rfl, rfl, rfl, _, rfl⟩⟩⟩⟩⟩⟩
      · rintro σ H1' ⟨rfl, z, rfl⟩
        refine ⟨_, rfl, _, rfl, st, _, 1, 1, rfl, rfl, h1, rfl, ?_⟩
        refine ⟨_, rfl, .inl ⟨k, 1, rfl, rfl, _, rfl, st, _, 2, 2, rfl, rfl, upd_same, rfl, ?_⟩⟩
        refine ⟨_, _, _, z, k + 1, rfl, upd_same, by rw [upd_ne h3, upd_ne h3]; exact h2, by omega, fun a o na ha => by rw [upd_ne na, upd_ne na]; exact ha⟩
  · rintro σ H1 ⟨a, b, c, x, k, rfl, g1, g2, g4, g5⟩
    refine ⟨_, rfl, .inl ⟨st, _, 1, .int x, rfl, rfl, .inl (.inl g1), rfl, .inl ⟨x, rfl, _, rfl, x, m, rfl, rfl, hm, ?_⟩⟩⟩
    refine ⟨_, rfl, .inl ⟨st, _, 1, .int x, rfl, rfl, .inl (.inl g1), rfl, _, rfl, x, m, rfl, rfl, ⟨hm, hm2⟩, _, rfl, st, _, 1, 1, rfl, rfl, g1, rfl, ?_⟩⟩
    refine ⟨_, rfl, hq _ (.int (x % m)) _ ⟨x % m, rfl, Int.emod_nonneg _ (by omega), Int.emod_lt_of_pos _ hm⟩ ⟨fun a o na ha => ?_, fun _ st' l' e => ?_⟩ ⟨rfl, .int _⟩⟩
    · have : a ≠ st := na st l rfl
      rw [upd_ne this]
      exact g5 a o this ha
    · cases e
      exact Str1.put g2 h3 g4

theorem ok__law_is_integer {P : Program} {w : World} {K : PySem.W.Frag} {mg : Str → Option Value} {base : Heap} {f : Addr} {fd : FuncData} (F : Fun K "_law_is_integer" "_law_is_integer" s__law_is_integer f fd) (T : Txt mg) :
    FnOk P w K mg base CX0 1 f fd p__law_is_integer (sp__law_is_integer K) := by
  refine F.ok sc__law_is_integer (fun vs H Q E h => spD_len h (by rintro ds k d ⟨x, rfl, _⟩; rfl)) (fun cdv A outer s H vs Q E hr h => ⟨_, (pss_one (ps_ret (pe_and (pe_callB (k_isi (K := K) rfl) rfl T.b_isinstance (by decide +kernel) (pa_cons (pv 0) (pa_cons (pe_ty (n := "int") rfl T.b_int (by decide +kernel)) pa_nil))) (pe_one (pe_not (pe_callB (k_isi (K := K) rfl) rfl T.b_isinstance (by decide +kernel) (pa_cons (pv 0) (pa_cons (pe_ty (n := "bool") rfl T.b_bool (by decide +kernel)) pa_nil)))))))), run_pure (N := n__law_is_integer) (fun ds k d hp => ?_) h⟩)
  obtain ⟨x, rfl, rfl, rfl⟩ := hp
  refine s_ret ((d_andV (e_isi (d_var rfl) (kit_int x)) fun _ => d_notV (e_isi (d_var rfl) (kit_bool x))).to ?_) (.inr ⟨rfl, rfl⟩) (.inl rfl)
  cases x <;> rfl

theorem ok_eq {P : Program} {w : World} {K : PySem.W.Frag} {mg : Str → Option Value} {base : Heap} {f : Addr} {fd : FuncData} (F : Fun K "_law_equal" "_law_equal" s__law_equal f fd) (T : Txt mg) (c_int : Cal P w K mg base CX0 1 "_law_is_integer" p__law_is_integer (sp__law_is_integer K)) (n : Nat)
    (c_eq : Cal P w K mg base CX0 (n + 1) "_law_equal" p__law_equal (spEq K n)) : FnOk P w K mg base CX0 (n + 2) f fd p__law_equal (spEq K (n + 1)) := by
  refine F.ok sc__law_equal (fun vs H Q E h => spD_len (E := E) h (by rintro ds k d ⟨x, rfl, _⟩; rfl)) (fun cdv A outer s H vs Q E hr h => ⟨_, (pss_cons (ps_if (pt_cmpR op_isN (pv 1) pe_non (nomark _)) (pss_one (ps_ret (pe_cmpR op_isN (pv 0) pe_non (nomark _)))) pss_nil)
      (pss_cons (ps_if (pt_val (pe_callB (k_isi (K := K) rfl) rfl T.b_isinstance (by decide +kernel) (pa_cons (pv 1) (pa_cons (pe_ty (n := "bool") rfl T.b_bool (by decide +kernel)) pa_nil)))) (pss_one (ps_ret (pe_and (pe_callB (k_isi (K := K) rfl) rfl T.b_isinstance (by decide +kernel) (pa_cons (pv 0) (pa_cons (pe_ty (n := "bool") rfl T.b_bool (by decide +kernel)) pa_nil))) (pe_one (pe_cmpR (k_eq (K := K) rfl (rUnits hr)) (pv 0) (pv 1) (nomark _)))))) pss_nil)
      (pss_cons (ps_if (pt_val (pe_callB (k_isi (K := K) rfl) rfl T.b_isinstance (by decide +kernel) (pa_cons (pv 1) (pa_cons (pe_ty (n := "int") rfl T.b_int (by decide +kernel)) pa_nil)))) (pss_one (ps_ret (pe_and (pe_cal c_int (hr.mono (by omega)) rfl pass0 (pa_cons (pv 0) pa_nil)) (pe_one (pe_cmpR (k_eq (K := K) rfl (rUnits hr)) (pv 0) (pv 1) (nomark _)))))) pss_nil)
      (pss_cons (ps_if (pt_val (pe_callB (k_isi (K := K) rfl) rfl T.b_isinstance (by decide +kernel) (pa_cons (pv 1) (pa_cons (pe_ty (n := "str") rfl T.b_str (by decide +kernel)) pa_nil)))) (pss_one (ps_ret (pe_and (pe_callB (k_isi (K := K) rfl) rfl T.b_isinstance (by decide +kernel) (pa_cons (pv 0) (pa_cons (pe_ty (n := "str") rfl T.b_str (by decide +kernel)) pa_nil))) (pe_one (pe_cmpR (k_eq (K := K) rfl (rUnits hr)) (pv 0) (pv 1) (nomark _)))))) pss_nil)
      (pss_cons (ps_if (PW.pt (pw_and (pt_val (pe_callB (k_isi (K := K) rfl) rfl T.b_isinstance (by decide +kernel) (pa_cons (pv 1) (pa_cons (pe_ty (n := "tuple") rfl T.b_tuple (by decide +kernel)) pa_nil)))) (pw_and1 (pt_not (pt_val (pe_callB (k_isi (K := K) rfl) rfl T.b_isinstance (by decide +kernel) (pa_cons (pv 0) (pa_cons (pe_ty (n := "tuple") rfl T.b_tuple (by decide +kernel)) pa_nil)))))))) (pss_one (ps_ret pe_bl)) pss_nil)
      (pss_cons (ps_if (PW.pt (pw_and (pt_val (pe_callB (k_isi (K := K) rfl) rfl T.b_isinstance (by decide +kernel) (pa_cons (pv 1) (pa_cons (pe_ty (n := "list") rfl T.b_list (by decide +kernel)) pa_nil)))) (pw_and1 (pt_not (pt_val (pe_callB (k_isi (K := K) rfl) rfl T.b_isinstance (by decide +kernel) (pa_cons (pv 0) (pa_cons (pe_ty (n := "list") rfl T.b_list (by decide +kernel)) pa_nil)))))))) (pss_one (ps_ret pe_bl)) pss_nil)
      (pss_cons (ps_if (pt_cmpR (k_ne (K := K) rfl (rUnits hr)) (pe_callB (k_len (K := K) rfl) rfl T.b_len (by decide +kernel) (pa_cons (pv 0) pa_nil)) (pe_callB (k_len (K := K) rfl) rfl T.b_len (by decide +kernel) (pa_cons (pv 1) pa_nil)) (nomark _)) (pss_one (ps_ret pe_bl)) pss_nil)
      (pss_one (ps_ret (pe_callB (k_all (K := K) rfl rfl) rfl T.b_all (by decide +kernel) (pa_cons (pe_lc rfl sc__law_equal.nd (pi_range1 rfl T.b_range (pa_cons (pe_callB (k_len (K := K) rfl) rfl T.b_len (by decide +kernel) (pa_cons (pv 1) pa_nil)) pa_nil)) (blkOk_by (own := [("at", 2)]) (N := n__law_equal) (sc := defScope s__law_equal) (by decide +kernel)) (fun _ _ _ _ _ => by exact (pg_name (i := 2) sc__law_equal.nd rfl (Or.inl rfl))) (fun _ _ _ _ _ => by exact pts_nil) (fun _ _ _ _ _ => by exact (pe_cal c_eq hr rfl pass0 (pa_cons (pe_ix (k_ix (K := K) rfl) (pv 0) (pv 2) (fun _ _ => rfl)) (pa_cons (pe_ix (k_ix (K := K) rfl) (pv 1) (pv 2) (fun _ _ => rfl)) pa_nil))))) pa_nil))))))))))), run_pure (E := E) (N := n__law_equal) (fun ds k d hp => ?_) h⟩)
  obtain ⟨x, rfl, hx, rfl, rfl⟩ := hp
  have flatB : flatD (.bool true) = true := rfl
  have isN : ∀ (a : Bool), isNoneD x = a → EvT (pc K) (tTest (tOp (fun x y H Q => y = .non ∧ Q (.bl (decide (x = .non))) H) (tVar 1) (tC .non))) (argsG [x, x] n__law_equal.length) a := fun a h => (t_test (d_isN (d_var rfl))).to h
  cases hx with
  | non => exact q_if (isN true rfl) (fun _ => q_ret ((d_isN (d_var (d := .none) rfl)).to rfl) (.inr ⟨rfl, flatB⟩) (.inl rfl)) fun e => nomatch e
  | bl b =>
    refine q_no (isN false rfl) (q_if ((t_B (e_isi (d_var rfl) (kit_bool (.bool b)))).to (b := true) rfl) (fun _ => ?_) fun e => nomatch e)
    exact q_ret ((d_andV (b := true) (e_isi (d_var rfl) (kit_bool (.bool b))) fun _ => e_eqS (d_var rfl) (d_var rfl) rfl rfl rfl (decide_eq_true rfl)).to rfl) (.inr ⟨rfl, flatB⟩) (.inl rfl)
  | int i =>
    refine q_no (isN false rfl) (q_no ((t_B (e_isi (d_var rfl) (kit_bool (.int i)))).to rfl) (q_if ((t_B (e_isi (d_var rfl) (kit_int (.int i)))).to (b := true) rfl) (fun _ => ?_) fun e => nomatch e))
    exact q_ret ((d_andV (b := true) (d_call (a_cons (d_var rfl) a_nil) ⟨.int i, rfl, rfl, rfl⟩) fun _ => e_eqS (d_var rfl) (d_var rfl) rfl rfl rfl (decide_eq_true rfl)).to rfl) (.inr ⟨rfl, flatB⟩) (.inl rfl)
  | str z =>
    refine q_no (isN false rfl) (q_no ((t_B (e_isi (d_var rfl) (kit_bool (.str z)))).to rfl) (q_no ((t_B (e_isi (d_var rfl) (kit_int (.str z)))).to rfl) (q_if ((t_B (e_isi (d_var rfl) (kit_str (.str z)))).to (b := true) rfl) (fun _ => ?_) fun e => nomatch e)))
    exact q_ret ((d_andV (b := true) (e_isi (d_var rfl) (kit_str (.str z))) fun _ => e_eqS (d_var rfl) (d_var rfl) rfl rfl rfl (decide_eq_true rfl)).to rfl) (.inr ⟨rfl, flatB⟩) (.inl rfl)
  | @lst m xs hl hxs =>
    refine q_no (isN false rfl) (q_no ((t_B (e_isi (d_var rfl) (kit_bool (.list xs)))).to rfl) (q_no ((t_B (e_isi (d_var rfl) (kit_int (.list xs)))).to rfl) (q_no ((t_B (e_isi (d_var rfl) (kit_str (.list xs)))).to rfl) ?_)))
    refine q_no ((t_and (b := false) ((t_B (e_isi (d_var rfl) (kit_tuple (.list xs)))).to (b := false) rfl) fun e => nomatch e).to rfl) ?_
    refine q_no ((t_and (b := false) ((t_B (e_isi (d_var rfl) (kit_list (.list xs)))).to (b := true) rfl) fun _ => (t_not ((t_B (e_isi (d_var rfl) (kit_list (.list xs)))).to (b := true) rfl)).to rfl).to rfl) ?_
    refine q_no ((t_test (e_neI (d_lenL (d_var rfl)) (d_lenL (d_var rfl)))).to (by simp)) ?_
    refine s_ret ((d_all (d_lcB (fun _ => true) (i_rng1 (a_cons (d_lenL (d_var rfl)) a_nil) (by omega) (by omega)) (by simp [upI]; omega) fun i hi => ?_)).to (by simp)) (.inr ⟨rfl, flatB⟩) (.inl rfl)
    obtain ⟨j, hj, rfl⟩ := List.mem_map.mp hi
    have hj' : j < xs.length := by simpa using hj
    have hg : xs[j]? = some xs[j] := List.getElem?_eq_getElem hj'
    exact ⟨_, _, g_name, fun j hj => hj, _, d_call (a_cons (e_ixLv (d_var rfl) (d_var rfl) (atI_i hg)) (a_cons (e_ixLv (d_var rfl) (d_var rfl) (atI_i hg)) a_nil)) ⟨_, rfl, hxs _ (List.getElem_mem hj'), rfl, rfl⟩⟩
  | @tup m xs hl hxs =>
    refine q_no (isN false rfl) (q_no ((t_B (e_isi (d_var rfl) (kit_bool (.tuple xs)))).to rfl) (q_no ((t_B (e_isi (d_var rfl) (kit_int (.tuple xs)))).to rfl) (q_no ((t_B (e_isi (d_var rfl) (kit_str (.tuple xs)))).to rfl) ?_)))
    refine q_no ((t_and (b := false) ((t_B (e_isi (d_var rfl) (kit_tuple (.tuple xs)))).to (b := true) rfl) fun _ => (t_not ((t_B (e_isi (d_var rfl) (kit_tuple (.tuple xs)))).to (b := true) rfl)).to rfl).to rfl) ?_
    refine q_no ((t_and (b := false) ((t_B (e_isi (d_var rfl) (kit_list (.tuple xs)))).to (b := false) rfl) fun e => nomatch e).to rfl) ?_
    refine q_no ((t_test (e_neI (d_lenT (d_var rfl)) (d_lenT (d_var rfl)))).to (by simp)) ?_
    refine s_ret ((d_all (d_lcB (fun _ => true) (i_rng1 (a_cons (d_lenT (d_var rfl)) a_nil) (by omega) (by omega)) (by simp [upI]; omega) fun i hi => ?_)).to (by simp)) (.inr ⟨rfl, flatB⟩) (.inl rfl)
    obtain ⟨j, hj, rfl⟩ := List.mem_map.mp hi
    have hj' : j < xs.length := by simpa using hj
    have hg : xs[j]? = some xs[j] := List.getElem?_eq_getElem hj'
    exact ⟨_, _, g_name, fun j hj => hj, _, d_call (a_cons (e_ixTv (d_var rfl) (d_var rfl) (atI_i hg)) (a_cons (e_ixTv (d_var rfl) (d_var rfl) (atI_i hg)) a_nil)) ⟨_, rfl, hxs _ (List.getElem_mem hj'), rfl, rfl⟩⟩
theorem ok__law_equal {P : Program} {w : World} {K : PySem.W.Frag} {mg : Str → Option Value} {base : Heap} {f : Addr} {fd : FuncData} (F : Fun K "_law_equal" "_law_equal" s__law_equal f fd) (T : Txt mg) (c_int : Cal P w K mg base CX0 1 "_law_is_integer" p__law_is_integer (sp__law_is_integer K))
    (mgf : mg "_law_equal" = some (.ref f)) (bd : Binds K fd p__law_equal []) : FnOk P w K mg base CX0 10 f fd p__law_equal (sp__law_equal K) := by
  have all : ∀ n, FnOk P w K mg base CX0 (n + 1) f fd p__law_equal (spEq K n) := by
    intro n
    induction n with
    | zero => exact ⟨fun _ _ _ _ h => h.elim, fun _ _ _ _ _ _ _ _ _ _ _ _ _ h => h.elim⟩
    | succ n ih => exact ok_eq F T c_int n ⟨f, fd, ih, mgf, F.kp, bd⟩
  exact (all 8).mono (by decide)

theorem ok__law_pick {P : Program} {w : World} {K : PySem.W.Frag} {mg : Str → Option Value} {base : Heap} {f : Addr} {fd : FuncData} (F : Fun K "_law_pick" "_law_pick" s__law_pick f fd) (T : Txt mg) (c__law_next : Cal P w K mg base CX0 1 "_law_next" p__law_next (sp__law_next K)) :
    FnOk P w K mg base CX0 2 f fd p__law_pick (sp__law_pick K) := by
  refine F.ok sc__law_pick (fun vs H Q E h => by obtain ⟨st, l, p, xs, rfl, _⟩ := h; rfl) (fun cdv A outer s H vs Q E hr h => ⟨_, (pss_one (ps_ret (pe_ix (k_ix (K := K) rfl) (pv 1) (pe_cal c__law_next (hr.mono (by decide)) rfl pass0 (pa_cons (pv 0) (pa_cons (pe_callB (k_len (K := K) rfl) rfl T.b_len (by decide +kernel) (pa_cons (pv 1) pa_nil)) pa_nil))) (fun _ _ => rfl)))), ?_⟩)
  obtain ⟨st, l, p, xs, rfl, hst, sq, np, h1, h2, q⟩ := h
  refine ⟨.ref p, rfl, .ref st, rfl, .ref p, rfl, p, xs, rfl, .inl sq, ?_⟩
  refine ⟨st, l, [.int xs.length], [.int xs.length], .v, _, rfl, hst, .cons (.int _) .nil, ⟨_, rfl, by omega, by omega, rfl, rfl⟩, fun v d H' hd r rt => ?_⟩
  obtain ⟨n, rfl, n0, n1⟩ := hd
  obtain ⟨n, rfl⟩ := Int.eq_ofNat_of_zero_le n0
  have hv := rt.2.int'
  subst hv
  have hn : n < xs.length := by omega
  have hg : xs[n]? = some xs[n] := List.getElem?_eq_getElem hn
  exact .inl ⟨p, xs, n, xs[n], rfl, rfl, r.lst (fun st' l' e => by cases e; exact np) sq, atI_nat hg, q n xs[n] H' hg r⟩

theorem ok__law_laid {P : Program} {w : World} {K : PySem.W.Frag} {mg : Str → Option Value} {base : Heap} {f : Addr} {fd : FuncData} (F : Fun K "_law_laid" "_law_laid" s__law_laid f fd) (T : Txt mg) (c__law_next : Cal P w K mg base CX0 1 "_law_next" p__law_next (sp__law_next K)) :
    FnOk P w K mg base CX0 2 f fd p__law_laid (sp__law_laid K) := by
  refine F.ok sc__law_laid (fun vs H Q E h => spS_len h (by rintro ds k P ⟨W, rfl, _⟩; rfl)) (fun cdv A outer s H vs Q E hr h => ⟨_, (pss_cons (ps_set (i := 2) sc__law_laid.nd rfl (Or.inl rfl) pe_str)
      (pss_cons (ps_set (i := 3) sc__law_laid.nd rfl (Or.inl rfl) (pe_lst pa_nil))
      (pss_cons (ps_for PassesOwn.never rfl (k_enum (K := K) rfl rfl T.b_enumerate (pa_cons (pv 1) pa_nil)) (k_tup (K := K) (n := 2) rfl rfl (pgs_cons (pg_name (i := 4) sc__law_laid.nd rfl (Or.inl rfl)) (pgs_cons (pg_name (i := 5) sc__law_laid.nd rfl (Or.inl rfl)) pgs_nil))) (pss_cons (ps_set (i := 6) sc__law_laid.nd rfl (Or.inl rfl) (pe_and (pe_cmpR op_gt (pv 4) pe_int (nomark _)) (pe_and (pe_cmpR op_inS (pe_slice (k_slS (K := K) rfl) (pe_ix (k_ix (K := K) rfl) (pv 1) (pe_op op_sub (pv 4) pe_int) (fun _ _ => rfl)) po_none (po_some pe_int)) pe_str (by with_unfolding_all rfl)) (pe_one (pe_cmpR op_inS (pe_slice (k_slS (K := K) rfl) (pv 5) po_none (po_some pe_int)) pe_str (by with_unfolding_all rfl))))))
      (pss_cons (ps_set (i := 2) sc__law_laid.nd rfl (Or.inl rfl) (pe_op (k_addU (K := K) rfl) (pv 2) (pe_ix (k_ix (K := K) rfl) (pe_lst (pa_cons pe_str (pa_cons pe_str (pa_cons pe_str (pa_cons pe_str pa_nil))))) (pe_callB (call_max2 rfl) rfl T.b_max (by decide +kernel) (pa_cons (pe_callTy call_int1 rfl T.b_int (by decide +kernel) (pa_cons (pv 6) pa_nil)) (pa_cons (pe_cal c__law_next (hr.mono (by decide)) rfl pass0 (pa_cons (pv 0) (pa_cons pe_int pa_nil))) pa_nil))) (fun _ _ => rfl))))
      (pss_cons (ps_expr (k_bm (K := K) rfl PySem.F.plainAttrs_list PySem.F.slot_list_append PySem.F.type_list_append mt_append (pv 3) (pa_cons (pe_op (k_add (K := K) rfl) (pe_callB (k_lenU (K := K) rfl) rfl T.b_len (by decide +kernel) (pa_cons (pv 2) pa_nil)) pe_int) pa_nil)))
      (pss_one (ps_set (i := 2) sc__law_laid.nd rfl (Or.inl rfl) (pe_op (k_addU (K := K) rfl) (pv 2) (pv 5))))))))
      (pss_cons (ps_set (i := 2) sc__law_laid.nd rfl (Or.inl rfl) (pe_op (k_addU (K := K) rfl) (pv 2) (pe_ix (k_ix (K := K) rfl) (pe_lst (pa_cons pe_str (pa_cons pe_str (pa_cons pe_str pa_nil)))) (pe_cal c__law_next (hr.mono (by decide)) rfl pass0 (pa_cons (pv 0) (pa_cons pe_int pa_nil))) (fun _ _ => rfl))))
      (pss_one (ps_ret (pe_tupN (pa_cons (pv 2) (pa_cons (pe_op (k_catS (K := K) rfl) (pv 3) (pe_lst (pa_cons (pe_op (k_add (K := K) rfl) (pe_callB (k_lenU (K := K) rfl) rfl T.b_len (by decide +kernel) (pa_cons (pv 2) pa_nil)) pe_int) pa_nil))) pa_nil))))))))), run_str (N := n__law_laid) (fun st l ds k P' hp => ?_) h⟩)
  obtain ⟨W, rfl, hl, hw, rfl, rfl⟩ := hp
  refine q_asg (d := .str (strN [])) (Ev.to d_str rfl) ?_
  refine q_asgO (d := .list ((plc 0 []).map fun (n : Nat) => PyData.int (n : Int))) (d_lst (kv := false) (ds := []) a_nil rfl (by decide)) ?_
  have flP : ∀ l : List Nat, flatAll (l.map fun (n : Nat) => PyData.int (n : Int)) = true := fun l => by
    have : l.map (fun (n : Nat) => PyData.int (n : Int)) = (l.map fun (n : Nat) => (n : Int)).map .int := by rw [List.map_map]; rfl
    rw [this]; exact flatAll_ints _
  refine q_for (items := (List.range W.length).map fun i => Im.t [.d (.int (i : Nat)), .d (wS (W.getD i []))]) (i_enumL' (ds := W.map wS) (d_var rfl) kv_ne (by
    unfold enumI
    refine List.ext_getElem (by simp) fun i h1 h2 => ?_
    have : i < W.length := by simpa using h2
    simp [List.getD_eq_getElem?_getD, this])) (fun n Γ1 => ∃ G t4 t5 t6, Laid (W.take n) G ∧ Γ1 = [some (.r (.ref st)), some (.v (.list (W.map wS))), some (.v (.str (strN (layL G)))), some (.o (.list ((plc 0 G).map fun (n : Nat) => .int (n : Int)))), t4, t5, t6]) ⟨[], _, _, _, ⟨rfl, by simp, trivial⟩, rfl⟩ (fun n a Γ1 hn' hI => ?_) (fun Γ1 hI => ?_)
  · obtain ⟨G, t4, t5, t6, hG, rfl⟩ := hI
    have hn : n < W.length := by have := (List.getElem?_eq_some_iff.mp hn').1; simpa using this
    obtain rfl : a = Im.t [.d (.int (n : Nat)), .d (wS (W.getD n []))] := by
      rw [List.getElem?_map, List.getElem?_range hn] at hn'
      exact (Option.some.inj hn').symm
    have gl : G.length = n := by have := congrArg List.length hG.w; rw [List.length_map, List.length_take] at this; omega
    obtain ⟨v, ev⟩ : ∃ v, v = W.getD n [] := ⟨_, rfl⟩
    have vm : v ∈ W := by rw [ev]; exact gdw_mem hn
    have hv := hw v vm
    have tk : W.take (n + 1) = W.take n ++ [v] := by rw [List.take_add_one, List.getElem?_eq_getElem hn, ev, List.getD_eq_getElem?_getD, List.getElem?_eq_getElem hn]; rfl
    have gw : ∀ p ∈ G, p.2.length ≤ 20 := fun p hp => (hw p.2 (List.mem_of_mem_take (by rw [← hG.w]; exact List.mem_map_of_mem hp))).2
    have ll := lay_le hG.g gw
    rw [← ev]
    refine ⟨_, _, g_tup rfl (g_cons g_name (g_cons g_name g_nil)), ?_⟩
    obtain ⟨u, eu⟩ : ∃ u, u = W.getD (n - 1) [] := ⟨_, rfl⟩
    refine q_asg (d := .bool (decide (0 < n) && (anB u && decide (fstW v ∈ sgL sNAM)))) (Ev.to (d_andV (a := decide (0 < (n : Int))) (b := anB u && decide (fstW v ∈ sgL sNAM)) (d_gt (d_var rfl) d_int) fun w => ?_) (by simp)) ?_
    · have n0 := of_decide_eq_true w
      have hu := hw u (by rw [eu]; exact gdw_mem (by omega))
      exact d_andV (Ev.to (e_inS (Ev.to (e_slS (z := strN u) (e_ixLv (d_var rfl) (d_sub (d_var rfl) d_int) (by
        rw [show (n : Int) - 1 = ((n - 1 : Nat) : Int) by omega]
        exact atI_nat (by rw [eu]; simp [List.getD_eq_getElem?_getD, show n - 1 < W.length by omega]))) o_none (o_some d_int) (by rw [strN_len]; omega)) (by rw [cut1 hu.1])) d_str) (by rw [an_mem]; rfl)) fun _ => Ev.to (e_inS (Ev.to (e_slS (z := strN v) (d_var rfl) o_none (o_some d_int) (by rw [strN_len]; omega)) (by rw [cut1 hv.1])) d_str) rfl
    refine q_asgN (fun d => ∃ s, d = .str s ∧ ∃ g : Nat, g ≤ 3 ∧ (0 < n → anB u = true → fstW v ∈ sgL sNAM → 0 < g) ∧ s = strN (layL G ++ List.replicate g 32)) (n_addS (Qa := fun s => s = strN (layL G)) (Qb := fun s => ∃ g : Nat, g ≤ 3 ∧ (0 < n → anB u = true → fstW v ∈ sgL sNAM → 0 < g) ∧ s = strN (List.replicate g 32)) ((d_var rfl).n.imp fun d hd => ⟨_, hd, rfl⟩) (n_ixLV (e_lstV (ds := [.str (Str.ofString ""), .str (Str.ofString " "), .str (Str.ofString "  "), .str (Str.ofString "   ")]) (a_consV d_str (a_consV d_str (a_consV d_str (a_consV d_str a_nil)))) (by simp)) (n_max2 (e_intB (d_var rfl)) (n_call (st := st) (l := l) (P := SomeI fun n => 0 ≤ n ∧ n < 4) rfl rfl (a_cons d_int a_nil) ⟨4, rfl, by decide, by decide, rfl, rfl⟩)) fun i hi => ?_) fun s t hs ht => ?_) ?_
    · obtain ⟨j, ⟨j0, j4⟩, ei⟩ := hi
      obtain ⟨b, eb⟩ : ∃ b, b = (decide (0 < n) && (anB u && decide (fstW v ∈ sgL sNAM))) := ⟨_, rfl⟩
      rw [← eb] at ei
      have hb : 0 < n → anB u = true → fstW v ∈ sgL sNAM → b = true := fun h1 h2 h3 => by rw [eb]; simp [h1, h2, h3]
      have i0 : 0 ≤ i ∧ i ≤ 3 ∧ (b = true → 0 < i) := by
        cases b <;> simp at ei ⊢ <;> split at ei <;> omega
      obtain ⟨g, rfl⟩ := Int.eq_ofNat_of_zero_le i0.1
      have g3 : g ≤ 3 := by omega
      refine ⟨.str (strN (List.replicate g 32)), atI_nat ?_, _, rfl, g, g3, fun h1 h2 h3 => by have := i0.2.2 (hb h1 h2 h3); omega, rfl⟩
      match g, g3 with
      | 0, _ => rfl
      | 1, _ => rfl
      | 2, _ => rfl
      | 3, _ => rfl
    · obtain ⟨g, g3, gn, rfl⟩ := ht
      subst hs
      refine ⟨by rw [strN_len, strN_len, List.length_replicate]; omega, g, g3, gn, strN_app _ _⟩
    rintro _ ⟨_, rfl, g, g3, gn, rfl⟩
    refine q_app rfl (d := .int (((layL G).length + g + 1 : Nat) : Int)) (Ev.to (e_add (e_lenS (d_var rfl) (by rw [strN_len, List.length_append, List.length_replicate]; omega)) d_int) (by rw [strN_len, List.length_append, List.length_replicate]; rfl)) rfl (by rw [List.length_map, plc_len]; omega) ?_
    refine s_asg (d := .str (strN (layL (G ++ [(g, v)])))) (Ev.to (e_addS (d_var rfl) (d_var rfl) (by rw [strN_len, strN_len, List.length_append, List.length_replicate]; omega)) (by rw [strN_app, lay_snoc, List.append_assoc])) (.inl ⟨_, .inl rfl, G ++ [(g, v)], some (.v (.int (n : Int))), some (.v (wS v)), some (.v (.bool (decide (0 < n) && (anB u && decide (fstW v ∈ sgL sNAM))))), ⟨by rw [List.map_append, hG.w, tk]; rfl, fun p hp => ?_, gaps_snoc hG.gaps fun x hx an fx => gn ?_ ?_ fx⟩, ?_⟩)
    · rcases List.mem_append.mp hp with q | q
      · exact hG.g p q
      · rw [List.mem_singleton.mp q]; exact g3
    · have := (List.getElem?_eq_some_iff.mp hx).1
      rw [List.length_map] at this
      omega
    · have l1 := (List.getElem?_eq_some_iff.mp hx).1
      rw [List.length_map] at l1
      rw [hG.w, gl, List.getElem?_take_of_lt (by omega), List.getElem?_eq_getElem (by omega)] at hx
      have : u = x := by rw [eu, List.getD_eq_getElem?_getD, List.getElem?_eq_getElem (by omega)]; exact Option.some.inj hx
      rw [this]; exact an
    · rw [plc_snoc, List.map_append, Nat.zero_add]; rfl
  · obtain ⟨G, t4, t5, t6, hG, rfl⟩ := hI
    rw [List.length_map, List.length_range, List.take_length] at hG
    have gl : G.length = W.length := by have := congrArg List.length hG.w; rwa [List.length_map] at this
    have gw : ∀ p ∈ G, p.2.length ≤ 20 := fun p hp => (hw p.2 (by rw [← hG.w]; exact List.mem_map_of_mem hp)).2
    have ll := lay_le hG.g gw
    refine q_asgN (fun d => ∃ s, d = .str s ∧ ∃ e : Nat, e ≤ 2 ∧ s = strN (layL G ++ List.replicate e 32)) (n_addS (Qa := fun s => s = strN (layL G)) (Qb := fun s => ∃ e : Nat, e ≤ 2 ∧ s = strN (List.replicate e 32)) ((d_var rfl).n.imp fun d hd => ⟨_, hd, rfl⟩) (n_ixLV (e_lstV (ds := [.str (Str.ofString ""), .str (Str.ofString " "), .str (Str.ofString "  ")]) (a_consV d_str (a_consV d_str (a_consV d_str a_nil))) (by simp)) (n_call (st := st) (l := l) (P := SomeI fun n => 0 ≤ n ∧ n < 3) rfl rfl (a_cons d_int a_nil) ⟨3, rfl, by decide, by decide, rfl, rfl⟩) fun i hi => ?_) fun s t hs ht => ?_) ?_
    · obtain ⟨g, rfl⟩ := Int.eq_ofNat_of_zero_le hi.1
      have g2 : g ≤ 2 := by omega
      refine ⟨.str (strN (List.replicate g 32)), atI_nat ?_, _, rfl, g, g2, rfl⟩
      match g, g2 with
      | 0, _ => rfl
      | 1, _ => rfl
      | 2, _ => rfl
    · obtain ⟨g, g2, rfl⟩ := ht
      subst hs
      exact ⟨by rw [strN_len, strN_len, List.length_replicate]; omega, g, g2, strN_app _ _⟩
    rintro _ ⟨_, rfl, e, e2, rfl⟩
    refine s_freeze (n := 3) rfl ?_
    exact s_retB (x := (st, l)) (fun d => d = laidD G e) rfl (Ev.n (Ev.to (d_tup (a_consV (d_var rfl) (a_consV (e_catS (d_var rfl) (e_lstV (ds := [.int (((layL G).length + e + 1 : Nat) : Int)]) (a_consV (Ev.to (e_add (e_lenS (d_var rfl) (by rw [strN_len, List.length_append, List.length_replicate]; omega)) d_int) (by rw [strN_len, List.length_append, List.length_replicate]; rfl)) a_nil) (by simp)) (by rw [List.length_map, plc_len]; simp; omega)) a_nil)) (by simp)) (by unfold laidD; rw [List.map_append]; rfl))) (fun d hd => ⟨d, rfl, G, e, hG, e2, hd⟩)

theorem ok__law_kind {P : Program} {w : World} {K : PySem.W.Frag} {mg : Str → Option Value} {base : Heap} {f : Addr} {fd : FuncData} (F : Fun K "_law_kind" "_law_kind" s__law_kind f fd) (T : Txt mg) :
    FnOk P w K mg base CX0 1 f fd p__law_kind (sp__law_kind K) := by
  refine F.ok sc__law_kind (fun vs H Q E h => spD_len h (by rintro ds k d ⟨w, rfl, _⟩; rfl)) (fun cdv A outer s H vs Q E hr h => ⟨_, (pss_cons (ps_if (pt_cmpR (k_eq (K := K) rfl (rUnits hr)) (pv 0) pe_str (nomark _)) (pss_one (ps_ret pe_str)) pss_nil)
      (pss_cons (ps_if (pt_cmpR op_inS (pe_ix (k_ix (K := K) rfl) (pv 0) pe_int (fun _ _ => rfl)) pe_str (by with_unfolding_all rfl)) (pss_one (ps_ret pe_str)) pss_nil)
      (pss_one (ps_ret (pe_ifExp (pt_cmpR op_inS (pe_ix (k_ix (K := K) rfl) (pv 0) pe_int (fun _ _ => rfl)) pe_str (by with_unfolding_all rfl)) pe_str pe_str))))), run_pure (N := n__law_kind) (fun ds k d hp => ?_) h⟩)
  obtain ⟨w, rfl, hl, rfl, rfl⟩ := hp
  unfold kindW
  cases w with
  | nil => exact q_if (a := true) (EvT.to (t_test (e_eqS (v := .str (strN [])) (w := .str (Str.ofString "")) (d_var rfl) d_str rfl rfl rfl rfl)) (decide_eq_true rfl)) (fun _ => q_ret (Ev.to d_str rfl) (.inr ⟨rfl, rfl⟩) (.inl rfl)) fun e => nomatch e
  | cons c r =>
    have ne : ¬ (V.str (strN (c :: r)) = V.str (Str.ofString "")) := fun z => by
      have := congrArg (fun v => match v with | V.str s => s.length | _ => 0) z
      simp only [strN_len] at this
      rw [show (Str.ofString "").length = 0 from by decide] at this
      simp at this
    refine q_no (EvT.to (t_test (e_eqS (v := .str (strN (c :: r))) (w := .str (Str.ofString "")) (d_var rfl) d_str rfl rfl rfl rfl)) (decide_eq_false ne)) ?_
    have ix : ∀ {Γ : List (Option Rs)}, Γ[0]? = some (some (.v (.str (strN (c :: r))))) → Ev (pc K) (tOp (rIx K) (tVar 0) (tC (.int 0))) Γ .v (.str ⟨#[c]⟩) := fun h0 => e_ixS (d_var h0) d_int (by rw [strN_len]; omega) (by show atI (sgL (strN (c :: r))) ((0 : Nat) : Int) = _; rw [sg_strN]; exact atI_nat rfl)
    have fc : fstW (c :: r) = c := rfl
    rw [if_neg (by simp), fc]
    by_cases m : c ∈ sgL sDIG
    · rw [if_pos m]
      exact q_if (a := true) (EvT.to (t_test (e_inS (ix rfl) d_str)) (decide_eq_true m)) (fun _ => q_ret (Ev.to d_str rfl) (.inr ⟨rfl, rfl⟩) (.inl rfl)) fun e => nomatch e
    · rw [if_neg m]
      refine q_no (EvT.to (t_test (e_inS (ix rfl) d_str)) (decide_eq_false m)) ?_
      refine s_ret (d_if (a := decide (c ∈ sgL sLET)) (t_test (e_inS (ix rfl) d_str)) (fun e => ?_) (fun e => ?_)) (.inr ⟨rfl, rfl⟩) (.inl rfl)
      · rw [if_pos (of_decide_eq_true e)]; exact d_str
      · rw [if_neg (of_decide_eq_false e)]; exact d_str

theorem ok_ini_BadValue {P : Program} {w : World} {K : PySem.W.Frag} {mg : Str → Option Value} {base : Heap} {f C cc cda : Addr} {kV doc pm ct oc cl ccl : Value} {an od cdd cld : Option Addr} {osl csl ccs : Array (Option Value)} {vs : Array Value} {file : Str} {tf : Tok}
    (lk : K.lookup f = some ⟨oc, od, .func (PySem.W.ksFn "__init__" "BadValue.__init__" (defArgs s_ini_BadValue) (defBody s_ini_BadValue) (defScope s_ini_BadValue) .none kV doc pm an (.ref cda) ct cc), osl⟩)
    (hcd : PySem.W.codeIn K (.ref cda) "BadValue.__init__" = true) (hcode : K.lookup cda = some ⟨ccl, cdd, .fields vs, ccs⟩) (hvs : vs[2]? = some (.str file tf)) (hfile : ((P.main.file : Str) == file) = true) (hcell : K.lookup cc = some ⟨cl, cld, .cell (some (.ref C)), csl⟩)
    (O : OexC K C) (hno : PySem.W.findIn K (.ref C) "name" = some none) (hsuper : mg "super" = none) (hsub : PySem.W.subIn K (.ref C) (.type "ValueError") = some true) (hop : PySem.W.nsIn K cStatics "thirdparty.any" = some none)
    (hm : PySem.W.ks_superIn K C C "__init__" = some (some (.builtin "ValueError.__init__"))) (htop : (P.main.scope.names.lookup ("super" : Str)).isSome = false) :
    FnOk P w K mg base (L2.CX P w) 1 f (PySem.W.ksFn "__init__" "BadValue.__init__" (defArgs s_ini_BadValue) (defBody s_ini_BadValue) (defScope s_ini_BadValue) .none kV doc pm an (.ref cda) ct cc) ["self", "name"] (spIni C "name") :=
  fn_super (k := 0) (N := ["self", "name"]) (ps := ["self", "name"]) lk hcd ⟨rfl, rfl, rfl, by decide +kernel, rfl, by decide +kernel, by decide +kernel, by decide +kernel, rfl, rfl⟩ rfl rfl hcode hvs hfile hcell O hsuper hsub hop hm htop (fun vs H Q E h => by obtain ⟨a, nm, rfl, _⟩ := h; rfl)
    (fun A outer s H vs Q E hr h => by
      obtain ⟨a, nm, rfl, hz, ha, hq⟩ := h
      exact ⟨a, [.str nm], _, _, rfl, ha, pe_joined (PJ.cons pe_str (PJ.cons (pe_fmt (pv 1)) PJ.nil)), pss_one (ps_ost (pv 0) (pv 1)), run_ini (Q := Q) (by decide) hz O hno rfl rfl ha hq⟩)

theorem ok_ini_TextError {P : Program} {w : World} {K : PySem.W.Frag} {mg : Str → Option Value} {base : Heap} {f C cc cda : Addr} {kV doc pm ct oc cl ccl : Value} {an od cdd cld : Option Addr} {osl csl ccs : Array (Option Value)} {vs : Array Value} {file : Str} {tf : Tok}
    (lk : K.lookup f = some ⟨oc, od, .func (PySem.W.ksFn "__init__" "TextError.__init__" (defArgs s_ini_TextError) (defBody s_ini_TextError) (defScope s_ini_TextError) .none kV doc pm an (.ref cda) ct cc), osl⟩)
    (hcd : PySem.W.codeIn K (.ref cda) "TextError.__init__" = true) (hcode : K.lookup cda = some ⟨ccl, cdd, .fields vs, ccs⟩) (hvs : vs[2]? = some (.str file tf)) (hfile : ((P.main.file : Str) == file) = true) (hcell : K.lookup cc = some ⟨cl, cld, .cell (some (.ref C)), csl⟩)
    (O : OexC K C) (n1 : PySem.W.findIn K (.ref C) "column" = some none) (n2 : PySem.W.findIn K (.ref C) "words" = some none) (hsuper : mg "super" = none) (hsub : PySem.W.subIn K (.ref C) (.type "ValueError") = some true) (hop : PySem.W.nsIn K cStatics "thirdparty.any" = some none)
    (hm : PySem.W.ks_superIn K C C "__init__" = some (some (.builtin "ValueError.__init__"))) (htop : (P.main.scope.names.lookup ("super" : Str)).isSome = false) :
    FnOk P w K mg base (L2.CX P w) 1 f (PySem.W.ksFn "__init__" "TextError.__init__" (defArgs s_ini_TextError) (defBody s_ini_TextError) (defScope s_ini_TextError) .none kV doc pm an (.ref cda) ct cc) ["self", "column", "words"] (spIniT C) :=
  fn_super (k := 0) (N := ["self", "column", "words"]) (ps := ["self", "column", "words"]) lk hcd ⟨rfl, rfl, rfl, by decide +kernel, rfl, by decide +kernel, by decide +kernel, by decide +kernel, rfl, rfl⟩ rfl rfl hcode hvs hfile hcell O hsuper hsub hop hm htop (fun vs H Q E h => by obtain ⟨a, col, wd, rfl, _⟩ := h; rfl)
    (fun A outer s H vs Q E hr h => by
      obtain ⟨a, col, wd, rfl, h0, h1, hz, ha, hq⟩ := h
      exact ⟨a, [.int col, .str wd], _, _, rfl, ha, pe_joined (PJ.cons pe_str (PJ.cons (pe_fmt (pv 1)) (PJ.cons pe_str (PJ.cons (pe_fmt (pv 2)) PJ.nil)))), pss_cons (ps_ost (pv 0) (pv 1)) (pss_one (ps_ost (pv 0) (pv 2))), run_iniT (by decide +kernel) (by decide +kernel) h0 h1 hz O n1 n2 rfl rfl rfl ha hq⟩)
end W

namespace W
open PySem PySem.Spec PyProof.Rows L2 Lm
theorem ok_requireX {P : Program} {w : World} {K : PySem.W.Frag} {mg : Str → Option Value} {base : Heap} {f C : Addr} {fd : FuncData} (F : Fun K "require" "require" s_require f fd) (T : Txt mg) (X : Exc1 P w K mg base "BadValue" "name" C) :
    FnOk P w K mg base (L2.CX P w) 4 f fd p_require (spReq C) := by
  obtain ⟨fI, fdI, iC, tI, F1, hb⟩ := X.ini
  refine F.okX sc_require (fun vs H Q E h => by obtain ⟨b, nm, rfl, _⟩ := h; rfl) (fun cdv A outer s H vs Q E hr h => ⟨_, (pss_one (ps_if (pt_not (pt_val (pv 0))) (pss_one (ps_raise rfl (takes_of rfl rfl rfl rfl) (pmk_oex X.O iC tI F1 (hr.mono (by decide)) hb .nil passL rfl X.hC (pa_cons (pv 1) pa_nil)))) pss_nil)), ?_⟩)
  obtain ⟨b, nm, rfl, hz, h1, h2⟩ := h
  cases b with
  | true => exact ⟨.bl true, rfl, true, rfl, h1 rfl⟩
  | false => exact ⟨.bl false, rfl, false, rfl, mkO_req hz (fun Q' q => ⟨_, rfl, q⟩) (h2 rfl)⟩

theorem ok_check_textX {P : Program} {w : World} {K : PySem.W.Frag} {mg : Str → Option Value} {base : Heap} {f C CT : Addr} {fd : FuncData} (F : Fun K "check_text" "check_text" s_check_text f fd) (T : Txt mg) {fx_require : Addr} {fdx_require : FuncData} (X_require : FnOk P w K mg base (L2.CX P w) 4 fx_require fdx_require p_require (spReq C)) (m_require : mg "require" = some (.ref fx_require)) (k_require : PySem.W.keepIn K (.ref fx_require) = true) (b_require : Binds K fdx_require p_require []) :
    FnOk P w K mg base (L2.CX P w) 5 f fd p_check_text (spRef K C RcTx) := by
  refine F.okX sc_check_text (fun vs H Q E h => by obtain ⟨ds, nm, hb, hd, _⟩ := h; rw [hb.len, RcTx_len hd]; rfl) (fun cdv A outer s H vs Q E hr h => ⟨_, (pss_one (ps_expr (pe_call X_require (hr.mono (by decide)) rfl m_require k_require b_require .nil (passes_call (E := E) (takes_of rfl rfl rfl rfl) (fun _ _ _ _ h => h)) (pa_cons (pe_and (pe_callB (k_isi (K := K) rfl) rfl T.b_isinstance (by decide +kernel) (pa_cons (pv 0) (pa_cons (pe_ty (n := "str") rfl T.b_str (by decide +kernel)) pa_nil))) (pe_and (pe_cmpR op_le (pe_callB (k_lenU (K := K) rfl) rfl T.b_len (by decide +kernel) (pa_cons (pv 0) pa_nil)) (pe_const rfl T.k_MOST_CHARACTERS) (nomark _)) (pe_one (pe_cmpR op_notInS pe_str (pv 0) (by with_unfolding_all rfl))))) (pa_cons pe_str pa_nil))))), run_ref (N := n_check_text) (C := C) (fun ds nm hd hE => ?_) h⟩)
  obtain ⟨x, rfl, hl, hx, rfl⟩ := hd
  refine xl_req (by decide +kernel) hE (Ev.to (d_andV (a := isStrTy x) (b := false) (e_isi (d_var rfl) (kit_str x)) fun hs => ?_) (by simp))
  cases x with
  | str z =>
    have hl := hl z rfl
    by_cases q : z.length ≤ 400
    · have hn : 10 ∈ sgL z := by
        simp [txtB, q] at hx
        simpa using hx
      exact Ev.to (d_andV (a := true) (b := false) (Ev.to (d_le (e_lenS (d_var rfl) (by omega)) d_int) (congrArg PyData.bool (decide_eq_true (by omega)))) fun _ => Ev.to (e_notInS (ch := 10) d_str (d_var rfl)) (by rw [decide_eq_true hn]; rfl)) rfl
    · exact Ev.to (d_andV (a := false) (b := false) (Ev.to (d_le (e_lenS (d_var rfl) (by omega)) d_int) (congrArg PyData.bool (decide_eq_false (by omega)))) fun w => nomatch w) rfl
  | _ => cases hs

theorem ok_name_atT {P : Program} {w : World} {K : PySem.W.Frag} {mg : Str → Option Value} {base : Heap} {f C CT : Addr} {fd : FuncData} (F : Fun K "name_at" "name_at" s_name_at f fd) (T : Txt mg) (X : ExcT P w K mg base CT) (c_run_at : Cal P w K mg base CX0 1 "run_at" p_run_at (sp_run_at K)) :
    FnOk P w K mg base (L2.CX P w) 4 f fd p_name_at (spRefT K CT RtNm) := by
  obtain ⟨fI, fdI, iC, tI, F1, hb⟩ := X.ini
  refine F.okX sc_name_at (fun vs H Q E h => by obtain ⟨ds, cw, hb, hd, _⟩ := h; rw [hb.len, RtNm_len hd]; rfl) (fun cdv A outer s H vs Q E hr h => ⟨_, (pss_cons (ps_set (i := 2) sc_name_at.nd rfl (Or.inl rfl) (pe_cal (cal_up0 c_run_at) (hr.mono (by decide)) rfl passL (pa_cons (pv 0) (pa_cons (pv 1) (pa_cons (pe_constS rfl T.k_IN_NAMES) pa_nil)))))
      (pss_cons (ps_if (pt_cmpR op_gt (pe_callB (k_lenU (K := K) rfl) rfl T.b_len (by decide +kernel) (pa_cons (pv 2) pa_nil)) (pe_const rfl T.k_LONGEST_NAME) (nomark _)) (pss_one (ps_raise rfl (takes_of rfl rfl rfl rfl) (pmk_oex X.O iC tI F1 (hr.mono (by decide)) hb .nil passL rfl X.hC (pa_cons (pe_op (k_add (K := K) rfl) (pv 1) pe_int) (pa_cons pe_str pa_nil))))) pss_nil)
      (pss_one (ps_ret (pe_tupN (pa_cons pe_str (pa_cons (pv 2) (pa_cons (pe_op (k_add (K := K) rfl) (pv 1) pe_int) pa_nil)))))))), run_refT (N := n_name_at) (C := CT) (fun ds cw hd hE => ?_) h⟩)
  obtain ⟨z, a, rfl, ha, hz, hl, rfl⟩ := hd
  refine x_asg (d := .str (strN (runS ((sgL z).drop a) (sgL sNAM)))) (d_call (k := .v) (a_cons (d_var rfl) (a_cons (d_var rfl) (a_cons d_str a_nil))) ⟨z, sNAM, a, rfl, ha, hz, rfl, rfl⟩) ?_
  have rl := run_len ((sgL z).drop a) (sgL sNAM)
  rw [List.length_drop, sg_len] at rl
  refine x_take (EvT.to (t_test (d_gt (e_lenS (d_var rfl) (by rw [strN_len]; omega)) d_int)) (decide_eq_true (by rw [strN_len]; omega))) ?_
  exact x_raiseT (by omega) (by omega) (by decide +kernel) (a_consV (e_add (d_var rfl) d_int) (a_consV d_str a_nil)) hE

theorem ok_number_atT {P : Program} {w : World} {K : PySem.W.Frag} {mg : Str → Option Value} {base : Heap} {f C CT : Addr} {fd : FuncData} (F : Fun K "number_at" "number_at" s_number_at f fd) (T : Txt mg) (X : ExcT P w K mg base CT) (c_run_at : Cal P w K mg base CX0 1 "run_at" p_run_at (sp_run_at K)) :
    FnOk P w K mg base (L2.CX P w) 4 f fd p_number_at (spRefT K CT RtNu) := by
  obtain ⟨fI, fdI, iC, tI, F1, hb⟩ := X.ini
  refine F.okX sc_number_at (fun vs H Q E h => by obtain ⟨ds, cw, hb, hd, _⟩ := h; rw [hb.len, RtNu_len hd]; rfl) (fun cdv A outer s H vs Q E hr h => ⟨_, (pss_cons (ps_set (i := 2) sc_number_at.nd rfl (Or.inl rfl) (pe_cal (cal_up0 c_run_at) (hr.mono (by decide)) rfl passL (pa_cons (pv 0) (pa_cons (pv 1) (pa_cons (pe_constS rfl T.k_DIGITS) pa_nil)))))
      (pss_cons (ps_if (pt_cmpR op_gt (pe_callB (k_lenU (K := K) rfl) rfl T.b_len (by decide +kernel) (pa_cons (pv 2) pa_nil)) (pe_const rfl T.k_LONGEST_NUMBER) (nomark _)) (pss_one (ps_raise rfl (takes_of rfl rfl rfl rfl) (pmk_oex X.O iC tI F1 (hr.mono (by decide)) hb .nil passL rfl X.hC (pa_cons (pe_op (k_add (K := K) rfl) (pv 1) pe_int) (pa_cons pe_str pa_nil))))) pss_nil)
      (pss_one (ps_ret (pe_tupN (pa_cons pe_str (pa_cons (pv 2) (pa_cons (pe_op (k_add (K := K) rfl) (pv 1) pe_int) pa_nil)))))))), run_refT (N := n_number_at) (C := CT) (fun ds cw hd hE => ?_) h⟩)
  obtain ⟨z, a, rfl, ha, hz, hl, rfl⟩ := hd
  refine x_asg (d := .str (strN (runS ((sgL z).drop a) (sgL sDIG)))) (d_call (k := .v) (a_cons (d_var rfl) (a_cons (d_var rfl) (a_cons d_str a_nil))) ⟨z, sDIG, a, rfl, ha, hz, rfl, rfl⟩) ?_
  have rl := run_len ((sgL z).drop a) (sgL sDIG)
  rw [List.length_drop, sg_len] at rl
  refine x_take (EvT.to (t_test (d_gt (e_lenS (d_var rfl) (by rw [strN_len]; omega)) d_int)) (decide_eq_true (by rw [strN_len]; omega))) ?_
  exact x_raiseT (by omega) (by omega) (by decide +kernel) (a_consV (e_add (d_var rfl) d_int) (a_consV d_str a_nil)) hE

theorem ok_token_atT {P : Program} {w : World} {K : PySem.W.Frag} {mg : Str → Option Value} {base : Heap} {f C CT : Addr} {fd : FuncData} (F : Fun K "token_at" "token_at" s_token_at f fd) (T : Txt mg) (X : ExcT P w K mg base CT) {fx_name_at : Addr} {fdx_name_at : FuncData} (X_name_at : FnOk P w K mg base (L2.CX P w) 4 fx_name_at fdx_name_at p_name_at (spDT K CT (sp_name_at K) RtNm)) (m_name_at : mg "name_at" = some (.ref fx_name_at)) (k_name_at : PySem.W.keepIn K (.ref fx_name_at) = true) (b_name_at : Binds K fdx_name_at p_name_at []) {fx_number_at : Addr} {fdx_number_at : FuncData} (X_number_at : FnOk P w K mg base (L2.CX P w) 4 fx_number_at fdx_number_at p_number_at (spDT K CT (sp_number_at K) RtNu)) (m_number_at : mg "number_at" = some (.ref fx_number_at)) (k_number_at : PySem.W.keepIn K (.ref fx_number_at) = true) (b_number_at : Binds K fdx_number_at p_number_at []) :
    FnOk P w K mg base (L2.CX P w) 5 f fd p_token_at (spRefT K CT RtTk) := by
  obtain ⟨fI, fdI, iC, tI, F1, hb⟩ := X.ini
  refine F.okX sc_token_at (fun vs H Q E h => by obtain ⟨ds, cw, hb, hd, _⟩ := h; rw [hb.len, RtTk_len hd]; rfl) (fun cdv A outer s H vs Q E hr h => ⟨_, (pss_cons (ps_if (pt_cmpR op_inS (pe_ix (k_ix (K := K) rfl) (pv 0) (pv 1) (fun _ _ => rfl)) (pe_constS rfl T.k_LETTERS) (by with_unfolding_all rfl)) (pss_one (ps_ret (pe_call X_name_at (hr.mono (by decide)) rfl m_name_at k_name_at b_name_at .nil (passes_call (E := E) (takes_of rfl rfl rfl rfl) (fun _ _ _ _ h => h)) (pa_cons (pv 0) (pa_cons (pv 1) pa_nil))))) pss_nil)
      (pss_cons (ps_if (pt_cmpR op_inS (pe_ix (k_ix (K := K) rfl) (pv 0) (pv 1) (fun _ _ => rfl)) (pe_constS rfl T.k_DIGITS) (by with_unfolding_all rfl)) (pss_one (ps_ret (pe_call X_number_at (hr.mono (by decide)) rfl m_number_at k_number_at b_number_at .nil (passes_call (E := E) (takes_of rfl rfl rfl rfl) (fun _ _ _ _ h => h)) (pa_cons (pv 0) (pa_cons (pv 1) pa_nil))))) pss_nil)
      (pss_cons (ps_if (pt_cmpR op_inS (pe_ix (k_ix (K := K) rfl) (pv 0) (pv 1) (fun _ _ => rfl)) (pe_constS rfl T.k_SIGNS) (by with_unfolding_all rfl)) (pss_one (ps_ret (pe_tupN (pa_cons pe_str (pa_cons (pe_ix (k_ix (K := K) rfl) (pv 0) (pv 1) (fun _ _ => rfl)) (pa_cons (pe_op (k_add (K := K) rfl) (pv 1) pe_int) pa_nil)))))) pss_nil)
      (pss_one (ps_raise rfl (takes_of rfl rfl rfl rfl) (pmk_oex X.O iC tI F1 (hr.mono (by decide)) hb .nil passL rfl X.hC (pa_cons (pe_op (k_add (K := K) rfl) (pv 1) pe_int) (pa_cons pe_str pa_nil)))))))), run_refT (N := n_token_at) (C := CT) (fun ds cw hd hE => ?_) h⟩)
  obtain ⟨z, a, wd, rfl, ha, hz, ht, rfl⟩ := hd
  have g : (sgL z)[a]? = some ((sgL z).getD a 0) := by rw [List.getD_eq_getElem?_getD, List.getElem?_eq_getElem (by rw [sg_len]; exact ha)]; rfl
  have ix : ∀ {Γ : List (Option Rs)}, Γ[0]? = some (some (.v (.str z))) → Γ[1]? = some (some (.v (.int (a : Int)))) → Ev (pc K) (tOp (rIx K) (tVar 0) (tVar 1)) Γ .v (.str ⟨#[(sgL z).getD a 0]⟩) := fun h0 h1 => e_ixS (d_var h0) (d_var h1) (by omega) (atI_nat g)
  have ml := msg_len ht
  unfold tokA at ht
  by_cases m1 : (sgL z).getD a 0 ∈ sgL sLET
  · rw [if_pos m1] at ht
    split at ht
    · next q =>
      cases ht
      exact x_take (EvT.to (t_test (e_inS (ix rfl rfl) d_str)) (decide_eq_true m1)) (x_retE (x_refT (cw := (a + 1, "a name has at most 12 characters")) (a_cons (d_var rfl) (a_cons (d_var rfl) a_nil)) ⟨z, a, rfl, by omega, hz, q, rfl⟩ hE))
    · cases ht
  rw [if_neg m1] at ht
  refine x_skip (EvT.to (t_test (e_inS (ix rfl rfl) d_str)) (decide_eq_false m1)) ?_
  by_cases m2 : (sgL z).getD a 0 ∈ sgL sDIG
  · rw [if_pos m2] at ht
    split at ht
    · next q =>
      cases ht
      exact x_take (EvT.to (t_test (e_inS (ix rfl rfl) d_str)) (decide_eq_true m2)) (x_retE (x_refT (cw := (a + 1, "a number has at most 6 digits")) (a_cons (d_var rfl) (a_cons (d_var rfl) a_nil)) ⟨z, a, rfl, by omega, hz, q, rfl⟩ hE))
    · cases ht
  rw [if_neg m2] at ht
  refine x_skip (EvT.to (t_test (e_inS (ix rfl rfl) d_str)) (decide_eq_false m2)) ?_
  by_cases m3 : (sgL z).getD a 0 ∈ sgL sSIG
  · rw [if_pos m3] at ht
    cases ht
  · rw [if_neg m3] at ht
    cases ht
    refine x_skip (EvT.to (t_test (e_inS (ix rfl rfl) d_str)) (decide_eq_false m3)) ?_
    exact x_raiseT (by omega) (by omega) ml (a_consV (e_add (d_var rfl) d_int) (a_consV d_str a_nil)) hE

theorem ok_scanX {P : Program} {w : World} {K : PySem.W.Frag} {mg : Str → Option Value} {base : Heap} {f C CT : Addr} {fd : FuncData} (F : Fun K "scan" "scan" s_scan f fd) (T : Txt mg) {fx_check_text : Addr} {fdx_check_text : FuncData} (X_check_text : FnOk P w K mg base (L2.CX P w) 5 fx_check_text fdx_check_text p_check_text (spDR K C (sp_check_text K) RcTx)) (m_check_text : mg "check_text" = some (.ref fx_check_text)) (k_check_text : PySem.W.keepIn K (.ref fx_check_text) = true) (b_check_text : Binds K fdx_check_text p_check_text []) {fx_token_at : Addr} {fdx_token_at : FuncData} (X_token_at : FnOk P w K mg base (L2.CX P w) 5 fx_token_at fdx_token_at p_token_at (spDT K CT (sp_token_at K) RtTk)) (m_token_at : mg "token_at" = some (.ref fx_token_at)) (k_token_at : PySem.W.keepIn K (.ref fx_token_at) = true) (b_token_at : Binds K fdx_token_at p_token_at []) :
    FnOk P w K mg base (L2.CX P w) 6 f fd p_scan (spRef K C RcTx) := by
  refine F.okX sc_scan (fun vs H Q E h => by obtain ⟨ds, nm, hb, hd, _⟩ := h; rw [hb.len, RcTx_len hd]; rfl) (fun cdv A outer s H vs Q E hr h => ⟨_, (pss_cons (ps_expr (pe_call X_check_text (hr.mono (by decide)) rfl m_check_text k_check_text b_check_text .nil (passes_call (E := E) (takes_of rfl rfl rfl rfl) (fun _ _ _ _ h => h)) (pa_cons (pv 0) pa_nil)))
      (pss_cons (ps_set (i := 1) sc_scan.nd rfl (Or.inl rfl) (pe_lst pa_nil))
      (pss_cons (ps_set (i := 2) sc_scan.nd rfl (Or.inl rfl) pe_int)
      (pss_cons (ps_while (passes_of rfl) (pt_cmpR op_lt (pv 2) (pe_callB (k_lenU (K := K) rfl) rfl T.b_len (by decide +kernel) (pa_cons (pv 0) pa_nil)) (nomark _)) (pss_one (ps_if (pt_cmpR (k_eq (K := K) rfl (rUnits hr)) (pe_ix (k_ix (K := K) rfl) (pv 0) (pv 2) (fun _ _ => rfl)) pe_str (nomark _)) (pss_one (ps_aug (i := 2) sc_scan.nd rfl (Or.inl rfl) pe_int ip_add)) (pss_cons (ps_set (i := 3) sc_scan.nd rfl (Or.inl rfl) (pe_call X_token_at (hr.mono (by decide)) rfl m_token_at k_token_at b_token_at .nil (passes_call (E := E) (takes_of rfl rfl rfl rfl) (fun _ _ _ _ h => h)) (pa_cons (pv 0) (pa_cons (pv 2) pa_nil))))
      (pss_cons (ps_expr (k_bm (K := K) rfl PySem.F.plainAttrs_list PySem.F.slot_list_append PySem.F.type_list_append mt_append (pv 1) (pa_cons (pv 3) pa_nil)))
      (pss_one (ps_aug (i := 2) sc_scan.nd rfl (Or.inl rfl) (pe_callB (k_lenU (K := K) rfl) rfl T.b_len (by decide +kernel) (pa_cons (pe_ix (k_ix (K := K) rfl) (pv 3) pe_int (fun _ _ => rfl)) pa_nil)) ip_add)))))))
      (pss_cons (ps_expr (k_bm (K := K) rfl PySem.F.plainAttrs_list PySem.F.slot_list_append PySem.F.type_list_append mt_append (pv 1) (pa_cons (pe_tupN (pa_cons pe_str (pa_cons pe_str (pa_cons (pe_op (k_add (K := K) rfl) (pe_callB (k_lenU (K := K) rfl) rfl T.b_len (by decide +kernel) (pa_cons (pv 0) pa_nil)) pe_int) pa_nil)))) pa_nil)))
      (pss_one (ps_ret (pv 1)))))))), run_ref (N := n_scan) (C := C) (fun ds nm hd hE => ?_) h⟩)
  obtain ⟨x, rfl, hl, hx, rfl⟩ := hd
  exact x_seq (x_dropE (x_ref (ds := [x]) (nm := "text") (a_cons (d_var rfl) a_nil) ⟨x, rfl, hl, hx, rfl⟩ hE))

theorem ok_scanT {P : Program} {w : World} {K : PySem.W.Frag} {mg : Str → Option Value} {base : Heap} {f C CT : Addr} {fd : FuncData} (F : Fun K "scan" "scan" s_scan f fd) (T : Txt mg) (X : ExcT P w K mg base CT) {fx_check_text : Addr} {fdx_check_text : FuncData} (X_check_text : FnOk P w K mg base (L2.CX P w) 5 fx_check_text fdx_check_text p_check_text (spDR K C (sp_check_text K) RcTx)) (m_check_text : mg "check_text" = some (.ref fx_check_text)) (k_check_text : PySem.W.keepIn K (.ref fx_check_text) = true) (b_check_text : Binds K fdx_check_text p_check_text []) {fx_token_at : Addr} {fdx_token_at : FuncData} (X_token_at : FnOk P w K mg base (L2.CX P w) 5 fx_token_at fdx_token_at p_token_at (spDT K CT (sp_token_at K) RtTk)) (m_token_at : mg "token_at" = some (.ref fx_token_at)) (k_token_at : PySem.W.keepIn K (.ref fx_token_at) = true) (b_token_at : Binds K fdx_token_at p_token_at []) :
    FnOk P w K mg base (L2.CX P w) 6 f fd p_scan (spRefT K CT RtSc) := by
  obtain ⟨fI, fdI, iC, tI, F1, hb⟩ := X.ini
  refine F.okX sc_scan (fun vs H Q E h => by obtain ⟨ds, cw, hb, hd, _⟩ := h; rw [hb.len, RtSc_len hd]; rfl) (fun cdv A outer s H vs Q E hr h => ⟨_, (pss_cons (ps_expr (pe_call X_check_text (hr.mono (by decide)) rfl m_check_text k_check_text b_check_text .nil (passes_call (E := E) (takes_of rfl rfl rfl rfl) (fun _ _ _ _ h => h)) (pa_cons (pv 0) pa_nil)))
      (pss_cons (ps_set (i := 1) sc_scan.nd rfl (Or.inl rfl) (pe_lst pa_nil))
      (pss_cons (ps_set (i := 2) sc_scan.nd rfl (Or.inl rfl) pe_int)
      (pss_cons (ps_while (passes_of rfl) (pt_cmpR op_lt (pv 2) (pe_callB (k_lenU (K := K) rfl) rfl T.b_len (by decide +kernel) (pa_cons (pv 0) pa_nil)) (nomark _)) (pss_one (ps_if (pt_cmpR (k_eq (K := K) rfl (rUnits hr)) (pe_ix (k_ix (K := K) rfl) (pv 0) (pv 2) (fun _ _ => rfl)) pe_str (nomark _)) (pss_one (ps_aug (i := 2) sc_scan.nd rfl (Or.inl rfl) pe_int ip_add)) (pss_cons (ps_set (i := 3) sc_scan.nd rfl (Or.inl rfl) (pe_call X_token_at (hr.mono (by decide)) rfl m_token_at k_token_at b_token_at .nil (passes_call (E := E) (takes_of rfl rfl rfl rfl) (fun _ _ _ _ h => h)) (pa_cons (pv 0) (pa_cons (pv 2) pa_nil))))
      (pss_cons (ps_expr (k_bm (K := K) rfl PySem.F.plainAttrs_list PySem.F.slot_list_append PySem.F.type_list_append mt_append (pv 1) (pa_cons (pv 3) pa_nil)))
      (pss_one (ps_aug (i := 2) sc_scan.nd rfl (Or.inl rfl) (pe_callB (k_lenU (K := K) rfl) rfl T.b_len (by decide +kernel) (pa_cons (pe_ix (k_ix (K := K) rfl) (pv 3) pe_int (fun _ _ => rfl)) pa_nil)) ip_add)))))))
      (pss_cons (ps_expr (k_bm (K := K) rfl PySem.F.plainAttrs_list PySem.F.slot_list_append PySem.F.type_list_append mt_append (pv 1) (pa_cons (pe_tupN (pa_cons pe_str (pa_cons pe_str (pa_cons (pe_op (k_add (K := K) rfl) (pe_callB (k_lenU (K := K) rfl) rfl T.b_len (by decide +kernel) (pa_cons (pv 0) pa_nil)) pe_int) pa_nil)))) pa_nil)))
      (pss_one (ps_ret (pv 1)))))))), run_refT (N := n_scan) (C := CT) (fun ds cw hd hE => ?_) h⟩)
  obtain ⟨z, rfl, hb', hs⟩ := hd
  have hz : z.length ≤ 400 := by
    have h := hb'
    unfold txtB at h
    rw [Bool.and_eq_true, decide_eq_true_eq] at h
    exact h.1
  refine x_drop (x_goodO (k := .v) (d := .none) (a_cons (d_var rfl) a_nil) ⟨z, rfl, hb', rfl, rfl⟩) ?_
  refine x_asgO (d := .list (([] : List Tok9).map tokD)) (d_lst (kv := false) (ds := []) a_nil rfl (by decide)) ?_
  refine x_asg (d := .int ((0 : Nat) : Int)) d_int ?_
  refine x_seq (x_while (fun N Γ1 => ∃ (a : Nat) (acc : List Tok9) (t3 : Option Rs), a ≤ z.length ∧ z.length ≤ a + N ∧ acc.length ≤ a ∧ scn (sgL z) N a = .error cw ∧ Γ1 = [some (.v (.str z)), some (.o (.list (acc.map tokD))), some (.v (.int (a : Int))), t3]) (n0 := z.length) ⟨0, [], _, by omega, by omega, by simp, hs, rfl⟩ fun N Γ1 hI => ?_)
  obtain ⟨a, acc, t3, ha, hn, hac, hr', rfl⟩ := hI
  cases N with
  | zero => cases hr'
  | succ M =>
    unfold scn at hr'
    have q : a < z.length := by
      by_cases q : a < z.length
      · exact q
      · rw [if_neg (by rw [sg_len]; exact q)] at hr'; cases hr'
    rw [if_pos (by rw [sg_len]; exact q)] at hr'
    refine ⟨EvT.to (t_test (d_lt (d_var rfl) (e_lenS (d_var rfl) (by omega)))) (decide_eq_true (by omega)), ?_⟩
    have g : (sgL z)[a]? = some ((sgL z).getD a 0) := by rw [List.getD_eq_getElem?_getD, List.getElem?_eq_getElem (by rw [sg_len]; exact q)]; rfl
    have tst : EvT (pc K) (tTest (tOp (rEqA K) (tOp (rIx K) (tVar 0) (tVar 2)) (tC (.str (Str.ofString " "))))) [some (.v (.str z)), some (.o (.list (acc.map tokD))), some (.v (.int (a : Int))), t3] (decide ((sgL z).getD a 0 = 32)) := by
      refine EvT.to (t_test (e_eqS (v := .str ⟨#[(sgL z).getD a 0]⟩) (w := .str ⟨#[32]⟩) (e_ixS (d_var rfl) (d_var rfl) (by omega) (atI_nat g)) d_str rfl rfl rfl rfl)) ?_
      by_cases e : (sgL z).getD a 0 = 32
      · rw [e]; simp
      · rw [decide_eq_false e]
        exact decide_eq_false fun w => e (by simpa using w)
    by_cases w : (sgL z).getD a 0 = 32
    · rw [if_pos w] at hr'
      exact .inr (s_yes (EvT.to tst (decide_eq_true w)) (s_aug (f := fun a b => a + b) rfl d_int ⟨_, M, .inl rfl, by omega, a + 1, acc, _, by omega, by omega, by omega, hr', rfl⟩))
    · rw [if_neg w] at hr'
      cases ht : tokA (sgL z) a with
      | error x =>
        rw [ht] at hr'
        cases hr'
        exact .inl (x_no (EvT.to tst (decide_eq_false w)) (x_seq (x_asgE (x_refT (cw := (a + 1, x)) (a_cons (d_var rfl) (a_cons (d_var rfl) a_nil)) ⟨z, a, x, rfl, q, by omega, ht, rfl⟩ hE))))
      | ok p =>
        obtain ⟨kd, r⟩ := p
        rw [ht] at hr'
        obtain ⟨l1, l2⟩ := tok_len ht (by rw [sg_len]; exact q)
        rw [sg_len] at l2
        dsimp only at hr'
        cases hu : scn (sgL z) M (a + r.length) with
        | ok us => rw [hu] at hr'; cases hr'
        | error y =>
          rw [hu] at hr'
          cases hr'
          refine .inr (s_no (EvT.to tst (decide_eq_false w)) ?_)
          refine q_asg (d := tokD (kd, r, a + 1)) (x_goodO (a_cons (d_var rfl) (a_cons (d_var rfl) a_nil)) ⟨z, a, kd, r, rfl, q, by omega, ht, rfl, rfl⟩) ?_
          refine q_app rfl (d := tokD (kd, r, a + 1)) (d_var rfl) rfl (by simp; omega) ?_
          exact s_aug (f := fun a b => a + b) rfl (e_lenS (e_ixT (d := .str (strN r)) (d_var rfl) d_int rfl rfl) (by rw [strN_len]; omega)) ⟨_, M, .inl rfl, by omega, a + r.length, acc ++ [(kd, r, a + 1)], some (.v (tokD (kd, r, a + 1))), by omega, by omega, by simp; omega, hu, by rw [strN_len, List.map_append]; simp⟩

theorem ok__law_toldX {P : Program} {w : World} {K : PySem.W.Frag} {mg : Str → Option Value} {base : Heap} {f C CT : Addr} {fd : FuncData} {L1 : Addr} (F : Fun K "_law_told" "_law_told" s__law_told f fd) (T : Txt mg) (X : Exc1 P w K mg base "BadValue" "name" C) (XT : ExcT P w K mg base CT) (XH : ExcH K mg CT L1) (kL : PySem.W.kitOne K (.ref CT) (.ref L1) = some true) (no : PySem.W.exmOne K (.ref C) (.ref CT) = some false) {fx_scan : Addr} {fdx_scan : FuncData} (X_scan : FnOk P w K mg base (L2.CX P w) 6 fx_scan fdx_scan p_scan (spDT K CT (spDR K C (sp_scan K) RcTx) RtSc)) (m_scan : mg "scan" = some (.ref fx_scan)) (k_scan : PySem.W.keepIn K (.ref fx_scan) = true) (b_scan : Binds K fdx_scan p_scan []) :
    FnOk P w K mg base (L2.CX P w) 7 f fd p__law_told (sp__law_told91 K) := by
  refine F.okX sc__law_told (fun vs H Q E h => spD_len (E := E) h (by rintro ds k d ⟨x, rfl, _⟩; rfl)) (fun cdv A outer s H vs Q E hr h => ⟨_, (pss_one (ps_try_asM (i := 1) (Wo := fun cls d _ H => E cls d H) rfl rfl sc__law_told.nd rfl rfl (takes_of rfl rfl rfl rfl)
    (fun W pn xe tk po => (pss_one (ps_ret (pe_callS X_scan (hr.mono (by decide)) rfl m_scan k_scan b_scan (fun σ => passAt tk σ) (pa_cons (pv 0) pa_nil)))))
    (.cons ⟨rfl, by decide, .inl XT.hC⟩ (fun a oe cls d pn hz hf => (pss_one (ps_ret (pe_ifExp (pt_val (pe_callB (call_isX XH.isC hz hf) rfl T.b_isinstance (by decide +kernel) (pa_cons (pv 1) (pa_cons (pe_glob (v := .ref L1) rfl XH.hL rfl) pa_nil)))) (pe_tupN (pa_cons (pe_xf XT.X XT.n1 hz hf (pv 1)) (pa_cons (pe_xf XT.X XT.n2 hz hf (pv 1)) pa_nil))) pe_non))))
    (.cons ⟨rfl, by decide, .inl X.hC⟩ (fun a oe cls d pn hz hf => (pss_one (ps_ret (pe_xf X.X X.no hz hf (pv 1))))) .nil)))), ?_⟩)
  obtain ⟨ds, k', d, hb, ⟨x, rfl, hd⟩, q⟩ := h
  have lv : vs.length = 1 := by rw [hb.len]; rfl
  obtain ⟨v, rfl⟩ : ∃ v, vs = [v] := match vs, lv with | [v], _ => ⟨v, rfl⟩
  rcases hd with ⟨z, ts, rfl, h1, h2, rfl, rfl⟩ | ⟨z, cw, rfl, h1, h2, rfl, rfl⟩ | ⟨hl, h1, rfl, rfl⟩
  · exact ⟨v, rfl, .inl (.inl ⟨_, _, _, hb, ⟨z, ts, rfl, h1, h2, rfl, rfl⟩, fun u H' sm rt => q u H' sm rt⟩)⟩
  · exact ⟨v, rfl, .inr ⟨_, cw, hb, ⟨z, rfl, h1, h2⟩, fun dx H1 sm hdx => was_T XT XH kL (id (by decide : (1 : Nat) < 2)) hdx fun p H2 sm2 tp => q _ _ (sm.trans sm2) ⟨rfl, .tup tp (.cons (.int _) (.cons (.str _) .nil))⟩⟩⟩
  · exact ⟨v, rfl, .inl (.inr ⟨_, "text", hb, ⟨x, rfl, hl, h1, rfl⟩, fun dx H1 sm hdx => was_B X no (id (by decide : (1 : Nat) < 2)) hdx (q _ _ sm ⟨rfl, .str _⟩)⟩)⟩

end W

namespace W
open PySem PySem.Spec PyProof.Rows L2 Lm
theorem ok_law {P : Program} {w : World} {K : PySem.W.Frag} {mg : Str → Option Value} {base : Heap} {f : Addr} {fd : FuncData} (F : Fun K "law" "law" s_law f fd) (T : Txt mg) (c__law_stream : Cal P w K mg base CX0 1 "_law_stream" p__law_stream (sp__law_stream K)) (c__law_laid : Cal P w K mg base CX0 2 "_law_laid" p__law_laid (sp__law_laid K)) (c__law_pick : Cal P w K mg base CX0 2 "_law_pick" p__law_pick (sp__law_pick K)) (c__law_next : Cal P w K mg base CX0 1 "_law_next" p__law_next (sp__law_next K)) (c__law_equal : Cal P w K mg base CX0 10 "_law_equal" p__law_equal (sp__law_equal K)) (c__law_told : Cal P w K mg base CX0 7 "_law_told" p__law_told (sp__law_told91 K)) (c__law_kind : Cal P w K mg base CX0 1 "_law_kind" p__law_kind (sp__law_kind K)) :
    FnOk P w K mg base CX0 11 f fd p_law (spLaw K) := by
  refine F.ok sc_law (fun vs H Q E h => by obtain ⟨a, ns, rfl, _⟩ := h; rfl) (fun cdv A outer s H vs Q E hr h => ⟨_, (pss_cons (ps_set (i := 1) sc_law.nd rfl (Or.inl rfl) (pe_cal c__law_stream (hr.mono (by decide)) rfl pass0 (pa_cons (pv 0) pa_nil)))
      (pss_cons (ps_set (i := 2) sc_law.nd rfl (Or.inl rfl) (pe_lst pa_nil))
      (pss_cons (ps_for PassesOwn.never rfl (pi_range1 rfl T.b_range (pa_cons (pe_cal c__law_next (hr.mono (by decide)) rfl pass0 (pa_cons (pv 1) (pa_cons pe_int pa_nil))) pa_nil)) (pg_name (i := 3) sc_law.nd rfl (Or.inl rfl)) (pss_one (ps_expr (k_bm (K := K) rfl PySem.F.plainAttrs_list PySem.F.slot_list_append PySem.F.type_list_append mt_append (pv 2) (pa_cons (pe_cal c__law_pick (hr.mono (by decide)) rfl pass0 (pa_cons (pv 1) (pa_cons (pe_lst (pa_cons pe_str (pa_cons pe_str (pa_cons pe_str (pa_cons pe_str (pa_cons pe_str (pa_cons pe_str (pa_cons pe_str (pa_cons pe_str (pa_cons pe_str (pa_cons pe_str (pa_cons pe_str (pa_cons pe_str (pa_cons pe_str (pa_cons (pe_op (k_addU (K := K) rfl) pe_str (pe_op op_mulT pe_str (pe_cal c__law_next (hr.mono (by decide)) rfl pass0 (pa_cons (pv 1) (pa_cons pe_int pa_nil))))) pa_nil))))))))))))))) pa_nil))) pa_nil)))))
      (pss_cons (ps_set (i := 4) sc_law.nd rfl (Or.inl rfl) pe_non)
      (pss_cons (ps_if (pt_cmpR (k_eq (K := K) rfl (rUnits hr)) (pe_cal c__law_next (hr.mono (by decide)) rfl pass0 (pa_cons (pv 1) (pa_cons pe_int pa_nil))) pe_int (nomark _)) (pss_cons (ps_set (i := 5) sc_law.nd rfl (Or.inl rfl) (pe_lst (pa_cons (pe_tupN (pa_cons pe_str (pa_cons pe_str pa_nil))) (pa_cons (pe_tupN (pa_cons pe_str (pa_cons pe_str pa_nil))) (pa_cons (pe_tupN (pa_cons pe_str (pa_cons pe_str pa_nil))) (pa_cons (pe_tupN (pa_cons pe_str (pa_cons pe_str pa_nil))) (pa_cons (pe_tupN (pa_cons pe_str (pa_cons pe_str pa_nil))) (pa_cons (pe_tupN (pa_cons pe_str (pa_cons pe_str pa_nil))) (pa_cons (pe_tupN (pa_cons pe_str (pa_cons pe_str pa_nil))) (pa_cons (pe_tupN (pa_cons pe_str (pa_cons pe_str pa_nil))) pa_nil))))))))))
      (pss_cons (ps_set (i := 6) sc_law.nd rfl (Or.inl rfl) (pe_cal c__law_next (hr.mono (by decide)) rfl pass0 (pa_cons (pv 1) (pa_cons (pe_op (k_add (K := K) rfl) (pe_callB (k_len (K := K) rfl) rfl T.b_len (by decide +kernel) (pa_cons (pv 2) pa_nil)) pe_int) pa_nil))))
      (pss_cons (ps_asg (pe_cal c__law_pick (hr.mono (by decide)) rfl pass0 (pa_cons (pv 1) (pa_cons (pv 5) pa_nil))) (k_tupA (K := K) (n := 2) rfl rfl (pgs_cons (pg_name (i := 7) sc_law.nd rfl (Or.inl rfl)) (pgs_cons (pg_name (i := 4) sc_law.nd rfl (Or.inl rfl)) pgs_nil))))
      (pss_cons (ps_set (i := 2) sc_law.nd rfl (Or.inl rfl) (pe_op (k_catS (K := K) rfl) (pe_op (k_catS (K := K) rfl) (pe_slice (k_slU (K := K) rfl) (pv 2) po_none (po_some (pv 6))) (pe_lst (pa_cons (pv 7) pa_nil))) (pe_slice (k_slU (K := K) rfl) (pv 2) (po_some (pv 6)) po_none)))
      (pss_one (ps_if (pt_cmpR (k_eq (K := K) rfl (rUnits hr)) (pe_cal c__law_next (hr.mono (by decide)) rfl pass0 (pa_cons (pv 1) (pa_cons pe_int pa_nil))) pe_int (nomark _)) (pss_one (ps_expr (k_bm (K := K) rfl PySem.F.plainAttrs_list PySem.F.slot_list_append PySem.F.type_list_append mt_append (pv 2) (pa_cons (pe_ix (k_ix (K := K) rfl) (pe_cal c__law_pick (hr.mono (by decide)) rfl pass0 (pa_cons (pv 1) (pa_cons (pv 5) pa_nil))) pe_int (fun _ _ => rfl)) pa_nil)))) pss_nil)))))) pss_nil)
      (pss_cons (ps_asg (pe_cal c__law_laid (hr.mono (by decide)) rfl pass0 (pa_cons (pv 1) (pa_cons (pv 2) pa_nil))) (k_tupA (K := K) (n := 2) rfl rfl (pgs_cons (pg_name (i := 8) sc_law.nd rfl (Or.inl rfl)) (pgs_cons (pg_name (i := 9) sc_law.nd rfl (Or.inr rfl)) pgs_nil))))
      (pss_cons (ps_if (pt_cmpR op_notN (pv 4) pe_non (nomark _)) (pss_one (ps_ret (pe_cal c__law_equal (hr.mono (by decide)) rfl pass0 (pa_cons (pe_cal c__law_told (hr.mono (by decide)) rfl pass0 (pa_cons (pv 8) pa_nil)) (pa_cons (pe_tupN (pa_cons (pe_ix (k_ix (K := K) rfl) (pv 9) (pv 6) (fun _ _ => rfl)) (pa_cons (pv 4) pa_nil))) pa_nil))))) pss_nil)
      (pss_cons (ps_setLc (i := 10) rfl sc_law.nd rfl rfl (sw_true rfl rfl rfl (by decide +kernel)) (k_enum (K := K) rfl rfl T.b_enumerate (pa_cons (pe_op (k_catS (K := K) rfl) (pv 2) (pe_lst (pa_cons pe_str pa_nil))) pa_nil)) (blkOk_by (own := [("k", 11), ("word", 7)]) (N := n_law) (sc := defScope s_law) (by decide +kernel)) (fun _ _ _ _ _ => by exact (k_tup (K := K) (n := 2) rfl rfl (pgs_cons (pg_name (i := 11) sc_law.nd rfl (Or.inl rfl)) (pgs_cons (pg_name (i := 7) sc_law.nd rfl (Or.inl rfl)) pgs_nil)))) (fun _ _ _ _ _ => by exact pts_nil) (fun _ _ _ _ _ => by exact (pe_tupN (pa_cons (pe_cal c__law_kind (hr.mono (by decide)) rfl pass0 (pa_cons (pv 7) pa_nil)) (pa_cons (pv 7) (pa_cons (pe_ix (k_ix (K := K) rfl) (pv 9) (pv 11) (fun _ _ => rfl)) pa_nil))))))
      (pss_cons (ps_if (pt_not (pt_val (pe_cal c__law_equal (hr.mono (by decide)) rfl pass0 (pa_cons (pe_lst (pa_cons (pe_cal c__law_told (hr.mono (by decide)) rfl pass0 (pa_cons (pv 8) pa_nil)) (pa_cons (pe_cal c__law_told (hr.mono (by decide)) rfl pass0 (pa_cons (pv 8) pa_nil)) pa_nil))) (pa_cons (pe_lst (pa_cons (pv 10) (pa_cons (pv 10) pa_nil))) pa_nil))))) (pss_one (ps_ret pe_bl)) pss_nil)
      (pss_cons (ps_set (i := 12) sc_law.nd rfl (Or.inl rfl) (pe_op op_mulT pe_str (pe_op op_sub pe_int (pe_callB (k_lenU (K := K) rfl) rfl T.b_len (by decide +kernel) (pa_cons (pv 8) pa_nil)))))
      (pss_cons (ps_set (i := 13) sc_law.nd rfl (Or.inl rfl) (pe_cal c__law_pick (hr.mono (by decide)) rfl pass0 (pa_cons (pv 1) (pa_cons (pe_lst (pa_cons pe_non (pa_cons (pe_lst (pa_cons (pv 8) pa_nil)) (pa_cons (pe_op (k_addU (K := K) rfl) (pv 8) pe_str) (pa_cons pe_str (pa_cons (pe_op (k_addU (K := K) rfl) (pe_op (k_addU (K := K) rfl) (pv 12) (pv 8)) pe_str) (pa_cons pe_int pa_nil))))))) pa_nil))))
      (pss_one (ps_ret (pe_and (pe_cmpR (k_eq (K := K) rfl (rUnits hr)) (pe_cal c__law_told (hr.mono (by decide)) rfl pass0 (pa_cons (pv 13) pa_nil)) pe_str (nomark _)) (pe_one (pe_callB (k_isi (K := K) rfl) rfl T.b_isinstance (by decide +kernel) (pa_cons (pe_cal c__law_told (hr.mono (by decide)) rfl pass0 (pa_cons (pe_op (k_addU (K := K) rfl) (pv 12) (pv 8)) pa_nil)) (pa_cons (pe_ty (n := "list") rfl T.b_list (by decide +kernel)) pa_nil)))))))))))))))))), run_law (N := n_law) (by decide) (fun st l => ?_) h⟩)
  refine q_asgO (d := .list (([] : List (List Nat)).map wS)) (d_lst (kv := false) (ds := []) a_nil rfl (by decide)) ?_
  refine q_forRN (Q := fun m => 0 ≤ m ∧ m < 17) (n_call (st := st) (l := l) rfl rfl (a_cons d_int a_nil) ⟨17, rfl, by decide, by decide, rfl, rfl⟩) fun m hm => ?_
  obtain ⟨m, rfl⟩ := Int.eq_ofNat_of_zero_le hm.1
  have m17 : m < 17 := by omega
  have flW : ∀ W : List (List Nat), flatAll (W.map wS) = true := fun W => by
    induction W with
    | nil => rfl
    | cons w W ih => exact ih
  refine q_for (i_rng1' (m := m) (a_consV d_int a_nil) (by omega) (by omega) (by simp)) (fun n Γ1 => ∃ (W : List (List Nat)) (t3 : Option Rs), (∀ w ∈ W, GoodW w) ∧ W.length = n ∧ bareB [t3] = true ∧ Γ1 = [none, some (.r (.ref st)), some (.o (.list (W.map wS))), t3, none, none, none, none, none, none, none, none, none, none]) ⟨[], none, by simp, rfl, rfl, rfl⟩ (fun n a Γ1 hn' hI => ?_) (fun Γ1 hI => ?_)
  · obtain ⟨W, t3, hW, lW, b3, rfl⟩ := hI
    obtain ⟨hn, rfl⟩ := upI_at hn'
    refine ⟨_, _, g_name, ?_⟩
    refine s_appN (Pd := fun d => ∃ w, d = wS w ∧ GoodW w) rfl ((n_pickN (st := st) (l := l) rfl rfl (n_lstVN (an_consD d_str (an_consD d_str (an_consD d_str (an_consD d_str (an_consD d_str (an_consD d_str (an_consD d_str (an_consD d_str (an_consD d_str (an_consD d_str (an_consD d_str (an_consD d_str (an_consD d_str (an_cons (n_addS (Qa := fun s => s = strN [98]) (Qb := fun s => ∃ j : Nat, j ≤ 11 ∧ s = strN (List.replicate j 95)) (Q := fun s => ∃ j : Nat, j ≤ 11 ∧ s = strN (98 :: List.replicate j 95)) (Ev.n (d_str (s := Str.ofString "b")) |>.imp fun d hd => ⟨_, hd, rfl⟩) (n_mulS (s := ⟨#[95]⟩) (Qb := fun n => 0 ≤ n ∧ n < 12) d_str (n_call (st := st) (l := l) rfl rfl (a_cons d_int a_nil) ⟨12, rfl, by decide, by decide, rfl, rfl⟩) fun n hn => ?_) fun s t hs ht => ?_) an_nil)))))))))))))) (fun ds h => by obtain ⟨_, _, rfl, _, _, _, rfl, _, _, _, rfl, _, _, _, rfl, _, _, _, rfl, _, _, _, rfl, _, _, _, rfl, _, _, _, rfl, _, _, _, rfl, _, _, _, rfl, _, _, _, rfl, _, _, _, rfl, _, _, _, rfl, _, _, _, rfl, _, rfl⟩ := h; simp)) (fun ds h => by obtain ⟨_, _, rfl, _, _, _, rfl, _, _, _, rfl, _, _, _, rfl, _, _, _, rfl, _, _, _, rfl, _, _, _, rfl, _, _, _, rfl, _, _, _, rfl, _, _, _, rfl, _, _, _, rfl, _, _, _, rfl, _, _, _, rfl, _, _, _, rfl, _, rfl⟩ := h; simp)).imp fun d hd => ?_) (fun d hd => by obtain ⟨w, rfl, _⟩ := hd; rfl) (by rw [List.length_map]; omega) (fun d hd => ?_)
    · obtain ⟨j, rfl⟩ := Int.eq_ofNat_of_zero_le hn.1
      exact ⟨by omega, by omega, by decide, j, by omega, mul_one 95 j⟩
    · obtain ⟨j, hj, rfl⟩ := ht
      subst hs
      exact ⟨by rw [strN_len, strN_len, List.length_replicate]; simp; omega, j, hj, strN_app _ _⟩
    · obtain ⟨ds, h, hd⟩ := hd
      obtain ⟨_, _, rfl, rfl, _, _, rfl, rfl, _, _, rfl, rfl, _, _, rfl, rfl, _, _, rfl, rfl, _, _, rfl, rfl, _, _, rfl, rfl, _, _, rfl, rfl, _, _, rfl, rfl, _, _, rfl, rfl, _, _, rfl, rfl, _, _, rfl, rfl, _, _, rfl, rfl, _, _, rfl, ⟨_, rfl, j, hj, rfl⟩, rfl⟩ := h
      have hd : d ∈ (word0 j).map wS := hd
      obtain ⟨w, hw, rfl⟩ := List.mem_map.mp hd
      exact ⟨w, rfl, word_good hj w hw⟩
    · obtain ⟨w, rfl, gw⟩ := hd
      exact .inl ⟨_, .inl rfl, W ++ [w], some (.v (.int (n : Int))), fun x hx => by
        rcases List.mem_append.mp hx with q | q
        · exact hW x q
        · rw [List.mem_singleton.mp q]; exact gw, by simp [lW], rfl, by rw [List.map_append]; rfl⟩
  obtain ⟨W, t3, hW, lW, b3, rfl⟩ := hI
  rw [List.length_map] at lW
  have lW : W.length ≤ 16 := by rw [lW]; simp [upI]; omega
  refine q_asg (d := .none) d_non ?_
  refine s_seqE (fun Γ1 => ∃ (W : List (List Nat)) (pr : PyData) (t2 t3 t5 t6 t7 : Option Rs), Γ1 = [none, some (.r (.ref st)), t2, t3, some (.v pr), t5, t6, t7, none, none, none, none, none, none] ∧ (bareB [t3] = true ∧ bareB [t5] = true ∧ bareB [t6] = true ∧ bareB [t7] = true) ∧ (t2 = some (.v (.list (W.map wS))) ∨ t2 = some (.w (W.map wS)) ∨ t2 = some (.o (.list (W.map wS)))) ∧ W.length ≤ 18 ∧ (∀ w ∈ W, w ≠ [] ∧ w.length ≤ 13 ∧ 10 ∉ w) ∧ ((pr = .none ∧ ∀ w ∈ W, GoodW w) ∨ ∃ (W1 W2 : List (List Nat)) (p : List Nat × String), W = W1 ++ p.1 :: W2 ∧ (∀ w ∈ W1, GoodW w) ∧ BadW p.1 p.2 ∧ pr = .str (Str.ofString p.2) ∧ t6 = some (.v (.int (W1.length : Int))))) ?_ ?_
  · refine s_ifN (tn_eq (n_call (st := st) (l := l) rfl rfl (a_cons d_int a_nil) ⟨2, rfl, by decide, by decide, rfl, rfl⟩) (d_int.sm (Q := fun m => m = 1) rfl)) ?_ (s_next ⟨_, rfl, W, .none, _, _, _, _, _, rfl, ⟨b3, rfl, rfl, rfl⟩, .inr (.inr rfl), by omega, fun w hw => by
      obtain ⟨g1, g2, g3⟩ := good_le (hW w hw)
      exact ⟨g1, by omega, g3⟩, .inl ⟨rfl, hW⟩⟩)
    refine s_freeze (n := 2) rfl ?_
    refine q_asg (d := .list (str91.map strD)) (Ev.to (e_lstV (a_consV (d_tup (a_consV d_str (a_consV d_str a_nil)) (by simp)) (a_consV (d_tup (a_consV d_str (a_consV d_str a_nil)) (by simp)) (a_consV (d_tup (a_consV d_str (a_consV d_str a_nil)) (by simp)) (a_consV (d_tup (a_consV d_str (a_consV d_str a_nil)) (by simp)) (a_consV (d_tup (a_consV d_str (a_consV d_str a_nil)) (by simp)) (a_consV (d_tup (a_consV d_str (a_consV d_str a_nil)) (by simp)) (a_consV (d_tup (a_consV d_str (a_consV d_str a_nil)) (by simp)) (a_consV (d_tup (a_consV d_str (a_consV d_str a_nil)) (by simp)) a_nil)))))))) (by simp)) rfl) ?_
    refine q_asgN (SomeI fun i => 0 ≤ i ∧ i < (W.length : Int) + 1) (n_call (st := st) (l := l) rfl rfl (a_cons (Ev.to (e_add (d_lenL (d_var rfl)) d_int) (y := .int ((W.length : Int) + 1)) (by rw [List.length_map])) a_nil) ⟨(W.length : Int) + 1, rfl, by omega, by omega, rfl, rfl⟩) ?_
    rintro d ⟨a0, rfl, a1, a2⟩
    obtain ⟨a, rfl⟩ := Int.eq_ofNat_of_zero_le a1
    have al : a ≤ W.length := by omega
    have pick : ∀ {Γ : List (Option Rs)}, Γ[1]? = some (some (.r (.ref st))) → Γ[5]? = some (some (.v (.list (str91.map strD)))) → EvN (sc K st l) (tCall (sp__law_pick K) [] E0 (tCons (tVar 1) (tCons (tVar 5) tNil))) Γ .v (fun d => ∃ p, p ∈ str91 ∧ d = strD p) := fun h1 h5 => (n_pick (st := st) (l := l) rfl h1 h5 (by decide) (by decide)).imp fun d hd => by
      obtain ⟨p, hp, rfl⟩ := List.mem_map.mp hd
      exact ⟨p, hp, rfl⟩
    refine q_unp (fun d => ∃ p, p ∈ str91 ∧ d = strD p) (pick rfl rfl) ?_
    rintro _ ⟨p, hp, rfl⟩
    refine ⟨_, _, _, .inl rfl, rfl, rfl, g_cons g_name (g_cons g_name g_nil), ?_⟩
    have lT : (W.take a).length = a := by rw [List.length_take]; omega
    have eW : W.take a ++ p.1 :: W.drop a = W.take a ++ [p.1] ++ W.drop a := by simp
    have wl : (W.take a ++ p.1 :: W.drop a).length = W.length + 1 := by simp; omega
    have bad := str_bad p hp
    have hp3 := str_le p hp
    have l13 : ∀ q ∈ str91, q.1.length ≤ 13 := by decide
    have okW : ∀ w ∈ W.take a ++ p.1 :: W.drop a, w ≠ [] ∧ w.length ≤ 13 ∧ 10 ∉ w := fun w hw => by
      rcases List.mem_append.mp hw with q | q
      · obtain ⟨g1, g2, g3⟩ := good_le (hW w (List.mem_of_mem_take q)); exact ⟨g1, by omega, g3⟩
      · rcases List.mem_cons.mp q with q | q
        · rw [q]; exact ⟨hp3.1, l13 p hp, hp3.2.2⟩
        · obtain ⟨g1, g2, g3⟩ := good_le (hW w (List.mem_of_mem_drop q)); exact ⟨g1, by omega, g3⟩
    refine q_asgW (ds := (W.take a ++ p.1 :: W.drop a).map wS) (EvW.to09 (w_cat (e_catS (e_slLV (d_var rfl) o_none (o_some (d_var rfl))) (e_lstV (ds := [wS p.1]) (a_consV (d_var rfl) a_nil) (by simp)) (by rw [cutD_hi (by rw [List.length_map]; omega)]; simp; omega)) (e_slLV (d_var rfl) (o_some (d_var rfl)) o_none) (by rw [cutD_hi (by rw [List.length_map]; omega), cutD_lo (by rw [List.length_map]; omega)]; simp; omega)) (by rw [cutD_hi (by rw [List.length_map]; omega), cutD_lo (by rw [List.length_map]; omega), eW, List.map_append, List.map_append, List.map_take, List.map_drop]; rfl)) ?_
    refine s_ifN (tn_eq (n_call (st := st) (l := l) rfl rfl (a_cons d_int a_nil) ⟨2, rfl, by decide, by decide, rfl, rfl⟩) (d_int.sm (Q := fun m => m = 1) rfl)) (s_appWN (Pe := fun d => ∃ q, q ∈ str91 ∧ d = wS q.1) rfl ((n_fst (Q := fun s => ∃ q, q ∈ str91 ∧ s = strN q.1) ((pick rfl rfl).imp fun d hd => by
      obtain ⟨q, hq, rfl⟩ := hd
      exact ⟨_, _, rfl, q, hq, rfl⟩)).imp fun d hd => by
        obtain ⟨_, rfl, q, hq, rfl⟩ := hd
        exact ⟨q, hq, rfl⟩) (by rw [List.length_map, wl]; omega) (fun d hd => ?_)) (s_next ?_)
    · obtain ⟨q, hq, rfl⟩ := hd
      refine ⟨_, rfl, W.take a ++ p.1 :: (W.drop a ++ [q.1]), .str (Str.ofString p.2), _, _, _, _, _, rfl, ⟨b3, rfl, rfl, rfl⟩, .inr (.inl ?_), by simp; omega, fun w hw => ?_, .inr ⟨W.take a, W.drop a ++ [q.1], p, rfl, fun w hw => hW w (List.mem_of_mem_take hw), bad, rfl, by rw [lT]⟩⟩
      · rw [show W.take a ++ p.1 :: (W.drop a ++ [q.1]) = (W.take a ++ p.1 :: W.drop a) ++ [q.1] by simp, List.map_append (l₂ := [q.1])]; rfl
      · rw [show W.take a ++ p.1 :: (W.drop a ++ [q.1]) = (W.take a ++ p.1 :: W.drop a) ++ [q.1] by simp] at hw
        rcases List.mem_append.mp hw with z | z
        · exact okW w z
        · rw [List.mem_singleton.mp z]; exact ⟨(str_le q hq).1, l13 q hq, (str_le q hq).2.2⟩
    · exact ⟨_, rfl, W.take a ++ p.1 :: W.drop a, .str (Str.ofString p.2), _, _, _, _, _, rfl, ⟨b3, rfl, rfl, rfl⟩, .inr (.inl rfl), by omega, okW, .inr ⟨W.take a, W.drop a, p, rfl, fun w hw => hW w (List.mem_of_mem_take hw), bad, rfl, by rw [lT]⟩⟩
  rintro Γ1 ⟨W, pr, t2, t3, t5, t6, t7, rfl, ⟨b3, b5, b6, b7⟩, h2, lW, okW, hp⟩
  refine s_frz3 (n := 2) rfl h2 ?_
  refine q_unpV (fun d => ∃ G e, Laid W G ∧ e ≤ 2 ∧ d = laidD G e) (bare_cons rfl (bare_cons rfl (bare_cons rfl (bare_cons b3 (bare_cons rfl (bare_cons b5 (bare_cons b6 (bare_cons b7 rfl)))))))) (n_call (st := st) (l := l) rfl rfl (a_cons (d_var rfl) a_nil) ⟨W, rfl, by omega, fun w hw => ⟨(okW w hw).1, by have := (okW w hw).2.1; omega⟩, rfl, rfl⟩) ?_
  rintro _ ⟨G, e, hG, he, rfl⟩
  refine ⟨_, _, _, rfl, rfl, g_cons g_name (g_cons g_name g_nil), ?_⟩
  obtain ⟨T, eT⟩ : ∃ T, T = layL G ++ List.replicate e 32 := ⟨_, rfl⟩
  have gl : G.length = W.length := by have := congrArg List.length hG.w; rwa [List.length_map] at this
  have inW : ∀ p ∈ G, p.2 ∈ W := fun p hp => by rw [← hG.w]; exact List.mem_map_of_mem hp
  have ll := lay_leB (b := 13) hG.g fun p hp => (okW _ (inW p hp)).2.1
  have lT : T.length ≤ 290 := by rw [eT, List.length_append, List.length_replicate]; omega
  have nT : 10 ∉ T := by
    rw [eT]
    intro m
    rcases List.mem_append.mp m with q | q
    · exact lay_no (fun p hp => (okW _ (inW p hp)).2.2) q
    · have := List.eq_of_mem_replicate q; omega
  have tok := txt_ok (L := T) (by omega) nT
  rw [← eT]
  rcases hp with ⟨rfl, gW⟩ | ⟨W1, W2, p, eW, g1, bad, rfl, rfl⟩
  rotate_left
  · refine q_if (a := true) (EvT.to (t_test (d_notN (d_var rfl))) rfl) (fun _ => ?_) fun e => nomatch e
    obtain ⟨G1, g, G2, eG, e1, e2⟩ := laid_split (hG.w.trans eW)
    have sc : scn (sgL (strN T)) (strN T).length 0 = .error ((layL G1).length + g + 1, p.2) := by
      rw [sg_strN, strN_len]
      have := scn_err (L := T) (t := List.replicate e 32) (g := g) (G2 := G2) bad (blanks_no e) G1 0 T.length (fun q hq => g1 q.2 (by rw [← e1]; exact List.mem_map_of_mem hq)) (fun q hq => (okW q.2 (inW q (by rw [eG]; simp [hq]))).1) (by rw [← eG]; exact hG.gaps) (by rw [List.drop_zero, eT, eG]) (by omega)
      rwa [Nat.zero_add] at this
    have ix : atI ((plc 0 G ++ [(layL G).length + e + 1]).map fun (n : Nat) => PyData.int (n : Int)) (W1.length : Int) = some (.int (((layL G1).length + g + 1 : Nat) : Int)) := by
      refine atI_nat ?_
      have l1 : W1.length = G1.length := by rw [← e1, List.length_map]
      rw [List.getElem?_map, l1]
      have := plc_at (g, p.1) G2 [(layL G).length + e + 1] G1 0
      rw [← eG] at this
      rw [this, Nat.zero_add]
      rfl
    have eq1 : EqOk 7 (.tuple [.int (((layL G1).length + g + 1 : Nat) : Int), .str (Str.ofString p.2)]) := .tup (by simp) fun x hx => by
      simp only [List.mem_cons, List.not_mem_nil, or_false] at hx
      rcases hx with rfl | rfl
      · exact .int _
      · exact .str _
    exact q_ret (d_call (E := E0) (k := .v) (d := .bool true) (a_cons (d_call (k := .v) (d := .tuple [.int (((layL G1).length + g + 1 : Nat) : Int), .str (Str.ofString p.2)]) (a_cons (d_var rfl) a_nil) ⟨_, rfl, .inr (.inl ⟨strN T, _, rfl, tok, sc, rfl, rfl⟩)⟩) (a_cons (d_tup (a_consV (e_ixLv (d_var rfl) (d_var rfl) ix) (a_consV (d_var rfl) a_nil)) (by simp)) a_nil)) ⟨_, rfl, eq1, rfl, rfl⟩) (.inr ⟨rfl, rfl⟩) rfl
  refine q_no (EvT.to (t_test (d_notN (d_var rfl))) rfl) ?_
  have gG : ∀ p ∈ G, GoodW p.2 := fun p hp => gW _ (inW p hp)
  have hsc : scn (sgL (strN T)) (strN T).length 0 = .ok (toksL 0 G) := by
    rw [sg_strN, strN_len]
    exact scn_ok (L := T) (e := e) G 0 T.length gG hG.gaps (by rw [List.drop_zero, eT]) (by omega) (by omega)
  obtain ⟨D, eD⟩ : ∃ D, D = toksL 0 G ++ [("end", [], T.length + 1)] := ⟨_, rfl⟩
  have lD : D.length = W.length + 1 := by rw [eD, List.length_append, toks_len, gl]; rfl
  have lt : T.length = (layL G).length + e := by rw [eT, List.length_append, List.length_replicate]
  have told : ∀ {Γ : List (Option Rs)}, Γ[8]? = some (some (.v (.str (strN T)))) → Ev (sc K st l) (tCall (sp__law_told91 K) [] E0 (tCons (tVar 8) tNil)) Γ .v (.list (D.map tokD)) := fun h => Ev.frz (d_call (k := .o) (a_cons (d_var h) a_nil) ⟨_, rfl, .inl ⟨strN T, toksL 0 G, rfl, tok, hsc, rfl, by rw [eD, List.map_append, strN_len]; rfl⟩⟩)
  have row : ∀ i, i < W.length + 1 → ∃ w n, (W ++ [[]])[i]? = some w ∧ (plc 0 G ++ [(layL G).length + e + 1])[i]? = some n ∧ D[i]? = some (kindW w, w, n) ∧ w.length ≤ 13 := fun i hi => by
    by_cases q : i < W.length
    · obtain ⟨w, n, h1, h2, h3⟩ := toks_at [(layL G).length + e + 1] G 0 i (by omega)
      rw [hG.w] at h1
      refine ⟨w, n, by rw [List.getElem?_append_left q]; exact h1, h2, by rw [eD, List.getElem?_append_left (by rw [toks_len]; omega)]; exact h3, (okW w (List.mem_of_getElem? h1)).2.1⟩
    · obtain rfl : i = W.length := by omega
      refine ⟨[], (layL G).length + e + 1, by simp, by rw [List.getElem?_append_right (by rw [plc_len]; omega), plc_len, gl]; simp, ?_, by simp⟩
      rw [eD, List.getElem?_append_right (by rw [toks_len]; omega), toks_len, gl, lt]
      simp [kindW]
  refine q_asgO (d := .list (D.map tokD)) (Ev.to (d_lcA (l := List.range (W.length + 1)) (en := fun i => Im.t [.d (.int (i : Nat)), .d (wS ((W ++ [[]]).getD i []))]) (fun i => tokD (D.getD i ("", [], 0))) (i_enumL' (ds := (W ++ [[]]).map wS) (Ev.to (e_catS (d_var rfl) (e_lstV (ds := [wS []]) (a_consV d_str a_nil) (by simp)) (by rw [List.length_map]; simp; omega)) (by rw [List.map_append]; rfl)) kv_ne (by
    unfold enumI
    refine List.ext_getElem (by simp) fun i h1 h2 => ?_
    have : i < (W ++ [[]]).length := by simpa using h2
    simp only [List.getElem_map, List.getElem_zipIdx, List.getElem_range, List.getD_eq_getElem?_getD, List.getElem?_eq_getElem this]
    simp)) (by simp; omega) fun i hi => ?_) ?_) ?_
  · obtain ⟨w, n, h1, h2, h3, h4⟩ := row i (List.mem_range.mp hi)
    have e1 : (W ++ [[]]).getD i [] = w := by rw [List.getD_eq_getElem?_getD, h1]; rfl
    have e2 : D.getD i ("", [], 0) = (kindW w, w, n) := by rw [List.getD_eq_getElem?_getD, h3]; rfl
    rw [e1, e2]
    exact ⟨_, _, g_tup rfl (g_cons g_name (g_cons g_name g_nil)), fun j hj => hj, (Ev.to (d_tup (a_consV (d_call (k := .v) (d := .str (Str.ofString (kindW w))) (a_cons (d_var rfl) a_nil) ⟨w, rfl, by omega, rfl, rfl⟩) (a_consV (d_var rfl) (a_consV (e_ixLv (d := .int (n : Int)) (d_var rfl) (d_var rfl) (atI_nat (by rw [List.getElem?_map, h2]; rfl))) a_nil))) (by simp)) (y := tokD (kindW w, w, n)) rfl).fo (flatTok _)⟩
  · congr 1
    refine List.ext_getElem? fun i => ?_
    rw [List.getElem?_map, List.getElem?_map]
    by_cases q : i < W.length + 1
    · rw [List.getElem?_range q, List.getElem?_eq_getElem (by omega)]
      simp [List.getD_eq_getElem?_getD, List.getElem?_eq_getElem (show i < D.length by omega)]
    · rw [List.getElem?_eq_none (by simp; omega), List.getElem?_eq_none (by omega)]
      rfl
  refine s_freeze (n := 10) rfl ?_
  refine q_no (EvT.to (t_not (t_B (d_call (E := E0) (k := .v) (d := .bool true) (a_cons (e_lstV (ds := [.list (D.map tokD), .list (D.map tokD)]) (a_consV (told rfl) (a_consV (told rfl) a_nil)) (by simp)) (a_cons (e_lstV (ds := [.list (D.map tokD), .list (D.map tokD)]) (a_consV (d_var rfl) (a_consV (d_var rfl) a_nil)) (by simp)) a_nil)) ⟨_, rfl, eq_toks (by omega), rfl, rfl⟩))) rfl) ?_
  obtain ⟨b, eb⟩ : ∃ b : Nat, b = 400 - T.length := ⟨_, rfl⟩
  refine q_asg (d := .str (strN (List.replicate b 32))) (Ev.to (e_mulS (a := ⟨#[32]⟩) (i := (b : Int)) d_str (Ev.to (d_sub d_int (e_lenS (d_var rfl) (by rw [strN_len]; omega))) (by rw [strN_len, eb]; congr 1; omega)) (by omega) (by omega) (by decide)) (by rw [mul_one])) ?_
  have lb : ∀ L : List Nat, L.length ≤ 1000 → (strN L).length ≤ 1000 := fun L h => by rw [strN_len]; exact h
  have l2 : ∀ A B : List Nat, A.length ≤ 1000 → B.length ≤ 1000 → (strN A).length + (strN B).length ≤ 100000 := fun A B h1 h2 => by rw [strN_len, strN_len]; omega
  have rb : (List.replicate b 32).length = b := List.length_replicate
  refine q_asgN (fun d => (∀ z : Str, d = .str z → z.length ≤ 100000) ∧ txtB d = false) ((n_pickN (st := st) (l := l) (Pd := fun ds => ds = [PyData.none, .list [.str (strN T)], .str (strN (T ++ [10])), .str (strN [10]), .str (strN (List.replicate b 32 ++ T ++ [32])), .int 7]) rfl rfl ((Ev.n (e_lstV (ds := [PyData.none, .list [.str (strN T)], .str (strN (T ++ [10])), .str (strN [10]), .str (strN (List.replicate b 32 ++ T ++ [32])), .int 7]) (a_consV d_non (a_consV (e_lstV (a_consV (d_var rfl) a_nil) (by simp)) (a_consV (Ev.to (e_addS (b := strN [10]) (d_var rfl) d_str (l2 T [10] (by omega) (by simp))) (by rw [strN_app])) (a_consV d_str (a_consV (Ev.to (e_addS (b := strN [32]) (Ev.to (e_addS (d_var rfl) (d_var rfl) (l2 _ T (by omega) (by omega))) (y := .str (strN (List.replicate b 32 ++ T))) (by rw [strN_app])) d_str (l2 _ [32] (by rw [List.length_append]; omega) (by simp))) (by rw [strN_app])) (a_consV d_int a_nil)))))) (by simp))).imp fun d hd => ⟨_, hd, rfl⟩) (fun ds h => by rw [h]; simp)).imp fun d hd => ?_) ?_
  · obtain ⟨_, rfl, hd⟩ := hd
    simp only [List.mem_cons, List.not_mem_nil, or_false] at hd
    rcases hd with rfl | rfl | rfl | rfl | rfl | rfl
    · exact ⟨fun z w => (by cases w), rfl⟩
    · exact ⟨fun z w => (by cases w), rfl⟩
    · exact ⟨fun z w => by cases w; rw [strN_len, List.length_append]; simp; omega, txt_nl (by simp)⟩
    · exact ⟨fun z w => by cases w; rw [strN_len]; simp, txt_nl (by simp)⟩
    · exact ⟨fun z w => by cases w; rw [strN_len, List.length_append, List.length_append]; simp; omega, txt_long (by rw [List.length_append, List.length_append, rb]; simp; omega)⟩
    · exact ⟨fun z w => (by cases w), rfl⟩
  rintro d ⟨h1, h2⟩
  have l4 : (List.replicate b 32 ++ T).length = 400 := by rw [List.length_append, rb]; omega
  have tokb := txt_ok (L := List.replicate b 32 ++ T) (by omega) (fun m => by
    rcases List.mem_append.mp m with q | q
    · have := List.eq_of_mem_replicate q; omega
    · exact nT q)
  have scb : scn (sgL (strN (List.replicate b 32 ++ T))) (strN (List.replicate b 32 ++ T)).length 0 = .ok (toksL b G) := by
    rw [sg_strN, strN_len, l4, show 400 = b + T.length by omega, scn_blanks (r := T) b T.length 0 (by rw [List.drop_zero]), Nat.zero_add]
    exact scn_ok (e := e) G b T.length gG hG.gaps (by
      have : (List.replicate b 32 ++ T).drop (0 + b) = T := drop_on (A := List.replicate b 32) (by rw [List.drop_zero]) rb
      rw [Nat.zero_add] at this
      rw [this, eT]) (by omega) (by omega)
  exact s_ret (Ev.to (d_andV (a := true) (b := true) (e_eqS (v := .str (Str.ofString "text")) (w := .str (Str.ofString "text")) (d_call (E := E0) (k := .v) (d := .str (Str.ofString "text")) (a_cons (d_var rfl) a_nil) ⟨d, rfl, .inr (.inr ⟨h1, h2, rfl, rfl⟩)⟩) d_str rfl rfl rfl (decide_eq_true rfl)) fun _ => Ev.to (e_isi (n := "list") (d_call (E := E0) (k := .o) (d := .list ((toksL b G).map tokD ++ [tokD ("end", [], (strN (List.replicate b 32 ++ T)).length + 1)])) (a_cons (Ev.to (e_addS (d_var rfl) (d_var rfl) (l2 _ T (by omega) (by omega))) (y := .str (strN (List.replicate b 32 ++ T))) (by rw [strN_app])) a_nil) ⟨_, rfl, .inl ⟨_, _, rfl, tokb, scb, rfl, rfl⟩⟩) (kit_list _)) rfl) rfl) (.inr ⟨rfl, rfl⟩) rfl

end W

namespace W
open PySem PySem.Spec PyProof.Rows L2 Lm
theorem all_mk {l : PySem.W.OpenLaw} {w : World} {K : PySem.W.Frag} {h : Heap} {mg : Str → Option Value} {fa : Addr} (X : K.In h) (G : h.Ns mainGlobals mg) (hfa : mg "law" = some (.ref fa))
    {od_require an_require : Option Addr} {sl_require : Array (Option Value)} {oc_require kV_require dc_require pm_require cd_require ct_require : Value} {f_require : Addr}
    (a_require : PySem.W.nsIn K mainGlobals "require" = some (some (.ref f_require))) (l_require : K.lookup f_require = some ⟨oc_require, od_require, .func (PySem.W.fnOf "require" "require" (defArgs s_require) (defBody s_require) (defScope s_require) .none kV_require dc_require pm_require an_require cd_require ct_require), sl_require⟩) (o_require : PySem.W.codeIn K cd_require "require" = true) (k_require : PySem.W.keepIn K (.ref f_require) = true)
    {od_check_text an_check_text : Option Addr} {sl_check_text : Array (Option Value)} {oc_check_text kV_check_text dc_check_text pm_check_text cd_check_text ct_check_text : Value} {f_check_text : Addr}
    (a_check_text : PySem.W.nsIn K mainGlobals "check_text" = some (some (.ref f_check_text))) (l_check_text : K.lookup f_check_text = some ⟨oc_check_text, od_check_text, .func (PySem.W.fnOf "check_text" "check_text" (defArgs s_check_text) (defBody s_check_text) (defScope s_check_text) .none kV_check_text dc_check_text pm_check_text an_check_text cd_check_text ct_check_text), sl_check_text⟩) (o_check_text : PySem.W.codeIn K cd_check_text "check_text" = true) (k_check_text : PySem.W.keepIn K (.ref f_check_text) = true)
    {od_run_at an_run_at : Option Addr} {sl_run_at : Array (Option Value)} {oc_run_at kV_run_at dc_run_at pm_run_at cd_run_at ct_run_at : Value} {f_run_at : Addr}
    (a_run_at : PySem.W.nsIn K mainGlobals "run_at" = some (some (.ref f_run_at))) (l_run_at : K.lookup f_run_at = some ⟨oc_run_at, od_run_at, .func (PySem.W.fnOf "run_at" "run_at" (defArgs s_run_at) (defBody s_run_at) (defScope s_run_at) .none kV_run_at dc_run_at pm_run_at an_run_at cd_run_at ct_run_at), sl_run_at⟩) (o_run_at : PySem.W.codeIn K cd_run_at "run_at" = true) (k_run_at : PySem.W.keepIn K (.ref f_run_at) = true)
    {od_name_at an_name_at : Option Addr} {sl_name_at : Array (Option Value)} {oc_name_at kV_name_at dc_name_at pm_name_at cd_name_at ct_name_at : Value} {f_name_at : Addr}
    (a_name_at : PySem.W.nsIn K mainGlobals "name_at" = some (some (.ref f_name_at))) (l_name_at : K.lookup f_name_at = some ⟨oc_name_at, od_name_at, .func (PySem.W.fnOf "name_at" "name_at" (defArgs s_name_at) (defBody s_name_at) (defScope s_name_at) .none kV_name_at dc_name_at pm_name_at an_name_at cd_name_at ct_name_at), sl_name_at⟩) (o_name_at : PySem.W.codeIn K cd_name_at "name_at" = true) (k_name_at : PySem.W.keepIn K (.ref f_name_at) = true)
    {od_number_at an_number_at : Option Addr} {sl_number_at : Array (Option Value)} {oc_number_at kV_number_at dc_number_at pm_number_at cd_number_at ct_number_at : Value} {f_number_at : Addr}
    (a_number_at : PySem.W.nsIn K mainGlobals "number_at" = some (some (.ref f_number_at))) (l_number_at : K.lookup f_number_at = some ⟨oc_number_at, od_number_at, .func (PySem.W.fnOf "number_at" "number_at" (defArgs s_number_at) (defBody s_number_at) (defScope s_number_at) .none kV_number_at dc_number_at pm_number_at an_number_at cd_number_at ct_number_at), sl_number_at⟩) (o_number_at : PySem.W.codeIn K cd_number_at "number_at" = true) (k_number_at : PySem.W.keepIn K (.ref f_number_at) = true)
    {od_token_at an_token_at : Option Addr} {sl_token_at : Array (Option Value)} {oc_token_at kV_token_at dc_token_at pm_token_at cd_token_at ct_token_at : Value} {f_token_at : Addr}
    (a_token_at : PySem.W.nsIn K mainGlobals "token_at" = some (some (.ref f_token_at))) (l_token_at : K.lookup f_token_at = some ⟨oc_token_at, od_token_at, .func (PySem.W.fnOf "token_at" "token_at" (defArgs s_token_at) (defBody s_token_at) (defScope s_token_at) .none kV_token_at dc_token_at pm_token_at an_token_at cd_token_at ct_token_at), sl_token_at⟩) (o_token_at : PySem.W.codeIn K cd_token_at "token_at" = true) (k_token_at : PySem.W.keepIn K (.ref f_token_at) = true)
    {od_scan an_scan : Option Addr} {sl_scan : Array (Option Value)} {oc_scan kV_scan dc_scan pm_scan cd_scan ct_scan : Value} {f_scan : Addr}
    (a_scan : PySem.W.nsIn K mainGlobals "scan" = some (some (.ref f_scan))) (l_scan : K.lookup f_scan = some ⟨oc_scan, od_scan, .func (PySem.W.fnOf "scan" "scan" (defArgs s_scan) (defBody s_scan) (defScope s_scan) .none kV_scan dc_scan pm_scan an_scan cd_scan ct_scan), sl_scan⟩) (o_scan : PySem.W.codeIn K cd_scan "scan" = true) (k_scan : PySem.W.keepIn K (.ref f_scan) = true)
    {od__law_stream an__law_stream : Option Addr} {sl__law_stream : Array (Option Value)} {oc__law_stream kV__law_stream dc__law_stream pm__law_stream cd__law_stream ct__law_stream : Value} {f__law_stream : Addr}
    (a__law_stream : PySem.W.nsIn K mainGlobals "_law_stream" = some (some (.ref f__law_stream))) (l__law_stream : K.lookup f__law_stream = some ⟨oc__law_stream, od__law_stream, .func (PySem.W.fnOf "_law_stream" "_law_stream" (defArgs s__law_stream) (defBody s__law_stream) (defScope s__law_stream) .none kV__law_stream dc__law_stream pm__law_stream an__law_stream cd__law_stream ct__law_stream), sl__law_stream⟩) (o__law_stream : PySem.W.codeIn K cd__law_stream "_law_stream" = true) (k__law_stream : PySem.W.keepIn K (.ref f__law_stream) = true)
    {od__law_next an__law_next : Option Addr} {sl__law_next : Array (Option Value)} {oc__law_next kV__law_next dc__law_next pm__law_next cd__law_next ct__law_next : Value} {f__law_next : Addr}
    (a__law_next : PySem.W.nsIn K mainGlobals "_law_next" = some (some (.ref f__law_next))) (l__law_next : K.lookup f__law_next = some ⟨oc__law_next, od__law_next, .func (PySem.W.fnOf "_law_next" "_law_next" (defArgs s__law_next) (defBody s__law_next) (defScope s__law_next) .none kV__law_next dc__law_next pm__law_next an__law_next cd__law_next ct__law_next), sl__law_next⟩) (o__law_next : PySem.W.codeIn K cd__law_next "_law_next" = true) (k__law_next : PySem.W.keepIn K (.ref f__law_next) = true)
    {od__law_is_integer an__law_is_integer : Option Addr} {sl__law_is_integer : Array (Option Value)} {oc__law_is_integer kV__law_is_integer dc__law_is_integer pm__law_is_integer cd__law_is_integer ct__law_is_integer : Value} {f__law_is_integer : Addr}
    (a__law_is_integer : PySem.W.nsIn K mainGlobals "_law_is_integer" = some (some (.ref f__law_is_integer))) (l__law_is_integer : K.lookup f__law_is_integer = some ⟨oc__law_is_integer, od__law_is_integer, .func (PySem.W.fnOf "_law_is_integer" "_law_is_integer" (defArgs s__law_is_integer) (defBody s__law_is_integer) (defScope s__law_is_integer) .none kV__law_is_integer dc__law_is_integer pm__law_is_integer an__law_is_integer cd__law_is_integer ct__law_is_integer), sl__law_is_integer⟩) (o__law_is_integer : PySem.W.codeIn K cd__law_is_integer "_law_is_integer" = true) (k__law_is_integer : PySem.W.keepIn K (.ref f__law_is_integer) = true)
    {od__law_equal an__law_equal : Option Addr} {sl__law_equal : Array (Option Value)} {oc__law_equal kV__law_equal dc__law_equal pm__law_equal cd__law_equal ct__law_equal : Value} {f__law_equal : Addr}
    (a__law_equal : PySem.W.nsIn K mainGlobals "_law_equal" = some (some (.ref f__law_equal))) (l__law_equal : K.lookup f__law_equal = some ⟨oc__law_equal, od__law_equal, .func (PySem.W.fnOf "_law_equal" "_law_equal" (defArgs s__law_equal) (defBody s__law_equal) (defScope s__law_equal) .none kV__law_equal dc__law_equal pm__law_equal an__law_equal cd__law_equal ct__law_equal), sl__law_equal⟩) (o__law_equal : PySem.W.codeIn K cd__law_equal "_law_equal" = true) (k__law_equal : PySem.W.keepIn K (.ref f__law_equal) = true)
    {od__law_pick an__law_pick : Option Addr} {sl__law_pick : Array (Option Value)} {oc__law_pick kV__law_pick dc__law_pick pm__law_pick cd__law_pick ct__law_pick : Value} {f__law_pick : Addr}
    (a__law_pick : PySem.W.nsIn K mainGlobals "_law_pick" = some (some (.ref f__law_pick))) (l__law_pick : K.lookup f__law_pick = some ⟨oc__law_pick, od__law_pick, .func (PySem.W.fnOf "_law_pick" "_law_pick" (defArgs s__law_pick) (defBody s__law_pick) (defScope s__law_pick) .none kV__law_pick dc__law_pick pm__law_pick an__law_pick cd__law_pick ct__law_pick), sl__law_pick⟩) (o__law_pick : PySem.W.codeIn K cd__law_pick "_law_pick" = true) (k__law_pick : PySem.W.keepIn K (.ref f__law_pick) = true)
    {od__law_laid an__law_laid : Option Addr} {sl__law_laid : Array (Option Value)} {oc__law_laid kV__law_laid dc__law_laid pm__law_laid cd__law_laid ct__law_laid : Value} {f__law_laid : Addr}
    (a__law_laid : PySem.W.nsIn K mainGlobals "_law_laid" = some (some (.ref f__law_laid))) (l__law_laid : K.lookup f__law_laid = some ⟨oc__law_laid, od__law_laid, .func (PySem.W.fnOf "_law_laid" "_law_laid" (defArgs s__law_laid) (defBody s__law_laid) (defScope s__law_laid) .none kV__law_laid dc__law_laid pm__law_laid an__law_laid cd__law_laid ct__law_laid), sl__law_laid⟩) (o__law_laid : PySem.W.codeIn K cd__law_laid "_law_laid" = true) (k__law_laid : PySem.W.keepIn K (.ref f__law_laid) = true)
    {od__law_kind an__law_kind : Option Addr} {sl__law_kind : Array (Option Value)} {oc__law_kind kV__law_kind dc__law_kind pm__law_kind cd__law_kind ct__law_kind : Value} {f__law_kind : Addr}
    (a__law_kind : PySem.W.nsIn K mainGlobals "_law_kind" = some (some (.ref f__law_kind))) (l__law_kind : K.lookup f__law_kind = some ⟨oc__law_kind, od__law_kind, .func (PySem.W.fnOf "_law_kind" "_law_kind" (defArgs s__law_kind) (defBody s__law_kind) (defScope s__law_kind) .none kV__law_kind dc__law_kind pm__law_kind an__law_kind cd__law_kind ct__law_kind), sl__law_kind⟩) (o__law_kind : PySem.W.codeIn K cd__law_kind "_law_kind" = true) (k__law_kind : PySem.W.keepIn K (.ref f__law_kind) = true)
    {od__law_told an__law_told : Option Addr} {sl__law_told : Array (Option Value)} {oc__law_told kV__law_told dc__law_told pm__law_told cd__law_told ct__law_told : Value} {f__law_told : Addr}
    (a__law_told : PySem.W.nsIn K mainGlobals "_law_told" = some (some (.ref f__law_told))) (l__law_told : K.lookup f__law_told = some ⟨oc__law_told, od__law_told, .func (PySem.W.fnOf "_law_told" "_law_told" (defArgs s__law_told) (defBody s__law_told) (defScope s__law_told) .none kV__law_told dc__law_told pm__law_told an__law_told cd__law_told ct__law_told), sl__law_told⟩) (o__law_told : PySem.W.codeIn K cd__law_told "_law_told" = true) (k__law_told : PySem.W.keepIn K (.ref f__law_told) = true)
    {od_law an_law : Option Addr} {sl_law : Array (Option Value)} {oc_law kV_law dc_law pm_law cd_law ct_law : Value} {f_law : Addr}
    (a_law : PySem.W.nsIn K mainGlobals "law" = some (some (.ref f_law))) (l_law : K.lookup f_law = some ⟨oc_law, od_law, .func (PySem.W.fnOf "law" "law" (defArgs s_law) (defBody s_law) (defScope s_law) .none kV_law dc_law pm_law an_law cd_law ct_law), sl_law⟩) (o_law : PySem.W.codeIn K cd_law "law" = true) (k_law : PySem.W.keepIn K (.ref f_law) = true)
    (z_ValueError : PySem.W.nsIn K mainGlobals "ValueError" = some none)
    (z_abs : PySem.W.nsIn K mainGlobals "abs" = some none)
    (z_all : PySem.W.nsIn K mainGlobals "all" = some none)
    (z_bool : PySem.W.nsIn K mainGlobals "bool" = some none)
    (z_enumerate : PySem.W.nsIn K mainGlobals "enumerate" = some none)
    (z_int : PySem.W.nsIn K mainGlobals "int" = some none)
    (z_isinstance : PySem.W.nsIn K mainGlobals "isinstance" = some none)
    (z_len : PySem.W.nsIn K mainGlobals "len" = some none)
    (z_list : PySem.W.nsIn K mainGlobals "list" = some none)
    (z_max : PySem.W.nsIn K mainGlobals "max" = some none)
    (z_range : PySem.W.nsIn K mainGlobals "range" = some none)
    (z_str : PySem.W.nsIn K mainGlobals "str" = some none)
    (z_tuple : PySem.W.nsIn K mainGlobals "tuple" = some none)
    {tk_MOST_CHARACTERS : Tok} (g_MOST_CHARACTERS : PySem.W.nsIn K mainGlobals "MOST_CHARACTERS" = some (some (.int 400 tk_MOST_CHARACTERS)))
    {tk_LONGEST_NAME : Tok} (g_LONGEST_NAME : PySem.W.nsIn K mainGlobals "LONGEST_NAME" = some (some (.int 12 tk_LONGEST_NAME)))
    {tk_LONGEST_NUMBER : Tok} (g_LONGEST_NUMBER : PySem.W.nsIn K mainGlobals "LONGEST_NUMBER" = some (some (.int 6 tk_LONGEST_NUMBER)))
    {tk_LETTERS : Tok} (g_LETTERS : PySem.W.nsIn K mainGlobals "LETTERS" = some (some (.str (Str.ofString "abcdefghijklmnopqrstuvwxyz") tk_LETTERS)))
    {tk_DIGITS : Tok} (g_DIGITS : PySem.W.nsIn K mainGlobals "DIGITS" = some (some (.str (Str.ofString "0123456789") tk_DIGITS)))
    {tk_IN_NAMES : Tok} (g_IN_NAMES : PySem.W.nsIn K mainGlobals "IN_NAMES" = some (some (.str (Str.ofString "abcdefghijklmnopqrstuvwxyz0123456789_") tk_IN_NAMES)))
    {tk_SIGNS : Tok} (g_SIGNS : PySem.W.nsIn K mainGlobals "SIGNS" = some (some (.str (Str.ofString ",.*/") tk_SIGNS)))
    {xC_BadValue xI_BadValue xcc_BadValue xcda_BadValue : Addr} {xkV_BadValue xdoc_BadValue xpm_BadValue xct_BadValue xoc_BadValue xcl_BadValue xccl_BadValue : Value} {xan_BadValue xod_BadValue xcdd_BadValue xcld_BadValue : Option Addr} {xosl_BadValue xcsl_BadValue xccs_BadValue : Array (Option Value)} {xvs_BadValue : Array Value} {xfile_BadValue : Str} {xtf_BadValue : Tok}
    {xnm_BadValue xq_BadValue : Str} {xN_BadValue : Addr} {xbs_BadValue xbm_BadValue xsub_BadValue : List Value} {xsn_BadValue : List Str} {xab_BadValue : Bool} {xcol_BadValue : Option Bool} {xdd_BadValue : Option Addr} {x0_BadValue x1_BadValue x2_BadValue x3_BadValue x5_BadValue : Option Value} {xcd_BadValue : ClassData}
    (xa_BadValue : PySem.W.nsIn K mainGlobals "BadValue" = some (some (.ref xC_BadValue))) (xi_BadValue : PySem.W.findIn K (.ref xC_BadValue) "__init__" = some (some (.ref xI_BadValue)))
    (xl_BadValue : K.lookup xI_BadValue = some ⟨xoc_BadValue, xod_BadValue, .func (PySem.W.ksFn "__init__" "BadValue.__init__" (defArgs s_ini_BadValue) (defBody s_ini_BadValue) (defScope s_ini_BadValue) .none xkV_BadValue xdoc_BadValue xpm_BadValue xan_BadValue (.ref xcda_BadValue) xct_BadValue xcc_BadValue), xosl_BadValue⟩)
    (xo_BadValue : PySem.W.codeIn K (.ref xcda_BadValue) "BadValue.__init__" = true) (xd_BadValue : K.lookup xcda_BadValue = some ⟨xccl_BadValue, xcdd_BadValue, .fields xvs_BadValue, xccs_BadValue⟩) (xv_BadValue : xvs_BadValue[2]? = some (.str xfile_BadValue xtf_BadValue)) (xf_BadValue : ((l.prog.main.file : Str) == xfile_BadValue) = true)
    (xc_BadValue : K.lookup xcc_BadValue = some ⟨xcl_BadValue, xcld_BadValue, .cell (some (.ref xC_BadValue)), xcsl_BadValue⟩) (xk_BadValue : K.lookup xC_BadValue = some (excClassObj xnm_BadValue xq_BadValue xC_BadValue xN_BadValue xbs_BadValue xbm_BadValue true xsn_BadValue xsub_BadValue xab_BadValue xcol_BadValue xdd_BadValue x0_BadValue x1_BadValue x2_BadValue x3_BadValue x5_BadValue "ValueError.__new__")) (xr_BadValue : PySem.HandSPX.refsVE xbm_BadValue = true)
    (xs_BadValue : PySem.W.findIn K (.ref xC_BadValue) "__setattr__" = some (some (.builtin "object.__setattr__"))) (xb_BadValue : PySem.W.subIn K (.ref xC_BadValue) (.type "BaseException") = some true) (xt_BadValue : PySem.W.typeIn K (.ref xC_BadValue) = some (.type "type")) (xp_BadValue : PySem.W.keepIn K (.ref xC_BadValue) = true)
    (xw_BadValue : PySem.W.subIn K (.ref xC_BadValue) (.type "ValueError") = some true) (xz_BadValue : PySem.W.nsIn K cStatics "thirdparty.any" = some none) (xu_BadValue : PySem.W.ks_superIn K xC_BadValue xC_BadValue "__init__" = some (some (.builtin "ValueError.__init__"))) (xy_BadValue : PySem.W.typeIn K (.ref xI_BadValue) = some (.type "function"))
    (xg_BadValue : PySem.W.findIn K (.ref xC_BadValue) "__getattribute__" = some (some (.builtin "BaseException.__getattribute__"))) (xh_BadValue : PySem.W.findIn K (.ref xC_BadValue) "__getattr__" = some none) (xD_BadValue : PySem.W.hasDictIn K xC_BadValue = true) (xn_BadValue : PySem.W.findIn K (.ref xC_BadValue) "name" = some none)
    (xe_BadValue : PySem.W.clsIn K xC_BadValue = some xcd_BadValue) (xx_BadValue : PySem.W.subIn K (.ref xC_BadValue) (.ref xC_BadValue) = some true) (xj_BadValue : PySem.W.nsIn K mainGlobals "super" = some none) (xm_BadValue : (l.prog.main.scope.names.lookup ("super" : Str)).isSome = false)
    {xC_TextError xI_TextError xcc_TextError xcda_TextError : Addr} {xkV_TextError xdoc_TextError xpm_TextError xct_TextError xoc_TextError xcl_TextError xccl_TextError : Value} {xan_TextError xod_TextError xcdd_TextError xcld_TextError : Option Addr} {xosl_TextError xcsl_TextError xccs_TextError : Array (Option Value)} {xvs_TextError : Array Value} {xfile_TextError : Str} {xtf_TextError : Tok}
    {xnm_TextError xq_TextError : Str} {xN_TextError : Addr} {xbs_TextError xbm_TextError xsub_TextError : List Value} {xsn_TextError : List Str} {xab_TextError : Bool} {xcol_TextError : Option Bool} {xdd_TextError : Option Addr} {x0_TextError x1_TextError x2_TextError x3_TextError x5_TextError : Option Value} {xcd_TextError : ClassData}
    (xa_TextError : PySem.W.nsIn K mainGlobals "TextError" = some (some (.ref xC_TextError))) (xi_TextError : PySem.W.findIn K (.ref xC_TextError) "__init__" = some (some (.ref xI_TextError)))
    (xl_TextError : K.lookup xI_TextError = some ⟨xoc_TextError, xod_TextError, .func (PySem.W.ksFn "__init__" "TextError.__init__" (defArgs s_ini_TextError) (defBody s_ini_TextError) (defScope s_ini_TextError) .none xkV_TextError xdoc_TextError xpm_TextError xan_TextError (.ref xcda_TextError) xct_TextError xcc_TextError), xosl_TextError⟩)
    (xo_TextError : PySem.W.codeIn K (.ref xcda_TextError) "TextError.__init__" = true) (xd_TextError : K.lookup xcda_TextError = some ⟨xccl_TextError, xcdd_TextError, .fields xvs_TextError, xccs_TextError⟩) (xv_TextError : xvs_TextError[2]? = some (.str xfile_TextError xtf_TextError)) (xf_TextError : ((l.prog.main.file : Str) == xfile_TextError) = true)
    (xc_TextError : K.lookup xcc_TextError = some ⟨xcl_TextError, xcld_TextError, .cell (some (.ref xC_TextError)), xcsl_TextError⟩) (xk_TextError : K.lookup xC_TextError = some (excClassObj xnm_TextError xq_TextError xC_TextError xN_TextError xbs_TextError xbm_TextError true xsn_TextError xsub_TextError xab_TextError xcol_TextError xdd_TextError x0_TextError x1_TextError x2_TextError x3_TextError x5_TextError "ValueError.__new__")) (xr_TextError : PySem.HandSPX.refsVE xbm_TextError = true)
    (xs_TextError : PySem.W.findIn K (.ref xC_TextError) "__setattr__" = some (some (.builtin "object.__setattr__"))) (xb_TextError : PySem.W.subIn K (.ref xC_TextError) (.type "BaseException") = some true) (xt_TextError : PySem.W.typeIn K (.ref xC_TextError) = some (.type "type")) (xp_TextError : PySem.W.keepIn K (.ref xC_TextError) = true)
    (xw_TextError : PySem.W.subIn K (.ref xC_TextError) (.type "ValueError") = some true) (xz_TextError : PySem.W.nsIn K cStatics "thirdparty.any" = some none) (xu_TextError : PySem.W.ks_superIn K xC_TextError xC_TextError "__init__" = some (some (.builtin "ValueError.__init__"))) (xy_TextError : PySem.W.typeIn K (.ref xI_TextError) = some (.type "function"))
    (xg_TextError : PySem.W.findIn K (.ref xC_TextError) "__getattribute__" = some (some (.builtin "BaseException.__getattribute__"))) (xh_TextError : PySem.W.findIn K (.ref xC_TextError) "__getattr__" = some none) (xD_TextError : PySem.W.hasDictIn K xC_TextError = true) (xn_TextError : PySem.W.findIn K (.ref xC_TextError) "column" = some none)
    (xe_TextError : PySem.W.clsIn K xC_TextError = some xcd_TextError) (xx_TextError : PySem.W.subIn K (.ref xC_TextError) (.ref xC_TextError) = some true) (xj_TextError : PySem.W.nsIn K mainGlobals "super" = some none) (xm_TextError : (l.prog.main.scope.names.lookup ("super" : Str)).isSome = false) (xW_TextError : PySem.W.findIn K (.ref xC_TextError) "words" = some none)
    {xL0 : Addr} (yA_L : PySem.W.findIn K (.ref xC_TextError) "__class__" = some (some (.builtin "object.__class__"))) (yN_L : PySem.W.specialIn K (.builtin "object.__class__") "__get__" = some (some (.builtin "getset_descriptor.__get__"))) (yT_L : PySem.W.takesIn K (.builtin "object.__class__") = some true) (yM_L : PySem.W.mroIn K xC_TextError (.type "object") = some true)
    (yL_L : PySem.W.nsIn K mainGlobals "LeastError" = some (some (.ref xL0))) (yB_L : PySem.W.subIn K (.ref xL0) (.type "BaseException") = some true) (yD_L : PySem.W.hasDictIn K xL0 = true) (yY_L : PySem.W.typeIn K (.ref xL0) = some (.type "type")) (yS_L : PySem.W.subIn K (.ref xC_TextError) (.ref xL0) = some true)    {xcdL : ClassData} (yC_L : PySem.W.clsIn K xL0 = some xcdL) (yF_L : PySem.W.subIn K (.ref xC_BadValue) (.ref xC_TextError) = some false) :
    ∃ fd : FuncData, (∀ (s : Shared) (v : Value), BindsTo s fd ⟨[v], []⟩ [("script", v)]) ∧ ∀ base : Heap, K.In base → base.Ns mainGlobals mg → FnOk l.prog w K mg base CX0 11 fa fd ["script"] (spLaw K) := by
  have e := hfa.symm.trans (PySem.W.mg_of X G a_law)
  cases e
  have T : Txt mg := { b_ValueError := PySem.W.mg_none_of X G z_ValueError, b_abs := PySem.W.mg_none_of X G z_abs, b_all := PySem.W.mg_none_of X G z_all, b_bool := PySem.W.mg_none_of X G z_bool, b_enumerate := PySem.W.mg_none_of X G z_enumerate, b_int := PySem.W.mg_none_of X G z_int, b_isinstance := PySem.W.mg_none_of X G z_isinstance, b_len := PySem.W.mg_none_of X G z_len, b_list := PySem.W.mg_none_of X G z_list, b_max := PySem.W.mg_none_of X G z_max, b_range := PySem.W.mg_none_of X G z_range, b_str := PySem.W.mg_none_of X G z_str, b_tuple := PySem.W.mg_none_of X G z_tuple, k_MOST_CHARACTERS := ⟨_, PySem.W.mg_of X G g_MOST_CHARACTERS⟩, k_LONGEST_NAME := ⟨_, PySem.W.mg_of X G g_LONGEST_NAME⟩, k_LONGEST_NUMBER := ⟨_, PySem.W.mg_of X G g_LONGEST_NUMBER⟩, k_LETTERS := ⟨_, PySem.W.mg_of X G g_LETTERS⟩, k_DIGITS := ⟨_, PySem.W.mg_of X G g_DIGITS⟩, k_IN_NAMES := ⟨_, PySem.W.mg_of X G g_IN_NAMES⟩, k_SIGNS := ⟨_, PySem.W.mg_of X G g_SIGNS⟩ }
  have F_require := fun_mk (st := s_require) l_require o_require k_require
  have b_require := F_require.binds (ps := p_require) fun _ _ _ _ _ _ us hl => match us, hl with | [_, _], _ => rfl
  have m_require := PySem.W.mg_of X G a_require
  have F_check_text := fun_mk (st := s_check_text) l_check_text o_check_text k_check_text
  have b_check_text := F_check_text.binds (ps := p_check_text) fun _ _ _ _ _ _ us hl => match us, hl with | [_], _ => rfl
  have m_check_text := PySem.W.mg_of X G a_check_text
  have F_run_at := fun_mk (st := s_run_at) l_run_at o_run_at k_run_at
  have b_run_at := F_run_at.binds (ps := p_run_at) fun _ _ _ _ _ _ us hl => match us, hl with | [_, _, _], _ => rfl
  have m_run_at := PySem.W.mg_of X G a_run_at
  have F_name_at := fun_mk (st := s_name_at) l_name_at o_name_at k_name_at
  have b_name_at := F_name_at.binds (ps := p_name_at) fun _ _ _ _ _ _ us hl => match us, hl with | [_, _], _ => rfl
  have m_name_at := PySem.W.mg_of X G a_name_at
  have F_number_at := fun_mk (st := s_number_at) l_number_at o_number_at k_number_at
  have b_number_at := F_number_at.binds (ps := p_number_at) fun _ _ _ _ _ _ us hl => match us, hl with | [_, _], _ => rfl
  have m_number_at := PySem.W.mg_of X G a_number_at
  have F_token_at := fun_mk (st := s_token_at) l_token_at o_token_at k_token_at
  have b_token_at := F_token_at.binds (ps := p_token_at) fun _ _ _ _ _ _ us hl => match us, hl with | [_, _], _ => rfl
  have m_token_at := PySem.W.mg_of X G a_token_at
  have F_scan := fun_mk (st := s_scan) l_scan o_scan k_scan
  have b_scan := F_scan.binds (ps := p_scan) fun _ _ _ _ _ _ us hl => match us, hl with | [_], _ => rfl
  have m_scan := PySem.W.mg_of X G a_scan
  have F__law_stream := fun_mk (st := s__law_stream) l__law_stream o__law_stream k__law_stream
  have b__law_stream := F__law_stream.binds (ps := p__law_stream) fun _ _ _ _ _ _ us hl => match us, hl with | [_], _ => rfl
  have m__law_stream := PySem.W.mg_of X G a__law_stream
  have F__law_next := fun_mk (st := s__law_next) l__law_next o__law_next k__law_next
  have b__law_next := F__law_next.binds (ps := p__law_next) fun _ _ _ _ _ _ us hl => match us, hl with | [_, _], _ => rfl
  have m__law_next := PySem.W.mg_of X G a__law_next
  have F__law_is_integer := fun_mk (st := s__law_is_integer) l__law_is_integer o__law_is_integer k__law_is_integer
  have b__law_is_integer := F__law_is_integer.binds (ps := p__law_is_integer) fun _ _ _ _ _ _ us hl => match us, hl with | [_], _ => rfl
  have m__law_is_integer := PySem.W.mg_of X G a__law_is_integer
  have F__law_equal := fun_mk (st := s__law_equal) l__law_equal o__law_equal k__law_equal
  have b__law_equal := F__law_equal.binds (ps := p__law_equal) fun _ _ _ _ _ _ us hl => match us, hl with | [_, _], _ => rfl
  have m__law_equal := PySem.W.mg_of X G a__law_equal
  have F__law_pick := fun_mk (st := s__law_pick) l__law_pick o__law_pick k__law_pick
  have b__law_pick := F__law_pick.binds (ps := p__law_pick) fun _ _ _ _ _ _ us hl => match us, hl with | [_, _], _ => rfl
  have m__law_pick := PySem.W.mg_of X G a__law_pick
  have F__law_laid := fun_mk (st := s__law_laid) l__law_laid o__law_laid k__law_laid
  have b__law_laid := F__law_laid.binds (ps := p__law_laid) fun _ _ _ _ _ _ us hl => match us, hl with | [_, _], _ => rfl
  have m__law_laid := PySem.W.mg_of X G a__law_laid
  have F__law_kind := fun_mk (st := s__law_kind) l__law_kind o__law_kind k__law_kind
  have b__law_kind := F__law_kind.binds (ps := p__law_kind) fun _ _ _ _ _ _ us hl => match us, hl with | [_], _ => rfl
  have m__law_kind := PySem.W.mg_of X G a__law_kind
  have F__law_told := fun_mk (st := s__law_told) l__law_told o__law_told k__law_told
  have b__law_told := F__law_told.binds (ps := p__law_told) fun _ _ _ _ _ _ us hl => match us, hl with | [_], _ => rfl
  have m__law_told := PySem.W.mg_of X G a__law_told
  have F_law := fun_mk (st := s_law) l_law o_law k_law
  have O_BadValue : OexC K xC_BadValue := ⟨⟨_, _, _, _, _, _, _, _, _, _, _, _, _, _, _, xk_BadValue, xr_BadValue⟩, xs_BadValue, xb_BadValue, xt_BadValue, xp_BadValue⟩
  have I_BadValue := fun base => ok_ini_BadValue (P := l.prog) (w := w) (mg := mg) (base := base) xl_BadValue xo_BadValue xd_BadValue xv_BadValue xf_BadValue xc_BadValue O_BadValue xn_BadValue (PySem.W.mg_none_of X G xj_BadValue) xw_BadValue xz_BadValue xu_BadValue xm_BadValue
  have J_BadValue : Binds K (PySem.W.ksFn "__init__" "BadValue.__init__" (defArgs s_ini_BadValue) (defBody s_ini_BadValue) (defScope s_ini_BadValue) .none xkV_BadValue xdoc_BadValue xpm_BadValue xan_BadValue (.ref xcda_BadValue) xct_BadValue xcc_BadValue) ["self", "name"] [] := .all fun us hl => match us, hl with | [_, _], _ => rfl
  have E_BadValue : ∀ base, Exc1 l.prog w K mg base "BadValue" "name" xC_BadValue := fun base => ⟨O_BadValue, ⟨xg_BadValue, xh_BadValue, xb_BadValue, xD_BadValue⟩, PySem.W.mg_of X G xa_BadValue, xn_BadValue, exm_self xb_BadValue xe_BadValue xt_BadValue xx_BadValue, _, _, xi_BadValue, xy_BadValue, I_BadValue base, J_BadValue⟩
  have O_TextError : OexC K xC_TextError := ⟨⟨_, _, _, _, _, _, _, _, _, _, _, _, _, _, _, xk_TextError, xr_TextError⟩, xs_TextError, xb_TextError, xt_TextError, xp_TextError⟩
  have I_TextError := fun base => ok_ini_TextError (P := l.prog) (w := w) (mg := mg) (base := base) xl_TextError xo_TextError xd_TextError xv_TextError xf_TextError xc_TextError O_TextError xn_TextError xW_TextError (PySem.W.mg_none_of X G xj_TextError) xw_TextError xz_TextError xu_TextError xm_TextError
  have J_TextError : Binds K (PySem.W.ksFn "__init__" "TextError.__init__" (defArgs s_ini_TextError) (defBody s_ini_TextError) (defScope s_ini_TextError) .none xkV_TextError xdoc_TextError xpm_TextError xan_TextError (.ref xcda_TextError) xct_TextError xcc_TextError) ["self", "column", "words"] [] := .all fun us hl => match us, hl with | [_, _, _], _ => rfl
  have E_TextError : ∀ base, ExcT l.prog w K mg base xC_TextError := fun base => ⟨O_TextError, ⟨xg_TextError, xh_TextError, xb_TextError, xD_TextError⟩, PySem.W.mg_of X G xa_TextError, xn_TextError, xW_TextError, exm_self xb_TextError xe_TextError xt_TextError xx_TextError, _, _, xi_TextError, xy_TextError, I_TextError base, J_TextError⟩
  have H_TextError : ExcH K mg xC_TextError xL0 := ⟨⟨xg_TextError, xh_TextError, xb_TextError, xD_TextError, yA_L, yN_L, yT_L, yM_L⟩, PySem.W.mg_of X G yL_L, PySem.W.exm_ref yB_L yD_L yY_L yS_L, kit_val xw_TextError⟩
  have KL_TextError := kit_ref yC_L yY_L yS_L
  have NO := exm_no xb_TextError xe_TextError xt_TextError yF_L
  refine ⟨PySem.W.fnOf "law" "law" (defArgs s_law) (defBody s_law) (defScope s_law) .none kV_law dc_law pm_law an_law cd_law ct_law, fun s v => .of_eq rfl, fun base _ _ => ?_⟩
  have c_require : Cal l.prog w K mg base CX0 1 "require" p_require (sp_require K) := ⟨_, _, ok_require F_require T, m_require, k_require, b_require⟩
  have c_run_at : Cal l.prog w K mg base CX0 1 "run_at" p_run_at (sp_run_at K) := ⟨_, _, ok_run_at F_run_at T, m_run_at, k_run_at, b_run_at⟩
  have c__law_stream : Cal l.prog w K mg base CX0 1 "_law_stream" p__law_stream (sp__law_stream K) := ⟨_, _, ok__law_stream F__law_stream T, m__law_stream, k__law_stream, b__law_stream⟩
  have c__law_next : Cal l.prog w K mg base CX0 1 "_law_next" p__law_next (sp__law_next K) := ⟨_, _, ok__law_next F__law_next T, m__law_next, k__law_next, b__law_next⟩
  have c__law_is_integer : Cal l.prog w K mg base CX0 1 "_law_is_integer" p__law_is_integer (sp__law_is_integer K) := ⟨_, _, ok__law_is_integer F__law_is_integer T, m__law_is_integer, k__law_is_integer, b__law_is_integer⟩
  have c__law_kind : Cal l.prog w K mg base CX0 1 "_law_kind" p__law_kind (sp__law_kind K) := ⟨_, _, ok__law_kind F__law_kind T, m__law_kind, k__law_kind, b__law_kind⟩
  have c_check_text : Cal l.prog w K mg base CX0 2 "check_text" p_check_text (sp_check_text K) := ⟨_, _, ok_check_text F_check_text T c_require, m_check_text, k_check_text, b_check_text⟩
  have c_name_at : Cal l.prog w K mg base CX0 2 "name_at" p_name_at (sp_name_at K) := ⟨_, _, ok_name_at F_name_at T c_run_at, m_name_at, k_name_at, b_name_at⟩
  have c_number_at : Cal l.prog w K mg base CX0 2 "number_at" p_number_at (sp_number_at K) := ⟨_, _, ok_number_at F_number_at T c_run_at, m_number_at, k_number_at, b_number_at⟩
  have c__law_pick : Cal l.prog w K mg base CX0 2 "_law_pick" p__law_pick (sp__law_pick K) := ⟨_, _, ok__law_pick F__law_pick T c__law_next, m__law_pick, k__law_pick, b__law_pick⟩
  have c__law_laid : Cal l.prog w K mg base CX0 2 "_law_laid" p__law_laid (sp__law_laid K) := ⟨_, _, ok__law_laid F__law_laid T c__law_next, m__law_laid, k__law_laid, b__law_laid⟩
  have c_token_at : Cal l.prog w K mg base CX0 3 "token_at" p_token_at (sp_token_at K) := ⟨_, _, ok_token_at F_token_at T c_name_at c_number_at, m_token_at, k_token_at, b_token_at⟩
  have c_scan : Cal l.prog w K mg base CX0 4 "scan" p_scan (sp_scan K) := ⟨_, _, ok_scan F_scan T c_check_text c_token_at, m_scan, k_scan, b_scan⟩
  have X_require := ok_requireX F_require T (E_BadValue base)
  have X_check_text := fn_or (sp' := spRef K xC_BadValue RcTx) ((fn_up0 (CX := L2.CX l.prog w) (ok_check_text F_check_text T c_require)).mono (k := 5) (by decide)) (ok_check_textX (CT := xC_TextError) F_check_text T X_require m_require k_require b_require)
  have X_name_at := fn_or (sp' := spRefT K xC_TextError RtNm) ((fn_up0 (CX := L2.CX l.prog w) (ok_name_at F_name_at T c_run_at)).mono (k := 4) (by decide)) (ok_name_atT (C := xC_BadValue) F_name_at T (E_TextError base) c_run_at)
  have X_number_at := fn_or (sp' := spRefT K xC_TextError RtNu) ((fn_up0 (CX := L2.CX l.prog w) (ok_number_at F_number_at T c_run_at)).mono (k := 4) (by decide)) (ok_number_atT (C := xC_BadValue) F_number_at T (E_TextError base) c_run_at)
  have X_token_at := fn_or (sp' := spRefT K xC_TextError RtTk) ((fn_up0 (CX := L2.CX l.prog w) (ok_token_at F_token_at T c_name_at c_number_at)).mono (k := 5) (by decide)) (ok_token_atT (C := xC_BadValue) F_token_at T (E_TextError base) X_name_at m_name_at k_name_at b_name_at X_number_at m_number_at k_number_at b_number_at)
  have X_scan := fn_or (sp' := spRefT K xC_TextError RtSc) (fn_or (sp' := spRef K xC_BadValue RcTx) ((fn_up0 (CX := L2.CX l.prog w) (ok_scan F_scan T c_check_text c_token_at)).mono (k := 6) (by decide)) (ok_scanX (CT := xC_TextError) F_scan T X_check_text m_check_text k_check_text b_check_text X_token_at m_token_at k_token_at b_token_at)) (ok_scanT (C := xC_BadValue) F_scan T (E_TextError base) X_check_text m_check_text k_check_text b_check_text X_token_at m_token_at k_token_at b_token_at)
  have c__law_told : Cal l.prog w K mg base CX0 7 "_law_told" p__law_told (sp__law_told91 K) := ⟨_, _, (fn_down0 (fun vs H Q E h => h) (ok__law_toldX F__law_told T (E_BadValue base) (E_TextError base) H_TextError KL_TextError NO X_scan m_scan k_scan b_scan)).mono (by decide), m__law_told, k__law_told, b__law_told⟩
  have c__law_equal : Cal l.prog w K mg base CX0 10 "_law_equal" p__law_equal (sp__law_equal K) := ⟨_, _, ok__law_equal F__law_equal T c__law_is_integer m__law_equal b__law_equal, m__law_equal, k__law_equal, b__law_equal⟩
  exact ok_law F_law T c__law_stream c__law_laid c__law_pick c__law_next c__law_equal c__law_told c__law_kind
theorem walk {l : PySem.W.OpenLaw} {q : Program} {loose : List Str} {XP : (Str → Option Value) → Heap → Prop} {YP : World → Heap → Prop} {d : DefRec} {K : Params → PySem.W.Frag} (hn : l.most = some 63) (hdf : d.params.defaults = [])
    (hY : ∀ (w : World) (h : Heap), YP w h → (K w.params).In h)
    (F : ∀ (w : World) (mg : Str → Option Value) (fa : Addr) (h : Heap), (K w.params).In h → h.Ns mainGlobals mg → mg d.name = some (.ref fa) →
      ∃ fd : FuncData, (∀ (s : Shared) (u : Value), BindsTo s fd ⟨[u], []⟩ [("script", u)]) ∧ ∀ base : Heap, (K w.params).In base → base.Ns mainGlobals mg → FnOk l.prog w (K w.params) mg base CX0 11 fa fd ["script"] (spLaw (K w.params))) :
    PySem.W.WalkO q loose XP YP l.row.toRowW d [] (fun f vs => PySem.call f vs) :=
  L2.walk_of (n := 63) (k := 11) (x := "script") (CX := fun _ => CX0) (sp := fun w => spLaw (K w.params)) hn (by decide) hdf ⟨rfl, by decide, by decide⟩ hY F (fun _ _ a ns hl _ hS => ⟨a, ns, rfl, hS, hl, fun _ => rfl⟩) fun _ _ _ _ _ z => z
end W
open PySem PySem.W PyProof.Rows
set_option maxRecDepth 100000 in
set_option maxHeartbeats 0 in
theorem PySem.Challenge.cw_leastmoved_k91_tokens_of_texts_holds : PySem.Challenge.rw_leastmoved_k91_tokens_of_texts.Holds := by
  w_on; o_law; k_head; (case hw => w_witness2)
  k_fill
  refine W.walk (l := PySem.Challenge.rw_leastmoved_k91_tokens_of_texts) rfl rfl (fun w h Y => PySem.W.kIn_of Y) ?F
  case F =>
    intro w mg fa h KX G hmg
    refine' W.all_mk KX G hmg ?a_require ?l_require ?o_require ?k_require ?a_check_text ?l_check_text ?o_check_text ?k_check_text ?a_run_at ?l_run_at ?o_run_at ?k_run_at ?a_name_at ?l_name_at ?o_name_at ?k_name_at ?a_number_at ?l_number_at ?o_number_at ?k_number_at ?a_token_at ?l_token_at ?o_token_at ?k_token_at ?a_scan ?l_scan ?o_scan ?k_scan ?a__law_stream ?l__law_stream ?o__law_stream ?k__law_stream ?a__law_next ?l__law_next ?o__law_next ?k__law_next ?a__law_is_integer ?l__law_is_integer ?o__law_is_integer ?k__law_is_integer ?a__law_equal ?l__law_equal ?o__law_equal ?k__law_equal ?a__law_pick ?l__law_pick ?o__law_pick ?k__law_pick ?a__law_laid ?l__law_laid ?o__law_laid ?k__law_laid ?a__law_kind ?l__law_kind ?o__law_kind ?k__law_kind ?a__law_told ?l__law_told ?o__law_told ?k__law_told ?a_law ?l_law ?o_law ?k_law ?z_ValueError ?z_abs ?z_all ?z_bool ?z_enumerate ?z_int ?z_isinstance ?z_len ?z_list ?z_max ?z_range ?z_str ?z_tuple ?g_MOST_CHARACTERS ?g_LONGEST_NAME ?g_LONGEST_NUMBER ?g_LETTERS ?g_DIGITS ?g_IN_NAMES ?g_SIGNS ?xa_BadValue ?xi_BadValue ?xl_BadValue ?xo_BadValue ?xd_BadValue ?xv_BadValue ?xf_BadValue ?xc_BadValue ?xk_BadValue ?xr_BadValue ?xs_BadValue ?xb_BadValue ?xt_BadValue ?xp_BadValue ?xw_BadValue ?xz_BadValue ?xu_BadValue ?xy_BadValue ?xg_BadValue ?xh_BadValue ?xD_BadValue ?xn_BadValue ?xe_BadValue ?xx_BadValue ?xj_BadValue ?xm_BadValue ?xa_TextError ?xi_TextError ?xl_TextError ?xo_TextError ?xd_TextError ?xv_TextError ?xf_TextError ?xc_TextError ?xk_TextError ?xr_TextError ?xs_TextError ?xb_TextError ?xt_TextError ?xp_TextError ?xw_TextError ?xz_TextError ?xu_TextError ?xy_TextError ?xg_TextError ?xh_TextError ?xD_TextError ?xn_TextError ?xe_TextError ?xx_TextError ?xj_TextError ?xm_TextError ?xW_TextError ?yA_L ?yN_L ?yT_L ?yM_L ?yL_L ?yB_L ?yD_L ?yY_L ?yS_L ?yC_L ?yF_L
    (case a_require => k_is); (case l_require => k_is); (case o_require => k_is); (case k_require => k_is)
    (case a_check_text => k_is); (case l_check_text => k_is); (case o_check_text => k_is); (case k_check_text => k_is)
    (case a_run_at => k_is); (case l_run_at => k_is); (case o_run_at => k_is); (case k_run_at => k_is)
    (case a_name_at => k_is); (case l_name_at => k_is); (case o_name_at => k_is); (case k_name_at => k_is)
    (case a_number_at => k_is); (case l_number_at => k_is); (case o_number_at => k_is); (case k_number_at => k_is)
    (case a_token_at => k_is); (case l_token_at => k_is); (case o_token_at => k_is); (case k_token_at => k_is)
    (case a_scan => k_is); (case l_scan => k_is); (case o_scan => k_is); (case k_scan => k_is)
    (case a__law_stream => k_is); (case l__law_stream => k_is); (case o__law_stream => k_is); (case k__law_stream => k_is)
    (case a__law_next => k_is); (case l__law_next => k_is); (case o__law_next => k_is); (case k__law_next => k_is)
    (case a__law_is_integer => k_is); (case l__law_is_integer => k_is); (case o__law_is_integer => k_is); (case k__law_is_integer => k_is)
    (case a__law_equal => k_is); (case l__law_equal => k_is); (case o__law_equal => k_is); (case k__law_equal => k_is)
    (case a__law_pick => k_is); (case l__law_pick => k_is); (case o__law_pick => k_is); (case k__law_pick => k_is)
    (case a__law_laid => k_is); (case l__law_laid => k_is); (case o__law_laid => k_is); (case k__law_laid => k_is)
    (case a__law_kind => k_is); (case l__law_kind => k_is); (case o__law_kind => k_is); (case k__law_kind => k_is)
    (case a__law_told => k_is); (case l__law_told => k_is); (case o__law_told => k_is); (case k__law_told => k_is)
    (case a_law => k_is); (case l_law => k_is); (case o_law => k_is); (case k_law => k_is)
    (case z_ValueError => k_is)
    (case z_abs => k_is)
    (case z_all => k_is)
    (case z_bool => k_is)
    (case z_enumerate => k_is)
    (case z_int => k_is)
    (case z_isinstance => k_is)
    (case z_len => k_is)
    (case z_list => k_is)
    (case z_max => k_is)
    (case z_range => k_is)
    (case z_str => k_is)
    (case z_tuple => k_is)
    (case g_MOST_CHARACTERS => k_is)
    (case g_LONGEST_NAME => k_is)
    (case g_LONGEST_NUMBER => k_is)
    (case g_LETTERS => k_is)
    (case g_DIGITS => k_is)
    (case g_IN_NAMES => k_is)
    (case g_SIGNS => k_is)
    (case xa_BadValue => k_is)
    (case xi_BadValue => k_is)
    (case xl_BadValue => k_is)
    (case xo_BadValue => k_is)
    (case xd_BadValue => k_is)
    (case xv_BadValue => exact rfl)
    (case xf_BadValue => first | rfl | decide +kernel)
    (case xc_BadValue => k_is)
    (case xk_BadValue => k_is)
    (case xr_BadValue => first | rfl | decide +kernel)
    (case xs_BadValue => k_is)
    (case xb_BadValue => k_is)
    (case xt_BadValue => k_is)
    (case xp_BadValue => k_is)
    (case xw_BadValue => k_is)
    (case xz_BadValue => k_is)
    (case xu_BadValue => ks_is)
    (case xy_BadValue => k_is)
    (case xg_BadValue => k_is)
    (case xh_BadValue => k_is)
    (case xD_BadValue => k_is)
    (case xn_BadValue => k_is)
    (case xe_BadValue => k_is)
    (case xx_BadValue => k_is)
    (case xj_BadValue => k_is)
    (case xm_BadValue => first | rfl | decide +kernel)
    (case xa_TextError => k_is)
    (case xi_TextError => k_is)
    (case xl_TextError => k_is)
    (case xo_TextError => k_is)
    (case xd_TextError => k_is)
    (case xv_TextError => exact rfl)
    (case xf_TextError => first | rfl | decide +kernel)
    (case xc_TextError => k_is)
    (case xk_TextError => k_is)
    (case xr_TextError => first | rfl | decide +kernel)
    (case xs_TextError => k_is)
    (case xb_TextError => k_is)
    (case xt_TextError => k_is)
    (case xp_TextError => k_is)
    (case xw_TextError => k_is)
    (case xz_TextError => k_is)
    (case xu_TextError => ks_is)
    (case xy_TextError => k_is)
    (case xg_TextError => k_is)
    (case xh_TextError => k_is)
    (case xD_TextError => k_is)
    (case xn_TextError => k_is)
    (case xe_TextError => k_is)
    (case xx_TextError => k_is)
    (case xj_TextError => k_is)
    (case xm_TextError => first | rfl | decide +kernel)
    (case xW_TextError => k_is)
    (case yA_L => k_is)
    (case yN_L => k_is)
    (case yT_L => k_is)
    (case yM_L => k_is)
    (case yL_L => k_is)
    (case yB_L => k_is)
    (case yD_L => k_is)
    (case yY_L => k_is)
    (case yS_L => k_is)
    (case yC_L => k_is)
    (case yF_L => k_is)
