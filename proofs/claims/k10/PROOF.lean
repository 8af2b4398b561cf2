import PyProof.Rows.All
import Wide.All
import OpenK.AllK
import Wide.FinOn
import HandS.ForMost
import HandS.Evl
import HandS.Wide
import HandS.WideBits
import HandS.Flow
import HandS.IsInst
import HandS.TupAny
import HandS.Walk
import HandS.Zip
import HandS.Steps
import KE.GoesMore
import KE.GoesEnum
import KE.KEqSeq
import HandS.SetTxt0
import HandS.Set
import HandS.SetFor
import HandS.Strs
import HandS.DictComp
import KE.GoesSet
import HandS.More
import HandS.Style
import HandS.Small
import HandS.ForExc
import HandS.ExcIs
import HandS.CallSlots
import HandS.Property
import HandS.FStr
import HandS.SetKeys
import HandS.StrMore
import PyProof.StrLawsFirst
import HandS.Iter
import PySem.Challenge.RW_signoff_k10_tables_of_expressions
set_option Elab.async false
set_option linter.all false
set_option maxRecDepth 100000
set_option maxHeartbeats 4000000
set_option Elab.async false
set_option linter.all false
set_option maxRecDepth 100000
set_option maxHeartbeats 4000000
namespace G
open PySem PySem.Spec PyProof.Rows L2 Evl
/-! ## defs by name -/
def Dfd (K : PySem.W.Frag) (mg : Str → Option Value) (x : Str) (st : Stmt) (ps : List Str) : Prop := ∃ (f : Addr) (fd : FuncData), Fun K x x st f fd ∧ mg x = some (.ref f) ∧ Binds K fd ps []
def Has (P : Program) (w : World) (K : PySem.W.Frag) (mg : Str → Option Value) (base : Heap) (k : Nat) (x : Str) (ps : List Str) (sp : Sp) : Prop :=
  ∃ (f : Addr) (fd : FuncData), FnOk P w K mg base CX0 k f fd ps sp ∧ mg x = some (.ref f) ∧ PySem.W.keepIn K (.ref f) = true ∧ Binds K fd ps []
section
variable {P : Program} {w : World} {K : PySem.W.Frag} {mg : Str → Option Value} {base : Heap}
theorem Dfd.has {x : Str} {st : Stmt} {ps : List Str} {k : Nat} {sp : Sp} (d : Dfd K mg x st ps) (h : ∀ f fd, Fun K x x st f fd → FnOk P w K mg base CX0 k f fd ps sp) : Has P w K mg base k x ps sp := by
  obtain ⟨f, fd, F, g, b⟩ := d
  exact ⟨f, fd, h f fd F, g, F.kp, b⟩
theorem Has.mono {x : Str} {ps : List Str} {j k : Nat} {sp : Sp} (h : Has P w K mg base j x ps sp) (l : j ≤ k) : Has P w K mg base k x ps sp := by
  obtain ⟨f, fd, F, g⟩ := h
  exact ⟨f, fd, F.mono l, g⟩
theorem Has.imp {x : Str} {ps : List Str} {k : Nat} {sp sp' : Sp} (h : Has P w K mg base k x ps sp) (i : ∀ vs H Q E, sp' vs H Q E → sp vs H Q E) : Has P w K mg base k x ps sp' := by
  obtain ⟨f, fd, F, g⟩ := h
  exact ⟨f, fd, F.imp i, g⟩
end
/-! ## heaps -/
theorem sq_ex {K : PySem.W.Frag} {H H' : Hp} {a : Addr} {xs : List V} (e : Ex H H') (h : SqL K H a xs) : SqL K H' a xs := ex_l e h
/-- the heap without what stands at p -/
def hid (p : Addr) (H : Hp) : Hp := fun b => if b = p then none else H b
theorem hid_self {p : Addr} {H : Hp} : hid p H p = none := by unfold hid; rw [if_pos rfl]
theorem hid_ne {p b : Addr} {H : Hp} (h : b ≠ p) : hid p H b = H b := by unfold hid; rw [if_neg h]
theorem hid_get {p b : Addr} {H : Hp} {o : HO} (h : hid p H b = some o) : H b = some o := by
  by_cases e : b = p
  · subst e; rw [hid_self] at h; cases h
  · rw [hid_ne e] at h; exact h
theorem hid_neq {p b : Addr} {H : Hp} {o : HO} (h : hid p H b = some o) : b ≠ p := by
  intro e; subst e; rw [hid_self] at h; cases h
theorem hid_ex {p : Addr} {H : Hp} : Ex (hid p H) H := fun _ _ h => hid_get h
theorem hid_upd {p : Addr} {H : Hp} {o : HO} : hid p (upd H p o) = hid p H := by
  funext b
  by_cases e : b = p
  · subst e; rw [hid_self, hid_self]
  · rw [hid_ne e, hid_ne e, upd_ne e]
theorem hid_upd_ne {p q : Addr} {H : Hp} {o : HO} (h : q ≠ p) : hid p (upd H q o) = upd (hid p H) q o := by
  funext b
  by_cases e2 : b = q
  · subst e2; rw [hid_ne h, upd_same, upd_same]
  · rw [upd_ne e2]
    by_cases e : b = p
    · subst e; rw [hid_self, hid_self]
    · rw [hid_ne e, hid_ne e, upd_ne e2]
theorem hid_none {p b : Addr} {H : Hp} (h : H b = none) : hid p H b = none := by
  unfold hid; split
  · rfl
  · exact h
/-! ## the pool of draws: the list at p, the script's copy at a -/
def PoolOk (p a : Addr) (H : Hp) : Prop := ∃ (ns : List Int) (i : Nat) (c k s : Int), H p = some (.lst [.ref a, .int i, .int c, .int k, .int s]) ∧ hid p H a = some (.lst (ns.map V.int)) ∧ ns.length ≤ 1000
/-- from H to H' all but the pool is kept, and the pool is a pool -/
structure Px (p a : Addr) (H H' : Hp) : Prop where
  was : PoolOk p a H
  pool : PoolOk p a H'
  ex : Ex (hid p H) (hid p H')
section
variable {p a : Addr} {H H1 H2 H' : Hp}
theorem Px.refl (h : PoolOk p a H) : Px p a H H := ⟨h, h, Ex.refl _⟩
theorem Px.trans (x : Px p a H H1) (y : Px p a H1 H2) : Px p a H H2 := ⟨x.was, y.pool, x.ex.trans y.ex⟩
theorem PoolOk.ne {b : Addr} (h : PoolOk p a H) (n : H b = none) : b ≠ p := by
  obtain ⟨_, _, _, _, _, e, _⟩ := h
  exact (ne_of_none e n).symm
theorem PoolOk.ne2 {b : Addr} (h : PoolOk p a H) (n : H b = none) : a ≠ b := by
  obtain ⟨_, _, _, _, _, _, e, _⟩ := h
  exact ne_of_none (hid_get e) n
theorem PoolOk.kept (h : PoolOk p a H) (e : Ex H H') : PoolOk p a H' := by
  obtain ⟨ns, i, c, k, s, h1, h2, h3⟩ := h
  exact ⟨ns, i, c, k, s, e _ _ h1, by rw [hid_ne (hid_neq h2)]; exact e _ _ (hid_get h2), h3⟩
theorem Px.ofEx (h : PoolOk p a H) (e : Ex H H') : Px p a H H' := ⟨h, h.kept e, fun b o hb => by rw [hid_ne (hid_neq hb)]; exact e _ _ (hid_get hb)⟩
theorem Px.more (x : Px p a H H1) (e : Ex H1 H2) : Px p a H H2 := x.trans (Px.ofEx x.pool e)
theorem Px.draw {o : HO} (w : PoolOk p a H) (h : PoolOk p a (upd H p o)) : Px p a H (upd H p o) := ⟨w, h, by rw [hid_upd]; exact Ex.refl _⟩
theorem Px.new (x : Px p a H H1) {l : Addr} {o : HO} (n : H1 l = none) : Px p a H (upd H1 l o) := x.more (Ex.new n)
/-- what H has is kept -/
theorem Px.get (x : Px p a H H1) {b : Addr} {o : HO} (h : hid p H b = some o) : hid p H1 b = some o := x.ex _ _ h
theorem Px.at_ (x : Px p a H H1) {b : Addr} {o : HO} (h : hid p H b = some o) : H1 b = some o := hid_get (x.ex _ _ h)
theorem Px.free (x : Px p a H H1) {b : Addr} (n : H1 b = none) : H b = none := by
  cases e : H b with
  | none => rfl
  | some o =>
    have hb : b ≠ p := x.pool.ne n
    have := x.ex b o (by rw [hid_ne hb]; exact e)
    rw [hid_get this] at n; cases n
/-- an object that H does not have may change -/
theorem Px.mut (x : Px p a H H1) {l : Addr} {o : HO} (n : H l = none) : Px p a H (upd H1 l o) := by
  have hl : l ≠ p := x.was.ne n
  have ha : a ≠ l := x.was.ne2 n
  refine ⟨x.was, ?_, ?_⟩
  · obtain ⟨ns, i, c, k, s, h1, h2, h3⟩ := x.pool
    exact ⟨ns, i, c, k, s, by rw [upd_ne hl.symm]; exact h1, by rw [hid_upd_ne hl, upd_ne ha]; exact h2, h3⟩
  · rw [hid_upd_ne hl]; exact Ex.mut x.ex (hid_none n)
/-- a fresh object stands apart from the pool -/
theorem Px.seen (x : Px p a H H1) {l : Addr} {o : HO} (n : H l = none) (e : H1 l = some o) : hid p H1 l = some o := by
  rw [hid_ne (x.was.ne n)]; exact e
end
end G
namespace G
open PySem PySem.Spec PyProof.Rows L2 Evl
/-! ## comprehensions whose elements are plain values -/
theorem given_all {n : Nat} {v : Nat → V} : given n (fun _ => true) v = (List.range n).map v := by
  unfold given
  rw [List.filter_eq_self.mpr (fun _ _ => rfl)]
section
variable {lo : Int} {n j : Nat} {tt : TT} {te : TE} {vs : List Nat} {σ : L2.St} {H1 : Hp} {D : Addr} {Qd : Hp → Prop} {K : PySem.W.Frag} {a : Addr} {xs : List V}
theorem lc_turn {f : Nat → Bool} {v : Nat → V} {i : Nat} {H : Hp} {σ2 : L2.St} (e : H = upd H1 D (.lst (given i f v))) (hi : i < 100000) (ht : Ans tt σ2 H (f i)) (he : f i = true → Val te σ2 H (v i)) :
    tt σ2 H fun b H3 => if b = true then te σ2 H3 fun y H4 => ∃ acc, H4 D = some (.lst acc) ∧ acc.length < sizeLine ∧ (upd H4 D (.lst (acc ++ [y]))) = upd H1 D (.lst (given (i + 1) f v)) else H3 = upd H1 D (.lst (given (i + 1) f v)) := by
  refine ht _ ?_
  subst e
  cases hf : f i with
  | true =>
    refine iteT (he hf _ ⟨_, upd_same, sz_lt (by have := given_len i f v; omega), ?_⟩)
    rw [given_yes hf, upd_upd]
  | false =>
    refine iteF ?_
    rw [given_no hf]
theorem lcR (f : Nat → Bool) (v : Nat → V) (hn : n ≤ 100000) (hw : ∀ x, wipe ((wipe σ vs).set j (some x)) vs = wipe σ vs)
    (ht : ∀ (i : Nat) (H : Hp), i < n → H = upd H1 D (.lst (given i f v)) → Ans tt ((wipe σ vs).set j (some (.int (lo + i)))) H (f i))
    (he : ∀ (i : Nat) (H : Hp), i < n → H = upd H1 D (.lst (given i f v)) → f i = true → Val te ((wipe σ vs).set j (some (.int (lo + i)))) H (v i)) (q : Qd (upd H1 D (.lst (given n f v)))) :
    ∃ W : Nat → Nat → Hp → Prop, (∃ m, W 0 m (upd H1 D (.lst []))) ∧ ∀ i m H, W i m H →
      ((Itr lo n).stop i H ∧ Qd H) ∨ ((Itr lo n).go i H ∧ ∃ Nx : Hp → Prop, (∀ H', Nx H' → ∃ m', m' < m ∧ W (i + 1) m' H') ∧ ∀ x H', (Itr lo n).yld i H x H' → gName j x (wipe σ vs) H' fun σ2 H2 => wipe σ2 vs = wipe σ vs ∧ tt σ2 H2 fun b H3 =>
        if b = true then te σ2 H3 fun y H4 => ∃ acc, H4 D = some (.lst acc) ∧ acc.length < sizeLine ∧ Nx (upd H4 D (.lst (acc ++ [y]))) else Nx H3) :=
  lc_range (fun i H => H = upd H1 D (.lst (given i f v))) rfl (fun i H hi e => ⟨hw _, lc_turn e (by omega) (ht i H hi e) (he i H hi e)⟩) (fun H e => by rw [e]; exact q)
theorem lcRv (v : Nat → V) (hn : n ≤ 100000) (hw : ∀ x, wipe ((wipe σ vs).set j (some x)) vs = wipe σ vs)
    (he : ∀ (i : Nat) (H : Hp), i < n → H = upd H1 D (.lst (given i (fun _ => true) v)) → Val te ((wipe σ vs).set j (some (.int (lo + i)))) H (v i)) (q : Qd (upd H1 D (.lst ((List.range n).map v)))) :
    ∃ W : Nat → Nat → Hp → Prop, (∃ m, W 0 m (upd H1 D (.lst []))) ∧ ∀ i m H, W i m H →
      ((Itr lo n).stop i H ∧ Qd H) ∨ ((Itr lo n).go i H ∧ ∃ Nx : Hp → Prop, (∀ H', Nx H' → ∃ m', m' < m ∧ W (i + 1) m' H') ∧ ∀ x H', (Itr lo n).yld i H x H' → gName j x (wipe σ vs) H' fun σ2 H2 => wipe σ2 vs = wipe σ vs ∧ tYes σ2 H2 fun b H3 =>
        if b = true then te σ2 H3 fun y H4 => ∃ acc, H4 D = some (.lst acc) ∧ acc.length < sizeLine ∧ Nx (upd H4 D (.lst (acc ++ [y]))) else Nx H3) :=
  lcR (fun _ => true) v hn hw (fun _ _ _ _ => fun _ q => q) (fun i H hi e _ => he i H hi e) (by rw [given_all]; exact q)
theorem lcL (f : Nat → Bool) (v : Nat → V) (hx : SqL K H1 a xs) (hD : H1 D = none) (hn : xs.length ≤ 100000) (hw : ∀ x, wipe ((wipe σ vs).set j (some x)) vs = wipe σ vs)
    (ht : ∀ (i : Nat) (x : V) (H : Hp), xs[i]? = some x → H = upd H1 D (.lst (given i f v)) → Ans tt ((wipe σ vs).set j (some x)) H (f i))
    (he : ∀ (i : Nat) (x : V) (H : Hp), xs[i]? = some x → H = upd H1 D (.lst (given i f v)) → f i = true → Val te ((wipe σ vs).set j (some x)) H (v i)) (q : Qd (upd H1 D (.lst (given xs.length f v)))) :
    ∃ W : Nat → Nat → Hp → Prop, (∃ m, W 0 m (upd H1 D (.lst []))) ∧ ∀ i m H, W i m H →
      ((Itl K a).stop i H ∧ Qd H) ∨ ((Itl K a).go i H ∧ ∃ Nx : Hp → Prop, (∀ H', Nx H' → ∃ m', m' < m ∧ W (i + 1) m' H') ∧ ∀ x H', (Itl K a).yld i H x H' → gName j x (wipe σ vs) H' fun σ2 H2 => wipe σ2 vs = wipe σ vs ∧ tt σ2 H2 fun b H3 =>
        if b = true then te σ2 H3 fun y H4 => ∃ acc, H4 D = some (.lst acc) ∧ acc.length < sizeLine ∧ Nx (upd H4 D (.lst (acc ++ [y]))) else Nx H3) :=
  lc_list (fun i H => H = upd H1 D (.lst (given i f v))) rfl (fun i H hi e => by rw [e]; exact ex_l (Ex.new hD) hx) (fun i x H hi e => ⟨hw _, lc_turn e (by have := (List.getElem?_eq_some_iff.mp hi).1; omega) (ht i x H hi e) (he i x H hi e)⟩) (fun H e => by rw [e]; exact q)
theorem lcT (f : Nat → Bool) (v : Nat → V) (hx : SqT K H1 a xs) (hD : H1 D = none) (hn : xs.length ≤ 100000) (hw : ∀ x, wipe ((wipe σ vs).set j (some x)) vs = wipe σ vs)
    (ht : ∀ (i : Nat) (x : V) (H : Hp), xs[i]? = some x → H = upd H1 D (.lst (given i f v)) → Ans tt ((wipe σ vs).set j (some x)) H (f i))
    (he : ∀ (i : Nat) (x : V) (H : Hp), xs[i]? = some x → H = upd H1 D (.lst (given i f v)) → f i = true → Val te ((wipe σ vs).set j (some x)) H (v i)) (q : Qd (upd H1 D (.lst (given xs.length f v)))) :
    ∃ W : Nat → Nat → Hp → Prop, (∃ m, W 0 m (upd H1 D (.lst []))) ∧ ∀ i m H, W i m H →
      ((Itt K a).stop i H ∧ Qd H) ∨ ((Itt K a).go i H ∧ ∃ Nx : Hp → Prop, (∀ H', Nx H' → ∃ m', m' < m ∧ W (i + 1) m' H') ∧ ∀ x H', (Itt K a).yld i H x H' → gName j x (wipe σ vs) H' fun σ2 H2 => wipe σ2 vs = wipe σ vs ∧ tt σ2 H2 fun b H3 =>
        if b = true then te σ2 H3 fun y H4 => ∃ acc, H4 D = some (.lst acc) ∧ acc.length < sizeLine ∧ Nx (upd H4 D (.lst (acc ++ [y]))) else Nx H3) :=
  lc_tup (fun i H => H = upd H1 D (.lst (given i f v))) rfl (fun i H hi e => by rw [e]; exact ex_t (Ex.new hD) hx) (fun i x H hi e => ⟨hw _, lc_turn e (by have := (List.getElem?_eq_some_iff.mp hi).1; omega) (ht i x H hi e) (he i x H hi e)⟩) (fun H e => by rw [e]; exact q)
theorem lcLm (g : V → V) (hx : SqL K H1 a xs) (hD : H1 D = none) (hn : xs.length ≤ 100000) (hw : ∀ x, wipe ((wipe σ vs).set j (some x)) vs = wipe σ vs)
    (he : ∀ (i : Nat) (x : V) (H : Hp), xs[i]? = some x → H = upd H1 D (.lst ((xs.take i).map g)) → Val te ((wipe σ vs).set j (some x)) H (g x)) (q : Qd (upd H1 D (.lst (xs.map g)))) :
    ∃ W : Nat → Nat → Hp → Prop, (∃ m, W 0 m (upd H1 D (.lst []))) ∧ ∀ i m H, W i m H →
      ((Itl K a).stop i H ∧ Qd H) ∨ ((Itl K a).go i H ∧ ∃ Nx : Hp → Prop, (∀ H', Nx H' → ∃ m', m' < m ∧ W (i + 1) m' H') ∧ ∀ x H', (Itl K a).yld i H x H' → gName j x (wipe σ vs) H' fun σ2 H2 => wipe σ2 vs = wipe σ vs ∧ tYes σ2 H2 fun b H3 =>
        if b = true then te σ2 H3 fun y H4 => ∃ acc, H4 D = some (.lst acc) ∧ acc.length < sizeLine ∧ Nx (upd H4 D (.lst (acc ++ [y]))) else Nx H3) :=
  lc_list (fun i H => H = upd H1 D (.lst ((xs.take i).map g))) (by rw [List.take_zero]; rfl) (fun i H hi e => by rw [e]; exact ex_l (Ex.new hD) hx)
    (fun i x H hi e => ⟨hw _, by
      refine iteT (B := H = upd H1 D (.lst ((xs.take (i + 1)).map g))) ?_
      refine he i x H hi e _ ?_
      subst e
      refine ⟨_, upd_same, sz_lt ?_, ?_⟩
      · rw [List.length_map, List.length_take]; have := (List.getElem?_eq_some_iff.mp hi).1; omega
      · rw [upd_upd, List.take_add_one, hi, List.map_append]; rfl⟩) (fun H e => by rw [e, List.take_length]; exact q)
theorem lcTm (g : V → V) (hx : SqT K H1 a xs) (hD : H1 D = none) (hn : xs.length ≤ 100000) (hw : ∀ x, wipe ((wipe σ vs).set j (some x)) vs = wipe σ vs)
    (he : ∀ (i : Nat) (x : V) (H : Hp), xs[i]? = some x → H = upd H1 D (.lst ((xs.take i).map g)) → Val te ((wipe σ vs).set j (some x)) H (g x)) (q : Qd (upd H1 D (.lst (xs.map g)))) :
    ∃ W : Nat → Nat → Hp → Prop, (∃ m, W 0 m (upd H1 D (.lst []))) ∧ ∀ i m H, W i m H →
      ((Itt K a).stop i H ∧ Qd H) ∨ ((Itt K a).go i H ∧ ∃ Nx : Hp → Prop, (∀ H', Nx H' → ∃ m', m' < m ∧ W (i + 1) m' H') ∧ ∀ x H', (Itt K a).yld i H x H' → gName j x (wipe σ vs) H' fun σ2 H2 => wipe σ2 vs = wipe σ vs ∧ tYes σ2 H2 fun b H3 =>
        if b = true then te σ2 H3 fun y H4 => ∃ acc, H4 D = some (.lst acc) ∧ acc.length < sizeLine ∧ Nx (upd H4 D (.lst (acc ++ [y]))) else Nx H3) :=
  lc_tup (fun i H => H = upd H1 D (.lst ((xs.take i).map g))) (by rw [List.take_zero]; rfl) (fun i H hi e => by rw [e]; exact ex_t (Ex.new hD) hx)
    (fun i x H hi e => ⟨hw _, by
      refine iteT (B := H = upd H1 D (.lst ((xs.take (i + 1)).map g))) ?_
      refine he i x H hi e _ ?_
      subst e
      refine ⟨_, upd_same, sz_lt ?_, ?_⟩
      · rw [List.length_map, List.length_take]; have := (List.getElem?_eq_some_iff.mp hi).1; omega
      · rw [upd_upd, List.take_add_one, hi, List.map_append]; rfl⟩) (fun H e => by rw [e, List.take_length]; exact q)
end
end G
namespace G
open PySem PySem.Spec PyProof.Rows L2 Evl
/-! ## rules within a comprehension's block: the written part by its letter -/
section
variable {X : Cx} {K : PySem.W.Frag}
theorem kIxT (h : X.K = K) : IxR X (rIxT K) := by subst h; exact ix_tup
theorem kIxL (h : X.K = K) : IxR X (rIxL K) := by subst h; exact ix_list
theorem kIx (h : X.K = K) : IxR X (rIx K) := by subst h; exact ix_seq
theorem kIn (h : X.K = K) : OpR X (compareOp .In) (rIn K false) := by subst h; exact op_in_seq
theorem kNotIn (h : X.K = K) : OpR X (compareOp .NotIn) (rIn K true) := by subst h; exact op_notIn_seq
theorem kLen (h : X.K = K) : CallR X (.builtin "len") (rLenS K) := by subst h; exact call_len_seq
theorem gStr {x s : Str} {t : Tok} {pos : Pos} (hg : Gl X x) (h : X.mg x = some (.str s t)) (hd : (x == ("__debug__" : Str)) = false := by decide) : PE X (.Name x pos) (tC (.str s)) := pe_glob (v := .str s) hg h ⟨t, rfl⟩ hd
theorem gInt {x : Str} {i : Int} {t : Tok} {pos : Pos} (hg : Gl X x) (h : X.mg x = some (.int i t)) (hd : (x == ("__debug__" : Str)) = false := by decide) : PE X (.Name x pos) (tC (.int i)) := pe_glob (v := .int i) hg h ⟨t, rfl⟩ hd
theorem gRef {x : Str} {a : Addr} {pos : Pos} (hg : Gl X x) (h : X.mg x = some (.ref a)) (hd : (x == ("__debug__" : Str)) = false := by decide) : PE X (.Name x pos) (tC (.ref a)) := pe_glob (v := .ref a) hg h rfl hd
theorem kSlL (h : X.K = K) : SlR X (rSlL K) := by subst h; exact sl_list
theorem kCatA (h : X.K = K) : OpR X (binaryOp .Add) (rCatA K) := by subst h; exact op_catA
theorem kAny (h : X.K = K) (hc : X.calm = true) : CallR X (.builtin "any") (rAny K) := by subst h; exact cr_any hc
theorem kAll (h : X.K = K) (hc : X.calm = true) : CallR X (.builtin "all") (rAll K) := by subst h; exact cr_all hc
theorem kLtT (h : X.K = K) (hu : X.A.units < cLine) : OpR X (compareOp .Lt) (rLtT K) := by subst h; exact op_ltT hu
theorem kPiT {e tg : Expr} {te : TE} (h : X.K = K) (he : PE X e te) : PI X tg e (iTup K te) := by subst h; exact pi_tup he
theorem kPiL {e tg : Expr} {te : TE} (h : X.K = K) (he : PE X e te) : PI X tg e (iList K te) := by subst h; exact pi_list he
theorem kSlA (h : X.K = K) : SlR X (rSlA K) := by subst h; exact sl_tupA
end
end G
namespace G
open PySem PySem.Spec PyProof.Rows L2 Evl
theorem dpAll_map {α : Type} {K : PySem.W.Frag} {H : Hp} {f : α → V} {g : α → PyData} (h : ∀ x, Dp K H (f x) (g x)) : ∀ l : List α, DpAll K H (l.map f) (l.map g)
  | [] => .nil
  | x :: r => .cons (h x) (dpAll_map h r)
theorem dp_ints {K : PySem.W.Frag} {H : Hp} {a : Addr} {ns : List Int} (h : SqL K H a (ns.map V.int)) : Dp K H (.ref a) (.list (ns.map PyData.int)) := .lst h (dpAll_map (fun i => .int i) ns)
theorem dp_nil {K : PySem.W.Frag} {H : Hp} {a : Addr} (h : SqL K H a []) : Dp K H (.ref a) (.list []) := .lst h .nil
theorem eqv_nil (l : List PyData) : PyData.eqv (.list l) (.list []) = l.isEmpty := by cases l <;> rfl
theorem shaped_nil : SeqAt.shaped (.list []) = true := by decide +kernel
end G
/-! enumerate over a tuple -/
namespace PySem
section
variable {prog : Program} {w : World} {A : Around} {E : Value → Shared → Prop} {s : Shared}
theorem G_tupOf {h : Heap} {a : Addr} {xs : Array Value} (p : PyProof.Rows.IsTup h a xs) : h.IsTuple a xs := p
set_option maxHeartbeats 2000000 in
theorem G_enumNew {v : Value} {o : Obj} {Hh : Heap → Prop} (B : Begins v o Hh) :
    Meets (Builtin.«enumerate.__new__» ⟨[.type "enumerate", v], []⟩) (fun _ R s => Hh s.heap ∧
      R (.ok (.ret (.ref (s.heap.push o).objs.size))) { s with heap := (s.heap.push o).push { cls := .type "enumerate", data := .fields #[.none, .bool false, .ref s.heap.objs.size, rawInt 0, .none, .none] } }) :=
  .of_wp fun pr wo ar rr sh hh => by
    obtain ⟨hp, gg, dd, tk, os⟩ := sh; obtain ⟨h1, h2⟩ := hh
    have sub0 := sub_enumerate
    have qq : ∀ {A' : Around} {E : Value → Shared → Prop} {Q : Value → Shared → Prop}, Q (.ref hp.objs.size) ⟨hp.push o, gg, dd, tk, os⟩ → wpAny (model pr wo) A' (pyIter v) Q E ⟨hp, gg, dd, tk, os⟩ :=
      fun z => B.iter pr wo _ _ ⟨hp, gg, dd, tk, os⟩ _ h1 z
    wp_walk using qq
    refine wpAny_stack_any fun _ => wpAny_pure ?_
    split
    · rename_i cc _ _ _ _ _
      cases (cc == Value.type "enumerate") <;> (wp_walk using qq; exact ⟨_, rfl, h2⟩)
    · wp_walk using qq
      exact ⟨_, rfl, h2⟩
theorem G_enumCall {v : Value} {o : Obj} {Hh : Heap → Prop} {Q : Value → Shared → Prop} (B : Begins v o Hh) (h1 : Hh s.heap)
    (k : ∀ h', IsEnum h' (s.heap.objs.size + 1) s.heap.objs.size 0 .none → h'.get? s.heap.objs.size = some o → (∀ b u, s.heap.get? b = some u → h'.get? b = some u) → Q (.ref (s.heap.objs.size + 1)) { s with heap := h' }) :
    wpAny (model prog w) A (call (.type "enumerate") [v]) Q E s := by
  refine callType_new F.called_enumerate (by decide) (F.typeCall_enumerate_1 _) (F.newCall_enumerate_1 _) (fun y => F.args_object_init_2 y _) F.entry_enumerate_new (G_enumNew B) ⟨h1, ?_⟩
  have hz : (s.heap.push o).objs.size = s.heap.objs.size + 1 := Heap.size_push ..
  show _ ∧ _
  rw [hz]
  have he : IsEnum ((s.heap.push o).push { cls := .type "enumerate", data := .fields #[.none, .bool false, .ref s.heap.objs.size, rawInt 0, .none, .none] }) (s.heap.objs.size + 1) s.heap.objs.size 0 .none := by
    have hs := Heap.get?_push_size (s.heap.push o) (o := { cls := .type "enumerate", data := .fields #[.none, .bool false, .ref s.heap.objs.size, rawInt 0, .none, .none] }) rfl
    rw [hz] at hs; exact hs
  exact ⟨⟨_, he, rfl⟩, k _ he (Heap.get?_push_of_some _ (Heap.get?_push_size _ B.free)) fun b u x => Heap.get?_push_of_some _ (Heap.get?_push_of_some _ x)⟩
end
end PySem
namespace G
open PySem PySem.Spec PyProof.Rows L2 Evl
/-- the tuple at a at each turn, each item in a new pair -/
def IteT (K : PySem.W.Frag) (a : Addr) : It :=
  ⟨fun i H => ∃ (xs : List V) (x : V), SqT K H a xs ∧ xs[i]? = some x,
   fun i H v H' => ∃ T x, v = .ref T ∧ H T = none ∧ H' = upd H T (.tup [.int (i : Nat), x]) ∧ ∀ xs, SqT K H a xs → xs[i]? = some x,
   fun i H => ∃ xs : List V, SqT K H a xs ∧ xs.length = i⟩
theorem turn_enumT {P : Program} {w : World} {K : PySem.W.Frag} {elts : List Expr} {kk : Nat} {tpos : Pos} (a e it : Addr) :
    Turn P w K (.Tuple elts kk tpos) (IteT K a) [e, it] e (fun i h => (∃ old, IsEnum h e it ((i : Nat) : Int) old) ∧ h.IsTupleIter it a i ∧ e ≠ it ∧ a ≠ it ∧ a ≠ e) where
  mem := by simp
  obj := fun i h st b hb => by
    obtain ⟨⟨old, he⟩, ⟨o, ho, hc, hd⟩, _⟩ := st
    have hb' : b = e ∨ b = it := by simpa using hb
    rcases hb' with z | z
    · rw [z]; exact ⟨_, he, fun v q => nomatch q⟩
    · rw [z]; exact ⟨o, ho, fun v q => by rw [hd] at q; cases q⟩
  keep := fun i h h' st k => by
    obtain ⟨⟨old, he⟩, hi, hne⟩ := st
    exact ⟨⟨old, k e (by simp) _ he⟩, hi.at fun o q => k it (by simp) o q, hne⟩
  item := by
    intro X hP hw hK hc i pins s σ H E I hf st hg
    subst hP hw hK
    obtain ⟨⟨old, he⟩, hit, hne, hai, hae⟩ := st
    obtain ⟨xs, x, hq, hx⟩ := hg
    obtain ⟨its, rv, p, hz⟩ := I.tuple hq
    obtain ⟨u, hu, ru⟩ := rv.get hx
    have hel : e < s.heap.objs.size := Heap.lt_size he
    have hil : it < s.heap.objs.size := by obtain ⟨_, q, _⟩ := hit; exact Heap.lt_size q
    have hh : X.A.handled = none := I.ok.hd hc
    refine wpAny_pyNext_enum_itemD (Draws.tuple (A := X.A.in1) hh it a hai its.toArray) he ⟨hit, p⟩ ?_ hne ?_ fun y h' tk hy ho hst hT hsz hk => ?_
    · have := (List.getElem?_eq_some_iff.mp hu).1
      simpa using this
    · intro hm
      have hm' : e = it ∨ e = a := by simpa using hm
      rcases hm' with z | z
      · exact hne z
      · exact hae z.symm
    · have ey : y = u := by
        have hy' : its[i]? = some y := by simpa using hy
        exact Option.some.inj (hy'.symm.trans hu)
      subst ey
      refine ⟨_, rfl, wpAny_letOwnedTupleGo_enum (s := { s with heap := h', toks := tk + 1 }) ho fun h'' he' sb => ?_⟩
      have hT2 : h''.get? s.heap.objs.size = some { cls := .type "tuple", data := .seq #[.int i tk, y] } := (sb.2 _ (Nat.ne_of_gt hel)).trans hT
      have new : ObjOk X.prog X.w (upd H s.heap.objs.size (.tup [.int (i : Nat), x])) h'' s.heap.objs.size (.tup [.int (i : Nat), x]) :=
        ⟨by show 2 ≤ sizeLine; decide, [.int i tk, y], .cons ⟨_, rfl⟩ (.cons ru .nil), ⟨_, hT2, rfl, _, rfl⟩⟩
      have I1 : Inv X pins σ (upd H s.heap.objs.size (.tup [.int (i : Nat), x])) { s with heap := h'', toks := tk + 1 } :=
        I.turnedNew (ch := [e, it]) (fun b ob hb q => (sb.2 b (fun z => hb (by simp [z]))).trans (hk b ob (fun z => hb (by simp [z])) (fun z => hb (by simp [z])) q)) hf (Nat.le_refl _) new
      refine ⟨.ref s.heap.objs.size, _, I1, rfl, ⟨_, x, rfl, I.hok.fresh (Nat.le_refl _), rfl, fun ys hy => by rw [I.tuple_inj hy hq]; exact hx⟩, ⟨⟨y, ?_⟩, hst.1.at fun o q => (sb.2 it (Ne.symm hne)).trans q, hne, hai, hae⟩, fun b hb => ?_⟩
      · have e1 : ((i + 1 : Nat) : Int) = (i : Int) + 1 := by omega
        rw [e1]; exact he'
      · have hb' : b < s.heap.objs.size := by
          have hb2 : b = e ∨ b = it := by simpa using hb
          rcases hb2 with z | z
          · rw [z]; exact hel
          · rw [z]; exact hil
        rw [upd_ne (Nat.ne_of_lt hb')]
        exact (hf b hb).1
  done := by
    intro X hP hw hK hc i pins s σ H E I hf st hg
    subst hP hw hK
    obtain ⟨⟨old, he⟩, hit, hne, hai, hae⟩ := st
    obtain ⟨xs, hq, hx⟩ := hg
    obtain ⟨its, rv, p, hz⟩ := I.tuple hq
    obtain ⟨f0, f1, f2, f3, f4, f5⟩ := hf it (by simp)
    have hl := rv.length
    have hh : X.A.handled = none := I.ok.hd hc
    have ei : its.toArray.size = i := by rw [List.size_toArray, ← hl]; exact hx
    have st2 : s.heap.IsTupleIter it a its.toArray.size ∧ s.heap.IsTuple a its.toArray := by rw [ei]; exact ⟨hit, p⟩
    exact wpAny_pyNext_enum_endD (Draws.tuple (A := X.A.in1) hh it a hai its.toArray) he st2 fun h' eb => ⟨rfl, I.turned (t' := s.toks) (fun b o hb q => eb b o hb q) f0 f1 f3 f4 f5⟩
  self := fun A i s Q E st h => by
    obtain ⟨⟨_, he⟩, _⟩ := st
    exact wpAny_pyIter_enum he h
def iEnumT (K : PySem.W.Frag) (ta : TA) : TI := fun σ H R => ta σ H fun vs H1 => ∃ a xs, vs = [.ref a] ∧ SqT K H1 a xs ∧ R (IteT K a) H1
theorem pi_enumT {X : Cx} {e : Expr} {ta : TA} {p pos tpos : Pos} {elts : List Expr} {kk : Nat} (hg : Gl X "enumerate") (hm : X.mg "enumerate" = none) (ha : PA X [e] ta) (hs : starEach [e] X.env = [(false, eval e X.env)] := by rfl) :
    PI X (.Tuple elts kk tpos) (.Call (.Name "enumerate" p) [e] [] pos) (iEnumT X.K ta) := by
  refine ⟨fun pins s σ H R I h => Call_ (ld_blt I hg hm boot_enumerate (PyProof.Rows.callWith_type1 (thn (ha.run pos pins s σ H _ I h) fun us s1 ⟨vs, H1, I1, r1, q1⟩ => ?_) hs rfl))⟩
  obtain ⟨a, xs, rfl, hq, q⟩ := q1
  cases r1 with
  | cons r rr =>
    cases rr
    cases r
    obtain ⟨its, rv, p', hz⟩ := I1.tuple hq
    have hal : a < s1.heap.objs.size := by obtain ⟨o, ho, _⟩ := p'; exact Heap.lt_size ho
    refine G_enumCall (begins_tuple a its.toArray) p' fun h' he hit hk => wpAny_pyIter_enum he ?_
    have I2 : Inv X pins σ H1 { s1 with heap := h' } := I1.kept (t' := s1.toks) hk
    refine ⟨s1.heap.objs.size + 1, [s1.heap.objs.size + 1, s1.heap.objs.size], _, _, H1, rfl, I2, turn_enumT a (s1.heap.objs.size + 1) s1.heap.objs.size,
      ⟨⟨.none, he⟩, ⟨_, hit, rfl, rfl⟩, Nat.succ_ne_self _, Nat.ne_of_lt hal, Nat.ne_of_lt (Nat.lt_succ_of_lt hal)⟩, fun b hb => ?_, q⟩
    have hb' : b = s1.heap.objs.size + 1 ∨ b = s1.heap.objs.size := by simpa using hb
    have hle : s1.heap.objs.size ≤ b := by
      rcases hb' with z | z
      · rw [z]; exact Nat.le_add_right _ _
      · rw [z]; exact Nat.le_refl _
    exact I1.fpOk hle (I1.hok.fresh hle)
theorem walk_enumT {K : PySem.W.Frag} {a : Addr} {xs : List V} : Walk (IteT K a) xs.length (fun H => SqT K H a xs) (YPair (fun i => some (.int (i : Nat))) (fun i => xs[i]?)) := by
  refine ⟨fun i _ hi q => ⟨xs, xs[i], q, by simp [hi]⟩, fun _ q => ⟨xs, q, rfl⟩, fun i H v H' _ q y => ?_⟩
  obtain ⟨T, x, h1, h2, h3, h4⟩ := y
  exact ⟨T, .int (i : Nat), x, h1, h2, h3, rfl, h4 xs q⟩
theorem kPiEnumT {X : Cx} {K : PySem.W.Frag} {e : Expr} {ta : TA} {p pos tpos : Pos} {elts : List Expr} {kk : Nat} (h : X.K = K) (hg : Gl X "enumerate") (hm : X.mg "enumerate" = none) (ha : PA X [e] ta) (hs : starEach [e] X.env = [(false, eval e X.env)] := by rfl) :
    PI X (.Tuple elts kk tpos) (.Call (.Name "enumerate" p) [e] [] pos) (iEnumT K ta) := by subst h; exact pi_enumT hg hm ha hs
end G
/-! t[a::2], t a tuple -/
namespace HT
open PySem PySem.Spec PyProof.Rows L2
section
variable {prog : Program} {w : World} {A : Around} {E : Value → Shared → Prop} {s : Shared}
theorem g_applied {sl : Addr} {vl vu vs : Value} {lo hi : Option Int} {st : Int} {n : Nat} {Q : Int × Int × Nat → Shared → Prop} (hs : s.heap.IsSliceOf sl vl vu vs) (pl : IsPart vl lo) (pu : IsPart vu hi) (ps : IsPart vs (some st)) (h0 : st ≠ 0)
    (h : Q ((Builtin.Slice.sliceAdjust lo hi st (n : Int)).1, st, Builtin.Slice.slicePlaces (Builtin.Slice.sliceAdjust lo hi st (n : Int)).1 (Builtin.Slice.sliceAdjust lo hi st (n : Int)).2 st) s) :
    wpAny (model prog w) A (Builtin.Slice.sliceApplied (.ref sl) (pure (n : Int))) Q E s := by
  obtain ⟨ob, hob, _, hd⟩ := id hs
  unfold Builtin.Slice.sliceApplied Builtin.Slice.sliceFields
  refine wpAny_bind (wpAny_bind (wpAny_field hob hd (x := vl) rfl (wpAny_bind (wpAny_field hob hd (x := vu) rfl (wpAny_bind (wpAny_field hob hd (x := vs) rfl (wpAny_pure ?_)))))))
  refine wpAny_bind (slicePart_ ps ?_)
  show wpAny _ _ (if (st == 0) = true then _ else _) _ _ s
  rw [if_neg (by intro q; exact h0 (eq_of_beq q))]
  exact wpAny_bind (slicePart_ pl (wpAny_bind (slicePart_ pu (wpAny_bind (wpAny_pure (wpAny_pure h))))))
def stepped (xs : List Value) (lo st : Int) (n : Nat) : List Value := (List.range n).filterMap fun (k : Nat) => xs.toArray[(lo + (k : Int) * st).toNat]?
theorem g_getStep {t sl : Addr} {its : List Value} {vl vu vs : Value} {lo hi : Option Int} {st : Int} {Q : Value → Shared → Prop} (ht : IsTup s.heap t its.toArray) (hs : s.heap.IsSliceOf sl vl vu vs) (pl : IsPart vl lo) (pu : IsPart vu hi) (ps : IsPart vs (some st)) (h0 : st ≠ 0) (h1 : st ≠ 1)
    (hz : (stepped its (Builtin.Slice.sliceAdjust lo hi st (its.toArray.size : Int)).1 st (Builtin.Slice.slicePlaces (Builtin.Slice.sliceAdjust lo hi st (its.toArray.size : Int)).1 (Builtin.Slice.sliceAdjust lo hi st (its.toArray.size : Int)).2 st)).length ≤ sizeLine)
    (h : Q (.ref s.heap.objs.size) { s with heap := s.heap.push { cls := .type "tuple", data := .seq (stepped its (Builtin.Slice.sliceAdjust lo hi st (its.toArray.size : Int)).1 st (Builtin.Slice.slicePlaces (Builtin.Slice.sliceAdjust lo hi st (its.toArray.size : Int)).1 (Builtin.Slice.sliceAdjust lo hi st (its.toArray.size : Int)).2 st)).toArray } }) :
    wpAny (model prog w) A (getItem (.ref t) (.ref sl)) Q E s := by
  have ok : sizeOk (.seq (stepped its (Builtin.Slice.sliceAdjust lo hi st (its.toArray.size : Int)).1 st (Builtin.Slice.slicePlaces (Builtin.Slice.sliceAdjust lo hi st (its.toArray.size : Int)).1 (Builtin.Slice.sliceAdjust lo hi st (its.toArray.size : Int)).2 st)).toArray) := by
    show (stepped its _ st _).toArray.size ≤ sizeLine
    rw [List.size_toArray]; exact hz
  obtain ⟨ob, hob, hc, hd⟩ := id hs
  have hTs : s.TypeIs (.ref sl) "slice" := ⟨ob, hob, hc⟩
  unfold getItem
  try with_reducible refine wpAny_holding ?_
  first | refine wpAny_bind (wpAny_pure ?_) | skip
  refine wpAny_bind (wpAny_sequenceKey ht.typeIs (by decide) ?_)
  refine wpAny_bind (wpAny_callSpecial?_slot (name := Str.ofString "__getitem__") ht.typeIs slot_tuple_getitem (wpAny_call_entry slot_tuple_getitem ht.typeIs entry_tuple_getitem ?_ (args_tuple_getitem _ _)))
  show wpAny _ _ (Builtin.Tuple.tupleItemsOf (.ref t) >>= _) _ _ s
  refine wpAny_bind (tupleItemsOf_ ht (wpAny_bind (wpAny_typeOf hTs ?_)))
  rw [if_pos (by decide)]
  refine wpAny_bind (g_applied hs pl pu ps h0 ?_)
  generalize (Builtin.Slice.sliceAdjust lo hi st (its.toArray.size : Int)).1 = l0 at *
  generalize Builtin.Slice.slicePlaces l0 (Builtin.Slice.sliceAdjust lo hi st (its.toArray.size : Int)).2 st = n0 at *
  have hno : ¬ ((l0 == 0 && st == 1 && n0 == its.toArray.size) = true) := by
    intro q
    rw [Bool.and_eq_true, Bool.and_eq_true] at q
    exact h1 (eq_of_beq q.1.2)
  show wpAny _ _ (if (l0 == 0 && st == 1 && n0 == its.toArray.size) = true then _ else _) _ _ s
  rw [if_neg hno]
  first
    | exact wpAny_bind (m := Builtin.Tuple.tupleExact _) (wpAny_newObj_type (wpAny_pure ⟨_, rfl, wpAny_pure h⟩) ok)
    | exact wpAny_bind (m := Builtin.Tuple.tupleExact _) (wpAny_newObj_type (wpAny_bind (wpAny_pure (wpAny_pure ⟨_, rfl, wpAny_pure h⟩))) ok)
    | exact wpAny_bind (wpAny_bind (m := Builtin.Tuple.tupleExact _) (wpAny_newObj_type (wpAny_pure (wpAny_pure ⟨_, rfl, wpAny_pure h⟩)) ok))
    | exact wpAny_bind (wpAny_bind (m := Builtin.Tuple.tupleExact _) (wpAny_newObj_type (wpAny_pure ⟨_, rfl, wpAny_pure h⟩) ok))
end
end HT
namespace G
open PySem PySem.Spec PyProof.Rows L2 Evl
/-- every second item from a on -/
def halfL {α : Type} (a : Nat) (xs : List α) : List α := (List.range ((xs.length - a + 1) / 2)).filterMap fun k => xs[a + 2 * k]?
theorem halfL_len {α : Type} (a : Nat) (xs : List α) : (halfL a xs).length ≤ xs.length + 1 := by
  unfold halfL
  refine Nat.le_trans (List.length_filterMap_le _ _) ?_
  rw [List.length_range]; omega
theorem vals_filterMap {f : Nat → Option V} {g : Nat → Option Value} : ∀ {l : List Nat}, (∀ k, k ∈ l → RelO (f k) (g k)) → Vals (l.filterMap f) (l.filterMap g)
  | [], _ => .nil
  | k :: r, h => by
    have hk := h k (List.mem_cons_self ..)
    have ih := vals_filterMap (l := r) fun j hj => h j (List.mem_cons_of_mem _ hj)
    rw [List.filterMap_cons, List.filterMap_cons]
    cases e : f k with
    | none =>
      cases e2 : g k with
      | none => exact ih
      | some u => rw [e, e2] at hk; exact hk.elim
    | some v =>
      cases e2 : g k with
      | none => rw [e, e2] at hk; exact hk.elim
      | some u => rw [e, e2] at hk; exact .cons hk ih
def tHalf (K : PySem.W.Frag) (a : Nat) (te : TE) : TE := fun σ H Q => te σ H fun x H1 => ∃ t xs, x = .ref t ∧ SqT K H1 t xs ∧ xs.length ≤ 100000 ∧ ∀ p, H1 p = none → Q (.ref p) (upd H1 p (.tup (halfL a xs)))
theorem half_places {a n : Nat} (h : a ≤ 1) : (Builtin.Slice.sliceAdjust (some (a : Int)) none 2 (n : Int)).1 = ((min a n : Nat) : Int) ∧
    Builtin.Slice.slicePlaces (Builtin.Slice.sliceAdjust (some (a : Int)) none 2 (n : Int)).1 (Builtin.Slice.sliceAdjust (some (a : Int)) none 2 (n : Int)).2 2 = (n - a + 1) / 2 := by
  have h2 : ¬ ((2 : Int) < 0) := by omega
  have h3 : (2 : Int) > 0 := by omega
  have ha : ¬ ((a : Int) < 0) := by omega
  have e : Builtin.Slice.sliceAdjust (some (a : Int)) none 2 (n : Int) = (((min a n : Nat) : Int), (n : Int)) := by
    unfold Builtin.Slice.sliceAdjust
    simp only [h2, if_false, ha]
    refine Prod.ext ?_ rfl
    show min (a : Int) (n : Int) = ((min a n : Nat) : Int)
    omega
  rw [e]
  refine ⟨rfl, ?_⟩
  show Builtin.Slice.slicePlaces ((min a n : Nat) : Int) (n : Int) 2 = (n - a + 1) / 2
  unfold Builtin.Slice.slicePlaces
  simp only [h3, if_true]
  split <;> omega
section
variable {X : Cx}
theorem pe_half {e : Expr} {te : TE} {a : Nat} {k1 k2 : Nat} {p1 p2 p3 pos : Pos} (ha : a ≤ 1) (he : PE X e te) : PE X (.Subscript e (.Slice (some (.Constant (.int (a : Int)) k1 p1)) none (some (.Constant (.int 2) k2 p2)) p3) pos) (tHalf X.K a te) := by
  refine ⟨fun pins s σ H Q I h => Subscript_ (thn (he.run pins s σ H _ I h) fun v s1 ⟨x, H1, I1, r1, q1⟩ => ?_)⟩
  obtain ⟨t, xs, rfl, hx, hlen, q⟩ := q1
  cases r1
  have hlo : PO X (some (.Constant (.int (a : Int)) k1 p1)) (tPart (tC (.int (a : Int)))) := po_some pe_int
  have hst : PO X (some (.Constant (.int 2) k2 p2)) (tPart (tC (.int 2))) := po_some pe_int
  refine wpAny_Slice (thn (hlo.run pins s1 σ H1 (fun o H2 => o = some (a : Int) ∧ H2 = H1) I1 ⟨_, rfl, rfl, rfl⟩) fun vl s2 ⟨l, H2, I2, pl, el, e2⟩ => ?_)
  subst el e2
  refine thn (po_none.run pins s2 σ H2 (fun o H3 => o = none ∧ H3 = H2) I2 ⟨rfl, rfl⟩) fun vu s3 ⟨u, H3, I3, pu, eu, e3⟩ => ?_
  subst eu e3
  refine thn (hst.run pins s3 σ H3 (fun o H4 => o = some 2 ∧ H4 = H3) I3 ⟨_, rfl, rfl, rfl⟩) fun vs s4 ⟨o, H4, I4, ps, eo, e4⟩ => ?_
  subst eo e4
  have I5 : Inv X pins σ H4 { s4 with heap := s4.heap.push { cls := .type "slice", data := .fields #[vl, vu, vs] } } := I4.kept (t' := s4.toks) fun b ob q => Heap.get?_push_of_some _ q
  obtain ⟨its, r, ht, hz⟩ := I5.tuple hx
  have hl : its.toArray.size = xs.length := by rw [List.size_toArray]; exact r.length.symm
  obtain ⟨hp1, hp2⟩ := half_places (n := xs.length) ha
  have hrel : Vals (halfL a xs) (HT.stepped its ((min a xs.length : Nat) : Int) 2 ((xs.length - a + 1) / 2)) := by
    unfold halfL HT.stepped
    refine vals_filterMap fun k hk => ?_
    have hk' := List.mem_range.mp hk
    have hi : a + 2 * k < xs.length := by omega
    have en : (((min a xs.length : Nat) : Int) + (k : Int) * 2).toNat = a + 2 * k := by omega
    rw [en, List.getElem?_eq_getElem hi]
    obtain ⟨u, hu, ru⟩ := r.get (List.getElem?_eq_getElem hi)
    rw [List.getElem?_toArray, hu]
    exact ru
  have hsz : (halfL a xs).length ≤ sizeLine := sz_of (by
    unfold halfL
    refine Nat.le_trans (List.length_filterMap_le _ _) ?_
    rw [List.length_range]
    omega)
  show wpAny (model X.prog X.w) X.A (subscriptTail e (.Slice (some (.Constant (.int (a : Int)) k1 p1)) none (some (.Constant (.int 2) k2 p2)) p3) (.ref t) (.ref s4.heap.objs.size)) (EP X pins σ Q) X.xe { s4 with heap := s4.heap.push { cls := .type "slice", data := .fields #[vl, vu, vs] } }
  refine tail_any (ops := [.ref t, .ref s4.heap.objs.size]) ht.typeIs PyProof.Rows.slot_tuple_getitem.lookup ?_ (by with_unfolding_all rfl)
  refine HT.g_getStep ht (Heap.IsSliceOf.new _ vl vu vs) pl pu ps (by decide) (by decide) ?_ ?_
  · rw [hl, hp2, hp1, ← hrel.length]; exact hsz
  · rw [hl, hp2, hp1]
    refine ⟨.ref _, _, I5.laid (t' := s4.toks) (o := .tup (halfL a xs)) (fun b ob q => Heap.get?_push_of_some _ q) (Nat.le_refl _) ?_, rfl, q _ (I5.hok.fresh (Nat.le_refl _))⟩
    exact ⟨hsz, _, hrel, ⟨_, Heap.get?_push_size _ rfl, rfl, _, rfl⟩⟩
end
end G
namespace XS
open PySem PySem.Spec PyProof.Rows L2 PySem.Froz
/-! sets of texts: set(xs), len, in, sorted, add -/
structure TxAt (P : Program) (w : World) (h : Heap) (a : Addr) (l : List Str) : Prop where
  ex : ∃ D : SD, h.get? a = some (sObj "set" D) ∧ TxOk P w D l ∧ Ris D.2.2.place.toList ∧ (w.params.followText "set-order" = true ∨ D.2.2.led = true)
  one : l.Nodup
  few : l.length < 64
theorem tail_ris {ep : Nat} {es : Array (Int × Value)} {t : SetTable} {d : Bool} (r : Ris t.place.toList) : Ris (tailTx ep es t d).2.2.place.toList ∧ (tailTx ep es t d).2.2.led = t.led := by
  unfold tailTx
  split
  · exact ⟨relayAll_ris _ _ _, relayAll_led _ _ _⟩
  · exact ⟨r, rfl⟩
theorem add_ris {D : SD} {h : Int} {v : Value} (r : Ris D.2.2.place.toList) : Ris (addTx h v D).2.2.place.toList ∧ (addTx h v D).2.2.led = D.2.2.led := by
  have r1 := layNew_ris D.2.2 D.1 h v r
  have e1 := layNew_led D.2.2 D.1 h v
  unfold addTx
  refine (fun z => ⟨(tail_ris z.1).1, (tail_ris z.1).2.trans z.2⟩) (?_ : Ris (SetTable.place _).toList ∧ SetTable.led _ = D.2.2.led)
  split
  · exact ⟨r1, e1⟩
  · exact ⟨r1, e1⟩
section
variable {P : Program} {w : World} {A : Around} {E : Value → Shared → Prop} {s : Shared} {a : Addr} {l : List Str}
theorem TxAt.at {h h' : Heap} (R : TxAt P w h a l) (k : ∀ o, h.get? a = some o → h'.get? a = some o) : TxAt P w h' a l := by
  obtain ⟨⟨D, ho, r⟩, x, y⟩ := R
  exact ⟨⟨D, k _ ho, r⟩, x, y⟩
theorem TxAt.setOf {h : Heap} (R : TxAt P w h a l) : h.SetOf (strKind P w) a (fun k => decide (k ∈ l)) l.length := by
  obtain ⟨⟨D, ho, F, _⟩, _, f⟩ := R
  exact ⟨_, D.1, D.2.1, D.2.2, ho, ⟨rfl, rfl, rfl⟩, rfl, F.el, (fun k => by rw [decide_eq_true_eq]; exact F.mem k), by rw [F.sz]; unfold scanBound; omega, F.fit, F.sz⟩
/-- a member added -/
theorem add_at {k : Str} {u : Tok} {Q : Bool → Shared → Prop} (R : TxAt P w s.heap a l) (hb : l.length + 1 < 64)
    (hQ : ∀ h' l' b, Heap.SameBut a s.heap h' → TxAt P w h' a l' → (k ∈ l ∧ l' = l ∨ k ∉ l ∧ l' = k :: l) → Q b { s with heap := h' }) : wpAny (model P w) A (setAddHashed a (.str k u) (hashStr w k)) Q E s := by
  by_cases hk : k ∈ l
  · have R' := R
    obtain ⟨⟨D, ho, F, hr, hl⟩, ho1, hf1⟩ := R
    obtain ⟨es, ep, t⟩ := D
    have hs : es.size = l.length := F.sz
    have hel : ElemsOf (strKind P w) es.toList := F.el
    have hd : (sObj "set" (es, ep, t)).data = .set es ep t := rfl
    unfold setAddHashed setAddHashedIn
    refine wpAny_holding (wpAny_bind (wpAny_setState_of ho hd F.fit ?_))
    dsimp only
    rw [byScan_of rfl (by rw [hs]; unfold scanBound; omega) hel]
    simp only [↓reduceIte]
    unfold setAddByScan
    refine wpAny_bind (wpAny_bind (wpAny_rule (wpAny_bind (wpAny_setScan_of (knd := strKind P w) (k := k) (is_str k u) ho hd F.fit hel ?_))))
    cases hfi : List.findIdx? (fun e => (strKind P w).is k e.2) es.toList with
    | none =>
      obtain ⟨e, he, q⟩ := (F.mem k).mp hk
      have c := List.findIdx?_eq_none_iff.mp hfi e he
      rw [q] at c
      cases c
    | some j =>
      dsimp only
      exact wpAny_pure (wpAny_pure (hQ s.heap l _ (Heap.SameBut.refl a s.heap) R' (.inl ⟨hk, rfl⟩)))
  · obtain ⟨⟨D, ho, F, hr, hl⟩, ho1, hf1⟩ := R
    refine add_x (u := u) ho F hk (by unfold scanBound; omega) (hQ _ (k :: l) _ ⟨Heap.size_update _ _ _, fun b hb => Heap.get?_update_other _ _ (Ne.symm hb)⟩ ⟨⟨_, get_upd _ ho rfl, add_ok u F, (add_ris hr).1, hl.imp id fun z => (add_ris hr).2.trans z⟩, List.nodup_cons.mpr ⟨hk, ho1⟩, hb⟩ (.inr ⟨hk, rfl⟩))
/-- set.add -/
theorem add_call {k : Str} {u : Tok} {Q : Value → Shared → Prop} (R : TxAt P w s.heap a l) (hb : l.length + 1 < 64)
    (hQ : ∀ h' l', Heap.SameBut a s.heap h' → TxAt P w h' a l' → (k ∈ l ∧ l' = l ∨ k ∉ l ∧ l' = k :: l) → Q .none { s with heap := h', toks := s.toks + 1 }) :
    wpAny (model P w) A (call (.builtin "set.add") [.ref a, .str k u]) Q E s := by
  refine wpAny_call_entry F.slot_set_add R.setOf.typeIs F.entry_set_add ?_ (F.args_set_add_2 _ _)
  unfold Builtin.«set.add» Builtin.Frozenset.oneOther
  simp only [List.isEmpty_nil, bind_assoc]
  unfold Builtin.Frozenset.addrOf setAdd
  refine wpAny_bind (wpAny_pure ?_)
  try dsimp only
  refine wpAny_bind (wpAny_pure ?_)
  try dsimp only
  refine wpAny_bind (wpAny_holding (wpAny_bind ((strKind P w).pyHash (strKind_is P w k u) ?_)))
  refine add_at (s := { s with toks := s.toks + 1 }) R hb fun h' l' b sb r z => ?_
  show wpAny _ _ (ret Value.none) _ _ _
  exact wpAny_pure ⟨_, rfl, hQ h' l' sb r z⟩
theorem tx_fresh {h : Heap} (ho : h.get? a = some { cls := .type "set", dict := none, data := .set #[] 0 (.fresh 0 0 (!w.params.followText "set-order")) }) : TxAt P w h a [] where
  ex := ⟨(#[], 0, .fresh 0 0 (!w.params.followText "set-order")), ho, TxOk.nil rfl, List.Pairwise.nil, by
    show _ ∨ (!w.params.followText "set-order") = true
    cases w.params.followText "set-order"
    · exact .inr rfl
    · exact .inl rfl⟩
  one := List.nodup_nil
  few := by show 0 < 64; decide
/-- the first i of xs, each once -/
structure Part (xs : List Str) (i : Nat) (l : List Str) : Prop where
  mem : ∀ x, x ∈ l ↔ x ∈ xs.take i
  len : l.length ≤ i
theorem Part.next {xs : List Str} {i : Nat} {l l' : List Str} {k : Str} (p : Part xs i l) (hk : xs[i]? = some k) (z : k ∈ l ∧ l' = l ∨ k ∉ l ∧ l' = k :: l) : Part xs (i + 1) l' := by
  have e : ∀ x, x ∈ xs.take (i + 1) ↔ x ∈ xs.take i ∨ x = k := fun x => by rw [List.take_add_one, hk]; simp
  rcases z with ⟨h, rfl⟩ | ⟨h, rfl⟩
  · exact ⟨fun x => by rw [e, p.mem]; exact ⟨.inl, fun z => z.elim id fun q => q ▸ (p.mem k).mp h⟩, Nat.le_succ_of_le p.len⟩
  · exact ⟨fun x => by rw [e, List.mem_cons, p.mem]; exact Or.comm, Nat.succ_le_succ p.len⟩
end

section
variable {P : Program} {w : World} {A : Around} {E : Value → Shared → Prop} {s : Shared} {R : Result → Shared → Prop} {I : Addr} {fp wr : List Addr} {G : Array GenState → Array GenState → Prop} {n : Nat} {Pv : Nat → Value → Prop} {St : Nat → Shared → Prop}
theorem upd_loop (W : WalksS P w A.in1 I fp wr G n Pv St) (a : Addr) (ha : a ∉ fp) (xs : List Str) (hn : n = xs.length) (few : xs.length < 64) (hv : ∀ i v, Pv i v → ∃ k u, xs[i]? = some k ∧ v = .str k u) :
    ∀ (m i : Nat) (s : Shared) (l : List Str), n - i = m → i ≤ n → St i s → TxAt P w s.heap a l → Part xs i l →
      (∀ s' l', Moved (a :: wr) G s s' → TxAt P w s'.heap a l' → Part xs n l' → R (.ok (.ret .none)) s') →
      codeAny (model P w) A (.builtin "set.update.loop" ⟨[.ref a, .ref I], []⟩) R s := by
  have aw : a ∉ wr := fun h => ha (W.sub _ h)
  have up : ∀ b ∈ wr, b ∈ a :: wr := fun b hb => List.mem_cons_of_mem _ hb
  intro m
  induction m with
  | zero =>
    intro i s l hm hi st T p hR
    obtain rfl : i = n := by omega
    refine codeAny_builtin F.entry_set_update_loop ?_
    rw [Around.under_plainId F.plain_set_update_loop _]
    show wpAny _ A.in1 (pyNext (.ref I) >>= _) _ _ s
    refine wpAny_bind (W.done s _ _ st fun s' mv => ?_)
    show wpAny _ A.in1 (ret Value.none) _ _ s'
    exact wpAny_pure (hR s' l (mv.mono up) (T.at fun o e => mv.heap a o aw e) p)
  | succ m ih =>
    intro i s l hm hi st T p hR
    have lt : i < n := by omega
    refine codeAny_builtin F.entry_set_update_loop ?_
    rw [Around.under_plainId F.plain_set_update_loop _]
    show wpAny _ A.in1 (pyNext (.ref I) >>= _) _ _ s
    refine wpAny_bind (W.item i s _ _ lt st fun v s' hP st' mv => ?_)
    obtain ⟨k, u, hk, rfl⟩ := hv i v hP
    have T1 : TxAt P w s'.heap a l := T.at fun o e => mv.heap a o aw e
    show wpAny _ A.in1 (holding [Value.str k u] (setAdd a (.str k u)) >>= _) _ _ s'
    refine wpAny_bind (wpAny_holding ?_)
    unfold setAdd
    refine wpAny_holding (wpAny_bind ((strKind P w).pyHash (strKind_is P w k u) ?_))
    refine add_at (s := { s' with toks := s'.toks + 1 }) T1 (by have := p.len; omega) fun h' l' b sb T2 z => ?_
    refine wpAny_pure ⟨plainId_quiet F.plain_set_update_loop _, ih (i + 1) _ l' (by omega) lt (W.frame _ s' _ _ st' (Nat.le_succ _) fun b hb o e => ?_) T2 (p.next hk z) fun s2 l2 mv2 T3 p3 => ?_⟩
    · rw [sb.2 b fun q => ha (q ▸ hb)]; exact e
    · refine hR s2 l2 (Moved.trans W.gtrans ((mv.mono up).then_heap (Nat.le_succ _) fun b o hb e => ?_) mv2) T3 p3
      rw [sb.2 b fun q => hb (q ▸ List.mem_cons_self)]; exact e
end

section
variable {P : Program} {w : World} {A : Around} {E : Value → Shared → Prop} {s : Shared}
/-- an empty set's object -/
def eO (w : World) : Obj := { cls := .type "set", dict := none, data := .set #[] 0 (.fresh 0 0 (!w.params.followText "set-order")) }
set_option maxRecDepth 100000 in
set_option maxHeartbeats 3200000 in
theorem set_list {l : Addr} {items : Array Value} (xs : List Str) {Q : Value → Shared → Prop} (hh : A.handled = none) (hl : s.heap.IsList l items) (hit : StrsAre items.toList xs) (few : xs.length < 64)
    (h : ∀ (h' : Heap) (tk : Nat) (m : List Str), TxAt P w h' s.heap.objs.size m → Part xs xs.length m → (∀ b o, s.heap.get? b = some o → h'.get? b = some o) → Q (.ref s.heap.objs.size) { s with heap := h', toks := tk }) :
    wpAny (model P w) A (call (.type "set") [.ref l]) Q E s := by
  have isz : items.size = xs.length := by rw [← StrsAre.len_eq hit, Array.length_toList]
  obtain ⟨c, tl, hmro⟩ := F.called_set.mro
  have g1 := F.called_set.made
  have g2 := F.called_set.sub
  have g3 := F.called_set.notType
  have g4 := F.called_set.canCreate
  have g5 := F.typeCall_set_1 (.ref l)
  refine wpAny_call (codeAny_of_tree ?_)
  show wpAny _ _ (callAny (.type "set") _) _ _ _
  refine wpAny_pure ⟨Code.quiet_builtin _ (by decide +kernel), codeAny_builtin F.entry_type_call ?_⟩
  rw [Around.under_plain (weight_type_call_type "set" [.ref l] []) rfl]
  repeat (any_goals (first | assumption | wp_step))
  refine codeAny_mono (code_set_led1 (.ref l) (E := E) (Q₁ := fun ob s1 => ob = .ref s.heap.objs.size ∧ s1 = { s with heap := s.heap.push (eO w) }) ⟨rfl, rfl⟩) fun r s1 hr => ?_
  cases r with
  | error e => exact hr
  | ok fl =>
    cases fl with
    | ret ob =>
      obtain ⟨rfl, rfl⟩ := hr
      have hS : (s.heap.push (eO w)).get? s.heap.objs.size = some (eO w) := Heap.get?_push_size _ rfl
      have hT : Shared.TypeIs { s with heap := s.heap.push (eO w) } (.ref s.heap.objs.size) "set" := ⟨_, hS, rfl⟩
      have g6 := F.called_set.init.lookup
      have g7 := F.called_set.init.bind (.ref s.heap.objs.size)
      repeat (any_goals (first | assumption | wp_step))
      refine codeAny_mono (codeAny_call_builtin (R := wants (fun r s2 => r = .none ∧ ∃ h' tk m, s2 = { s with heap := h', toks := tk } ∧ TxAt P w h' s.heap.objs.size m ∧ Part xs xs.length m ∧
          (∀ b o, s.heap.get? b = some o → h'.get? b = some o)) E) F.called_set.init.plain F.entry_set_init (check_set_init_1 hT ?_)) fun r2 s2 hr2 => ?_
      · obtain ⟨⟨ocls, odict, odata, oslots⟩, hol, hcl, nl, hdl⟩ := hl
        simp only at hcl hdl
        subst hcl; subst hdl
        have hol' : (s.heap.push (eO w)).get? l = some { cls := .type "list", dict := odict, data := .seq items nl, slots := oslots } := Heap.get?_push_of_some _ hol
        have g8 := F.sub_list_set
        have g9 := F.sub_list_frozenset
        have g10 : (Value.type "list" == Value.type "dict") = false := by decide
        have hl1 : (s.heap.push (eO w)).IsList l items := ⟨_, hol', rfl, nl, rfl⟩
        unfold Builtin.«set.__init__» noKeywords Builtin.Frozenset.updateFrom
        generalize hPI : pyIter = PI
        wp_walk
        subst hPI
        refine wpAny_pyIter_list hl1 (wpAny_bind (wpAny_runValue ?_))
        have lS : l < s.heap.objs.size := Heap.lt_size hol
        have hh3 : A.in1.in1.in1.handled = none := by simp [hh]
        have nI : l ≠ (s.heap.push (eO w)).objs.size := by rw [Heap.size_push]; exact Nat.ne_of_lt (Nat.lt_succ_of_lt lS)
        have nf : s.heap.objs.size ∉ [(s.heap.push (eO w)).objs.size, l] := by
          rw [Heap.size_push]; simp only [List.mem_cons, List.mem_singleton, List.not_mem_nil, or_false, not_or]
          exact ⟨Nat.ne_of_lt (Nat.lt_succ_self _), Nat.ne_of_gt lS⟩
        refine upd_loop ((Walks.list hh3 _ l nI items).toS) s.heap.objs.size nf xs isz few (fun i v e => ?_) (items.size - 0) 0 _ [] (by omega) (Nat.zero_le _)
          ⟨⟨_, Heap.get?_push_size _ rfl, rfl, rfl⟩, (hl1.push _)⟩ (tx_fresh (Heap.get?_push_of_some _ hS)) ⟨fun x => by simp, Nat.le_refl _⟩ fun s' m mv T p => ?_
        · have q : items.toList[i]? = some v := by rw [Array.getElem?_toList]; exact e
          obtain ⟨t, rfl⟩ := SS.strs_at hit i v q
          have hi : i < xs.length := by rw [← StrsAre.len_eq hit]; exact (List.getElem?_eq_some_iff.mp q).1
          exact ⟨xs[i], t, List.getElem?_eq_getElem hi, by rw [List.getD_eq_getElem?_getD, List.getElem?_eq_getElem hi]; rfl⟩
        · obtain ⟨h', g', d', tk', os'⟩ := s'
          have e1 : g' = s.gens := mv.gens
          have e2 : d' = s.drawn := mv.drawn
          have e3 : os' = s.os := mv.os
          subst e1; subst e2; subst e3
          show wpAny _ _ _ _ _ _
          refine wpAny_pure ?_
          show wpAny _ _ (ret Value.none) _ _ _
          rw [isz] at p
          refine wpAny_pure ⟨rfl, h', tk', m, rfl, T, p, fun b o e => ?_⟩
          have hb : b < s.heap.objs.size := Heap.lt_size e
          refine mv.heap b o ?_ (Heap.get?_push_of_some _ (Heap.get?_push_of_some _ e))
          rw [Heap.size_push]; simp only [List.mem_cons, List.mem_singleton, List.not_mem_nil, or_false, not_or]
          exact ⟨Nat.ne_of_lt hb, Nat.ne_of_lt (Nat.lt_succ_of_lt hb)⟩
      · cases r2 with
        | error e => exact hr2
        | ok f2 =>
          cases f2 with
          | ret r =>
            obtain ⟨rfl, h', tk, m, rfl, T, p, k⟩ := hr2
            repeat (any_goals (first | assumption | wp_step))
            exact h _ _ _ T p k
          | _ => exact hr2.elim
    | _ => exact hr.elim
end

section
variable {P : Program} {w : World} {A : Around} {E : Value → Shared → Prop} {s : Shared}
set_option maxRecDepth 100000 in
set_option maxHeartbeats 3200000 in
theorem set_tuple {l : Addr} {items : Array Value} (xs : List Str) {Q : Value → Shared → Prop} (hh : A.handled = none) (hl : s.heap.IsTuple l items) (hit : StrsAre items.toList xs) (few : xs.length < 64)
    (h : ∀ (h' : Heap) (tk : Nat) (m : List Str), TxAt P w h' s.heap.objs.size m → Part xs xs.length m → (∀ b o, s.heap.get? b = some o → h'.get? b = some o) → Q (.ref s.heap.objs.size) { s with heap := h', toks := tk }) :
    wpAny (model P w) A (call (.type "set") [.ref l]) Q E s := by
  have isz : items.size = xs.length := by rw [← StrsAre.len_eq hit, Array.length_toList]
  obtain ⟨c, tl, hmro⟩ := F.called_set.mro
  have g1 := F.called_set.made
  have g2 := F.called_set.sub
  have g3 := F.called_set.notType
  have g4 := F.called_set.canCreate
  have g5 := F.typeCall_set_1 (.ref l)
  refine wpAny_call (codeAny_of_tree ?_)
  show wpAny _ _ (callAny (.type "set") _) _ _ _
  refine wpAny_pure ⟨Code.quiet_builtin _ (by decide +kernel), codeAny_builtin F.entry_type_call ?_⟩
  rw [Around.under_plain (weight_type_call_type "set" [.ref l] []) rfl]
  repeat (any_goals (first | assumption | wp_step))
  refine codeAny_mono (code_set_led1 (.ref l) (E := E) (Q₁ := fun ob s1 => ob = .ref s.heap.objs.size ∧ s1 = { s with heap := s.heap.push (eO w) }) ⟨rfl, rfl⟩) fun r s1 hr => ?_
  cases r with
  | error e => exact hr
  | ok fl =>
    cases fl with
    | ret ob =>
      obtain ⟨rfl, rfl⟩ := hr
      have hS : (s.heap.push (eO w)).get? s.heap.objs.size = some (eO w) := Heap.get?_push_size _ rfl
      have hT : Shared.TypeIs { s with heap := s.heap.push (eO w) } (.ref s.heap.objs.size) "set" := ⟨_, hS, rfl⟩
      have g6 := F.called_set.init.lookup
      have g7 := F.called_set.init.bind (.ref s.heap.objs.size)
      repeat (any_goals (first | assumption | wp_step))
      refine codeAny_mono (codeAny_call_builtin (R := wants (fun r s2 => r = .none ∧ ∃ h' tk m, s2 = { s with heap := h', toks := tk } ∧ TxAt P w h' s.heap.objs.size m ∧ Part xs xs.length m ∧
          (∀ b o, s.heap.get? b = some o → h'.get? b = some o)) E) F.called_set.init.plain F.entry_set_init (check_set_init_1 hT ?_)) fun r2 s2 hr2 => ?_
      · obtain ⟨⟨ocls, odict, odata, oslots⟩, hol, hcl, nl, hdl⟩ := hl
        simp only at hcl hdl
        subst hcl; subst hdl
        have hol' : (s.heap.push (eO w)).get? l = some { cls := .type "tuple", dict := odict, data := .seq items nl, slots := oslots } := Heap.get?_push_of_some _ hol
        have g8 := F.sub_tuple_set
        have g9 := F.sub_tuple_frozenset
        have g10 : (Value.type "tuple" == Value.type "dict") = false := by decide
        have hl1 : (s.heap.push (eO w)).IsTuple l items := ⟨_, hol', rfl, nl, rfl⟩
        unfold Builtin.«set.__init__» noKeywords Builtin.Frozenset.updateFrom
        generalize hPI : pyIter = PI
        wp_walk
        subst hPI
        refine wpAny_pyIter_tuple hl1 (wpAny_bind (wpAny_runValue ?_))
        have lS : l < s.heap.objs.size := Heap.lt_size hol
        have hh3 : A.in1.in1.in1.handled = none := by simp [hh]
        have nI : l ≠ (s.heap.push (eO w)).objs.size := by rw [Heap.size_push]; exact Nat.ne_of_lt (Nat.lt_succ_of_lt lS)
        have nf : s.heap.objs.size ∉ [(s.heap.push (eO w)).objs.size, l] := by
          rw [Heap.size_push]; simp only [List.mem_cons, List.mem_singleton, List.not_mem_nil, or_false, not_or]
          exact ⟨Nat.ne_of_lt (Nat.lt_succ_self _), Nat.ne_of_gt lS⟩
        refine upd_loop ((Walks.tuple hh3 _ l nI items).toS) s.heap.objs.size nf xs isz few (fun i v e => ?_) (items.size - 0) 0 _ [] (by omega) (Nat.zero_le _)
          ⟨⟨_, Heap.get?_push_size _ rfl, rfl, rfl⟩, (hl1.push _)⟩ (tx_fresh (Heap.get?_push_of_some _ hS)) ⟨fun x => by simp, Nat.le_refl _⟩ fun s' m mv T p => ?_
        · have q : items.toList[i]? = some v := by rw [Array.getElem?_toList]; exact e
          obtain ⟨t, rfl⟩ := SS.strs_at hit i v q
          have hi : i < xs.length := by rw [← StrsAre.len_eq hit]; exact (List.getElem?_eq_some_iff.mp q).1
          exact ⟨xs[i], t, List.getElem?_eq_getElem hi, by rw [List.getD_eq_getElem?_getD, List.getElem?_eq_getElem hi]; rfl⟩
        · obtain ⟨h', g', d', tk', os'⟩ := s'
          have e1 : g' = s.gens := mv.gens
          have e2 : d' = s.drawn := mv.drawn
          have e3 : os' = s.os := mv.os
          subst e1; subst e2; subst e3
          show wpAny _ _ _ _ _ _
          refine wpAny_pure ?_
          show wpAny _ _ (ret Value.none) _ _ _
          rw [isz] at p
          refine wpAny_pure ⟨rfl, h', tk', m, rfl, T, p, fun b o e => ?_⟩
          have hb : b < s.heap.objs.size := Heap.lt_size e
          refine mv.heap b o ?_ (Heap.get?_push_of_some _ (Heap.get?_push_of_some _ e))
          rw [Heap.size_push]; simp only [List.mem_cons, List.mem_singleton, List.not_mem_nil, or_false, not_or]
          exact ⟨Nat.ne_of_lt hb, Nat.ne_of_lt (Nat.lt_succ_of_lt hb)⟩
      · cases r2 with
        | error e => exact hr2
        | ok f2 =>
          cases f2 with
          | ret r =>
            obtain ⟨rfl, h', tk, m, rfl, T, p, k⟩ := hr2
            repeat (any_goals (first | assumption | wp_step))
            exact h _ _ _ T p k
          | _ => exact hr2.elim
    | _ => exact hr.elim
end
end XS
namespace XS
open PySem PySem.Spec PyProof.Rows L2
def TxO (P : Program) (w : World) (a : Addr) (l : List Str) : HO := .ext fun h => TxAt P w h a l
section
variable {X : Cx}
theorem tx_new {w : World} {P : Program} {H : Hp} {h : Heap} {a : Addr} {l : List Str} (R : TxAt P w h a l) : ObjOk P w H h a (TxO P w a l) := by
  have ⟨⟨D, ho, _⟩, _, _⟩ := R
  exact ⟨R, ⟨_, ho⟩, fun h1 h2 p k => TxAt.at p k⟩
theorem tx_get {pins : List (Addr × Obj)} {σ : L2.St} {H : Hp} {s : Shared} {a : Addr} {l : List Str} (I : Inv X pins σ H s) (ha : H a = some (TxO X.prog X.w a l)) : TxAt X.prog X.w s.heap a l := (I.hok a _ ha).1
/-- set(xs) of a list or tuple of texts -/
def rSetX (P : Program) (w : World) (K : PySem.W.Frag) : List V → Hp → VK → Prop := fun vs H Q => ∃ (b : Addr) (xs : List Str), vs = [V.ref b] ∧ (SqL K H b (xs.map V.str) ∨ SqT K H b (xs.map V.str)) ∧ xs.length < 64 ∧
  ∀ (p : Addr) (l : List Str), l.Nodup → (∀ x, x ∈ l ↔ x ∈ xs) → l.length ≤ xs.length → H p = none → Q (.ref p) (upd H p (TxO P w p l))
theorem cr_setX (hc : X.calm = true) : CallR X (.type "set") (rSetX X.prog X.w X.K) := by
  intro pins s σ H vs us Q I r h
  obtain ⟨b, xs, rfl, hq, few, q⟩ := h
  rw [Vals.ref1 r]
  have fin : ∀ (h' : Heap) (tk : Nat) (m : List Str), TxAt X.prog X.w h' s.heap.objs.size m → Part xs xs.length m → (∀ b o, s.heap.get? b = some o → h'.get? b = some o) → EP X pins σ Q (.ref s.heap.objs.size) { s with heap := h', toks := tk } := fun h' tk m T p k =>
    ⟨.ref s.heap.objs.size, upd H s.heap.objs.size (TxO X.prog X.w s.heap.objs.size m), I.laid (t' := tk) k (Nat.le_refl _) (tx_new T), rfl, q _ m T.one (fun x => by rw [p.mem, List.take_length]) p.len (I.hok.fresh (Nat.le_refl _))⟩
  rcases hq with hq | hq
  · obtain ⟨its, r, pl, hz⟩ := I.list hq
    exact set_list xs (I.ok.hd hc) pl.isList (by simpa using strsAre_of r) few fin
  · obtain ⟨its, r, pl, hz⟩ := I.tuple hq
    exact set_tuple xs (I.ok.hd hc) pl (by simpa using strsAre_of r) few fin
/-- len of a set of texts -/
def rLenX (P : Program) (w : World) : List V → Hp → VK → Prop := fun vs H Q => ∃ (a : Addr) (l : List Str), vs = [V.ref a] ∧ H a = some (TxO P w a l) ∧ Q (.int l.length) H
theorem cr_lenX : CallR X (.builtin "len") (rLenX X.prog X.w) := by
  intro pins s σ H vs us Q I r h
  obtain ⟨a, l, rfl, ha, q⟩ := h
  rw [Vals.ref1 r]
  obtain ⟨⟨D, ho, F, _⟩, _, few⟩ := tx_get I ha
  refine call_len_set (es := D.1) (ep := D.2.1) (t := D.2.2) ho ⟨rfl, rfl, rfl⟩ rfl F.fit (by rw [F.sz]; omega) ⟨.int l.length, H, I.tok _, ⟨_, by rw [F.sz]⟩, q⟩
/-- sorted(a set of texts) -/
def rSortX (P : Program) (w : World) : List V → Hp → VK → Prop := fun vs H Q => ∃ (a : Addr) (l : List Str), vs = [V.ref a] ∧ H a = some (TxO P w a l) ∧ ∀ ys p, ys.Perm l → sortedS ys = true → H p = none → Q (.ref p) (upd H p (.lst (ys.map V.str)))
theorem texts_of : ∀ (vs : List Value), (∀ v ∈ vs, ∃ k u, v = Value.str k u) → ∃ ks, StrsAre vs ks
  | [], _ => ⟨[], .nil⟩
  | v :: vs, h => by
    obtain ⟨k, u, rfl⟩ := h v List.mem_cons_self
    obtain ⟨ks, r⟩ := texts_of vs fun x hx => h x (List.mem_cons_of_mem _ hx)
    exact ⟨k :: ks, .cons k u r⟩
theorem texts_mem : ∀ {vs : List Value} {ks : List Str}, StrsAre vs ks → ∀ k, k ∈ ks ↔ ∃ u, Value.str k u ∈ vs
  | _, _, .nil, k => by simp
  | _, _, .cons n t r, k => by
    rw [List.mem_cons, texts_mem r k]
    constructor
    · rintro (rfl | ⟨u, h⟩)
      · exact ⟨t, List.mem_cons_self⟩
      · exact ⟨u, List.mem_cons_of_mem _ h⟩
    · rintro ⟨u, h⟩
      rcases List.mem_cons.mp h with z | z
      · cases z; exact .inl rfl
      · exact .inr ⟨u, z⟩
theorem perm_sub : ∀ {l ks : List Str}, l.Nodup → (∀ x ∈ l, x ∈ ks) → ks.length = l.length → ks.Perm l
  | [], ks, _, _, h => by rw [List.length_eq_zero_iff.mp h]
  | x :: l, ks, d, m, h => by
    obtain ⟨d1, d2⟩ := List.nodup_cons.mp d
    have hx := m x List.mem_cons_self
    refine (List.perm_cons_erase hx).trans ((perm_sub d2 (fun y hy => (List.mem_erase_of_ne fun e : y = x => d1 (e ▸ hy)).mpr (m y (List.mem_cons_of_mem _ hy))) ?_).cons x)
    rw [List.length_erase_of_mem hx, h]; rfl
theorem cr_sortX (hc : X.calm = true) : CallR X (.builtin "sorted") (rSortX X.prog X.w) := by
  intro pins s σ H vs us Q I r h
  obtain ⟨a, l, rfl, ha, q⟩ := h
  rw [Vals.ref1 r]
  obtain ⟨⟨D, ho, F, hr, hl⟩, one, few⟩ := tx_get I ha
  have h64 : D.1.size < 64 := by rw [F.sz]; exact few
  refine Calls.call_function_entry kind_sorted plain_sorted entry_sorted (args_sorted1 _) ?_
  unfold Builtin.«sorted»
  refine wpAny_bind (m := checkCount "sorted" 1 1 _) (wpAny_pure ?_)
  refine wpAny_bind (collect_set (A := X.A.in1) (es := D.1) (ep := D.2.1) (t := D.2.2) (I.ok.hd hc) ⟨_, ho, rfl, rfl⟩ F.fit (by unfold scanBound; omega) hr hl fun s1 vs k1 hz g1 o1 pm => ?_)
  have hvl : vs.length = l.length := by rw [pm.length_eq, List.length_map, Array.length_toList]; exact F.sz
  obtain ⟨ks, hS⟩ := texts_of vs fun v hv => by
    obtain ⟨e, he, q⟩ := List.mem_map.mp (pm.mem_iff.mp hv)
    obtain ⟨⟨k, h1, _⟩, _⟩ := F.el e he
    obtain ⟨tk, e1⟩ := Value.isStrOf_shape (x := k) (v := e.2) h1
    exact ⟨k, tk, by rw [← q]; exact e1⟩
  have hkl : ks.length = l.length := by rw [← StrsAre.len_eq hS]; exact hvl
  have mem : ∀ k, k ∈ ks ↔ k ∈ l := fun k => by
    rw [texts_mem hS k, F.mem k]
    constructor
    · rintro ⟨u, hu⟩
      obtain ⟨e, he, q⟩ := List.mem_map.mp (pm.mem_iff.mp hu)
      exact ⟨e, he, by rw [q]; exact strKind_is _ _ _ _⟩
    · rintro ⟨e, he, q⟩
      obtain ⟨tk, e1⟩ := Value.isStrOf_shape (x := k) (v := e.2) q
      exact ⟨tk, pm.mem_iff.mpr (List.mem_map.mpr ⟨e, he, e1⟩)⟩
  refine wpAny_bind (wpAny_newList ?_ (by rw [hvl, sizeLine_eq]; omega))
  have hoL : (s1.heap.push (seqObj "list" vs.toArray 0)).get? s1.heap.objs.size = some (seqObj "list" vs.toArray 0) := Heap.get?_push_size _ rfl
  refine wpAny_bind (wpAny_holding (wpAny_call_entry slot_list_sort ⟨_, hoL, rfl⟩ entry_list_sort
    (list_sort_treeK strKind_oneLt (s := { s1 with heap := s1.heap.push (seqObj "list" vs.toArray 0) }) hoL hS.keysOf (fun v₁ v₂ rest e => keyKind_strs (by rw [← e]; exact hS)) (by rw [hvl]; exact few) fun st' hp hs => ⟨_, rfl, ?_⟩) (args_list_sort _)))
  obtain ⟨ys, y1, y2, y3⟩ := sorted_out_str hS hp hs
  obtain ⟨c, hcc⟩ := sortedHeap_at (vs := vs) (out := (arrOf st').map (·.2)) hoL
  have hlen : (ys.map V.str).length ≤ sizeLine := by
    rw [List.length_map, y2.length_eq, hkl, sizeLine_eq]; omega
  have hn : H s1.heap.objs.size = none := I.hok.fresh hz
  have pk : ks.Perm l := perm_sub one (fun x hx => (mem x).mpr hx) hkl
  refine wpAny_pure ⟨_, rfl, ?_⟩
  have k2 : ∀ b o, s.heap.get? b = some o → (sortedHeap (s1.heap.push (seqObj "list" vs.toArray 0)) s1.heap.objs.size vs ((arrOf st').map (·.2))).get? b = some o := fun b o e => by
    have q := k1 b o e
    have hlt := Heap.lt_size q
    rw [sortedHeap_old (Nat.ne_of_lt hlt) (by rw [size_push']; exact Nat.lt_succ_of_lt hlt)]
    exact Heap.get?_push_of_some _ q
  have ob : ObjOk X.prog X.w (upd H s1.heap.objs.size (.lst (ys.map V.str))) (sortedHeap (s1.heap.push (seqObj "list" vs.toArray 0)) s1.heap.objs.size vs ((arrOf st').map (·.2))) s1.heap.objs.size (.lst (ys.map V.str)) :=
    ⟨hlen, ((arrOf st').map (·.2)).toList, c, vals_of_strs y1, by rw [Array.toArray_toList]; exact hcc⟩
  have J := I.call (g' := s1.gens) (t' := s1.toks) (d' := s1.drawn) (ch := []) (Un.laid (o := .lst (ys.map V.str)) k2 hz hn) (I.hok.laid k2 hz ob) (by rw [g1]; exact I.bare) (fun _ z => nomatch z)
  obtain ⟨a1, a2, a3, a4, a5⟩ := s1
  have e5 : a5 = s.os := o1
  subst e5
  exact ⟨.ref _, _, J, rfl, q ys _ (y2.trans pk) y3 hn⟩
/-- x in / not in a set of texts -/
def rInX (P : Program) (w : World) (f : Bool → Bool) : R2 := fun x y H Q => ∃ (k : Str) (a : Addr) (l : List Str), x = .str k ∧ y = .ref a ∧ H a = some (TxO P w a l) ∧ Q (.bl (f (decide (k ∈ l)))) H
theorem op_inX : OpR X (compareOp .In) (rInX X.prog X.w fun b => b) := by
  intro pins s σ H x y v u Q I rx ry h
  obtain ⟨k, a, l, rfl, rfl, ha, q⟩ := h
  obtain ⟨tk, rfl⟩ := rx
  cases ry
  exact wpAny_inSet_of (strKind_is _ _ _ _) rfl (tx_get I ha).setOf ⟨.bl _, H, I.tok _, rfl, q⟩
theorem op_notinX : OpR X (compareOp .NotIn) (rInX X.prog X.w fun b => !b) := by
  intro pins s σ H x y v u Q I rx ry h
  obtain ⟨k, a, l, rfl, rfl, ha, q⟩ := h
  obtain ⟨tk, rfl⟩ := rx
  cases ry
  exact wpAny_notInSet_of (strKind_is _ _ _ _) rfl (tx_get I ha).setOf ⟨.bl _, H, I.tok _, rfl, q⟩
end

section
variable {X : Cx}
/-- one text put into the set at D -/
def tAddX (P : Program) (w : World) (D : Addr) (y : V) (H : Hp) (Nx : Hp → Prop) : Prop := ∃ (k : Str) (l : List Str), y = .str k ∧ H D = some (TxO P w D l) ∧ l.length + 1 < 64 ∧ ∀ l', (k ∈ l ∧ l' = l ∨ k ∉ l ∧ l' = k :: l) → Nx (upd H D (TxO P w D l'))
theorem add_run {pins : List (Addr × Obj)} {σ : L2.St} {H : Hp} {s : Shared} {E : Value → Shared → Prop} {D : Addr} {y : V} {u : Value} {Nx : Hp → Prop} {Q : Value → Shared → Prop} (I : Inv X pins σ H s) (ry : RelV y u) (h : tAddX X.prog X.w D y H Nx)
    (hQ : ∀ r s' H', Inv X pins σ H' s' → Nx H' → Q r s') : wpAny (model X.prog X.w) X.A (call (.builtin "set.add") [.ref D, u]) Q E s := by
  obtain ⟨k, l, rfl, hD, few, nx⟩ := h
  obtain ⟨t, rfl⟩ := ry
  refine add_call (tx_get I hD) few fun h' l' sb T z => hQ _ _ (upd H D (TxO X.prog X.w D l')) (I.write (e := D) (t' := s.toks + 1) (by rw [hD]; trivial) (.inl rfl) (fun b u hb e => (sb.2 b hb).trans e) ?_ (tx_new T)) (nx l' z)
  have ⟨⟨_, ho, _⟩, _, _⟩ := T
  exact ⟨_, ho⟩
/-- {v for target in iter if ..} of texts: D the new set -/
def tSc (P : Program) (w : World) (wi : TI) (g : TG) (tt : TT) (tv : TE) (vs : List Nat) : TE := fun σ H Q => wi σ H fun J H1 => ∀ D, H1 D = none → ∃ W : Nat → Nat → Hp → Prop, (∃ m, W 0 m (upd H1 D (TxO P w D []))) ∧ ∀ i m H, W i m H →
  (J.stop i H ∧ Q (.ref D) H) ∨ (J.go i H ∧ ∃ Nx : Hp → Prop, (∀ H', Nx H' → ∃ m', m' < m ∧ W (i + 1) m' H') ∧ ∀ x H', J.yld i H x H' → g x (wipe σ vs) H' fun σ2 H2 => wipe σ2 vs = wipe σ vs ∧ tt σ2 H2 fun b H3 =>
    if b = true then tv σ2 H3 fun y H4 => tAddX P w D y H4 Nx else Nx H3)
theorem pe_sc {ev tg iter : Expr} {ifs : List Expr} {scope : Scope} {own : List (Str × Nat)} {pos : Pos} {wi : TI} {g : TG} {tt : TT} {tv : TE} (hc : X.calm = true) (hN : X.N.Nodup) (hi : PI X tg iter wi) (ok : BlkOk X.N X.env.scope scope own)
    (hg : ∀ (s : Shared) (H : Hp) (C : Addr) (cl : List (Str × Addr)) (fp : List Addr), PG (X.blk s H scope (compEnvC scope cl C X.env) fp) tg g) (ht : ∀ (s : Shared) (H : Hp) (C : Addr) (cl : List (Str × Addr)) (fp : List Addr), PTs (X.blk s H scope (compEnvC scope cl C X.env) fp) ifs tt)
    (he : ∀ (s : Shared) (H : Hp) (C : Addr) (cl : List (Str × Addr)) (fp : List Addr), PE (X.blk s H scope (compEnvC scope cl C X.env) fp) ev tv) (hs : ∀ x, foldedSetIterable iter X.env x = pure x := by intro _; rfl) :
    PE X (.SetComp ev [⟨tg, iter, ifs, 0⟩] scope pos) (tSc X.prog X.w wi g tt tv (own.map (·.2))) := by
  refine ⟨fun pins s σ H Q I h => ?_⟩
  rw [arm_eval_SetComp]
  have hfree : ∀ y ∈ scope.names, y.2 = .free → ∃ c, X.env.cells.lookup y.1 = some c := fun y hy e => (ok.free y hy e).elim (fun k => I.ok.has _ (.inl k)) fun k => I.ok.has _ (.inr k)
  refine wpAny_comprehension_free (use := none) rfl hs (closure_ok hfree) ok.kind (fun y hy e => by rw [ok.uniq y hy, e]) (thn (hi.run pins s σ H _ I h) fun xv s1 hx => thn hx fun itv s2 h2 => ?_)
  obtain ⟨it, fp, tn, J, H2, rfl, I2, T, st2, f2, q⟩ := h2
  refine wpAny_newSet_raw fun led hled => newEnv_comp ?_
  subst hled
  have hDn : H2 s2.heap.objs.size = none := I2.hok.fresh (Nat.le_refl _)
  obtain ⟨W, ⟨m0, w0⟩, turn⟩ := q s2.heap.objs.size hDn
  generalize hD : s2.heap.objs.size = D at *
  generalize hs3 : ({ s2 with heap := s2.heap.push { cls := .type "set", dict := none, data := .set #[] 0 (.fresh 0 0 (!(X.w.params.followText "set-order"))) } } : Shared) = s3
  have h3 : s3.heap = s2.heap.push (eO X.w) := by rw [← hs3]; rfl
  have oldk : ∀ b o, s2.heap.get? b = some o → s3.heap.get? b = some o := fun b o e => by rw [h3]; exact Heap.get?_push_of_some _ e
  have I3 : Inv X pins σ (upd H2 D (TxO X.prog X.w D [])) s3 := by
    rw [← hs3]
    refine I2.laid (t' := s2.toks) (fun b o e => Heap.get?_push_of_some _ e) (Nat.le_of_eq hD) (tx_new (tx_fresh ?_))
    rw [← hD]
    exact Heap.get?_push_size _ rfl
  have sz : ∀ b ∈ fp, b < s2.heap.objs.size := fun b hb => by
    obtain ⟨o, e, _⟩ := T.obj _ _ st2 b hb
    exact Heap.lt_size e
  generalize hH3 : upd H2 D (TxO X.prog X.w D []) = H3 at I3 w0
  have f3 : ∀ b ∈ fp, FpOk X pins H3 b ∧ b < s3.heap.objs.size := fun b hb => by
    have lt := sz b hb
    refine ⟨⟨?_, (f2 b hb).2⟩, by rw [h3, Heap.size_push]; exact Nat.lt_succ_of_lt lt⟩
    rw [← hH3, upd_ne (by rw [← hD]; exact Nat.ne_of_lt lt)]
    exact (f2 b hb).1
  have st3 : tn 0 s3.heap := T.keep _ _ _ st2 fun b _ o e => oldk b o e
  have I4 := block_start I3 ok hN f3
  have pg := hg s3 H3 s3.heap.objs.size (cellsFrom (s3.heap.objs.size + 1) scope.names (cloFrom X.env.cells scope.names [])) fp
  have pt := ht s3 H3 s3.heap.objs.size (cellsFrom (s3.heap.objs.size + 1) scope.names (cloFrom X.env.cells scope.names [])) fp
  have pe := he s3 H3 s3.heap.objs.size (cellsFrom (s3.heap.objs.size + 1) scope.names (cloFrom X.env.cells scope.names [])) fp
  show codeAny _ _ (.compStart (.SetComp ev [⟨tg, iter, ifs, 0⟩] scope pos) 0 (.ref it) (.ref D) (compEnvC scope (cellsFrom (s3.heap.objs.size + 1) scope.names (cloFrom X.env.cells scope.names [])) s3.heap.objs.size X.env)) (compPost (model X.prog X.w) X.A X.xe none (EP X pins σ Q) (.ref D) s3.heap.objs.size) { s3 with heap := pushCells (s3.heap.push { cls := .type "dict", data := .dict #[] }) scope.names }
  have nfp : ∀ b ∈ fp, H3 b = none := fun b hb => (f3 b hb).1.1
  generalize hce : compEnvC scope (cellsFrom (s3.heap.objs.size + 1) scope.names (cloFrom X.env.cells scope.names [])) s3.heap.objs.size X.env = ce at I4 pg pt pe ⊢
  have cL : ce.locals = s3.heap.objs.size := by subst hce; rfl
  generalize hs4 : ({ s3 with heap := pushCells (s3.heap.push { cls := .type "dict", data := .dict #[] }) scope.names } : Shared) = s4 at I4 ⊢
  have st4 : tn 0 s4.heap := T.keep _ _ _ st3 fun b _ o e => by rw [← hs4]; exact pushCells_keeps _ _ _ _ (Heap.get?_push_of_some _ e)
  have stat : ∀ {σ' : L2.St} {H' : Hp} {s' : Shared}, Inv (X.blk s3 H3 scope ce fp) [] σ' H' s' → (∀ b ∈ fp, H' b = none) → ∀ b ∈ fp, FpOk (X.blk s3 H3 scope ce fp) [] H' b := fun {σ' H' s'} I' hn b hb =>
    ⟨hn b hb, (I'.ok.exf b hb).1, I'.ok.exfs b hb, .inl hb, fun x c e => (I'.ok.exf b hb).2 x c e, fun p hp => absurd (show p ∈ ([] : List (Addr × Obj)) ++ [] from hp) (by simp)⟩
  have loop : codeAny (model X.prog X.w) X.A (.compLoop (.SetComp ev [⟨tg, iter, ifs, 0⟩] scope pos) 0 (.ref it) (.ref D) ce) (compPost (model X.prog X.w) X.A X.xe none (EP X pins σ Q) (.ref D) s3.heap.objs.size) s4 := by
    refine compLoop_set_any (fun n s' => ∃ i H', Inv (X.blk s3 H3 scope ce fp) [] (wipe σ (own.map (·.2))) H' s' ∧ tn i s'.heap ∧ (∀ b ∈ fp, H' b = none) ∧ W i n H') ?_ m0 ⟨0, H3, I4, st4, nfp, w0⟩
    rintro n s5 ⟨i, H5, I5, st5, n5, w5⟩
    rcases turn i n H5 w5 with ⟨stop, qq⟩ | ⟨go, Nx, hNx, step⟩
    · refine thnF (T.done (X.blk s3 H3 scope ce fp) rfl rfl rfl hc i [] s5 _ H5 (fun _ _ => False) I5 (stat I5 n5) st5 stop) fun r s6 ⟨hr, I6⟩ => ?_
      subst hr
      have I7 : Inv X pins σ H5 s6 := I3.call' (ch := fp) I6.os I6.base I6.hok I6.bare fun b hb => ⟨(f3 b hb).1.2.2.2.1, (f3 b hb).1.2.1, (f3 b hb).1.2.2.2.2.1, (f3 b hb).1.2.2.2.2.2⟩
      have nC : H5 s3.heap.objs.size = none := by
        have z : H5 ce.locals = none := I6.free
        rw [cL] at z
        exact z
      obtain ⟨m, hn, _⟩ := I6.loc
      have hn : s6.heap.Ns ce.locals m := hn
      rw [cL] at hn
      obtain ⟨f0, f1, f2, f3, f4, f5⟩ := I3.fpOk (Nat.le_refl _) nC
      exact ⟨m, hn, fun h'' sb => ⟨.ref D, H5, I7.turned (t' := s6.toks) (fun b o hb e => (sb.2 b hb).trans e) f0 f1 f3 f4 f5, rfl, qq⟩⟩
    · refine thnF (T.item (X.blk s3 H3 scope ce fp) rfl rfl rfl hc i [] s5 _ H5 (fun _ _ => False) I5 (stat I5 n5) st5 go) fun r s6 ⟨u, hr, h6⟩ => ?_
      subst hr
      refine thnF h6 fun _ s7 ⟨x, H7, I7, r7, y7, st7, n7⟩ => ?_
      have I7' := I7.pinned (stat I7 n7) (T.obj _ _ st7)
      refine thnF (pg.run _ s7 _ H7 x u _ I7' r7 (step x H7 y7)) fun _ s8 ⟨σ8, H8, I8, hw8, q8⟩ => ?_
      refine thnF (pt.run _ s8 σ8 H8 _ I8 q8) fun b s9 ⟨H9, I9, q9⟩ => ?_
      have fin : ∀ {s' : Shared} {H' : Hp}, Inv (X.blk s3 H3 scope ce fp) ([] ++ pinsAt fp s7.heap) σ8 H' s' → Nx H' → ∃ m, m < n ∧ ∃ i H', Inv (X.blk s3 H3 scope ce fp) [] (wipe σ (own.map (·.2))) H' s' ∧ tn i s'.heap ∧ (∀ b ∈ fp, H' b = none) ∧ W i m H' := fun {s' H'} I' nx => by
        obtain ⟨m', hm, w'⟩ := hNx H' nx
        have pin' : ∀ b ∈ fp, ∀ o, s7.heap.get? b = some o → s'.heap.get? b = some o ∧ H' b = none := fun b hb o e =>
          let z := I'.pin (b, o) (List.mem_append_right _ (List.mem_append_right _ (mem_pinsAt hb e)))
          ⟨z.1, z.2.1⟩
        refine ⟨m', hm, i + 1, H', (I'.unpinned (pins := [])).weak (by rw [← hw8, wipe_length]) (fun j v e => ?_), T.keep _ _ _ st7 fun b hb o e => (pin' b hb o e).1, fun b hb => ?_, w'⟩
        · rw [← hw8] at e
          exact (wipe_some e).1
        · obtain ⟨o, e, _⟩ := T.obj _ _ st7 b hb
          exact (pin' b hb o e).2
      cases b with
      | false =>
        simp only [Bool.false_eq_true, if_false] at q9 ⊢
        exact fin I9 q9
      | true =>
        simp only [if_true] at q9 ⊢
        refine thnF (pe.run _ s9 σ8 H9 _ I9 q9) fun z s10 ⟨y, H10, I10, r10, q10⟩ => ?_
        exact add_run (X := X.blk s3 H3 scope ce fp) I10 r10 q10 fun r s11 H11 I11 nx => fin I11 nx
  exact codeAny_compStart_set loop (T.self X.A 0 _ _ _ st4 loop)
end
end XS
namespace G
open PySem PySem.Spec PyProof.Rows L2 Evl
/-! ## two lists side by side -/
def All2 {α β : Type} (R : α → β → Prop) (as : List α) (bs : List β) : Prop := as.length = bs.length ∧ ∀ (i : Nat) (a : α) (b : β), as[i]? = some a → bs[i]? = some b → R a b
theorem All2.nil {α β : Type} {R : α → β → Prop} : All2 R [] [] := ⟨rfl, fun _ _ _ h => nomatch h⟩
theorem All2.imp {α β : Type} {R S : α → β → Prop} {as : List α} {bs : List β} (h : All2 R as bs) (f : ∀ a b, R a b → S a b) : All2 S as bs := ⟨h.1, fun i a b h1 h2 => f _ _ (h.2 i a b h1 h2)⟩
theorem All2.snoc {α β : Type} {R : α → β → Prop} {as : List α} {bs : List β} {a : α} {b : β} (h : All2 R as bs) (r : R a b) : All2 R (as ++ [a]) (bs ++ [b]) := by
  refine ⟨by rw [List.length_append, List.length_append, h.1]; rfl, fun i x y h1 h2 => ?_⟩
  by_cases hi : i < as.length
  · rw [List.getElem?_append_left hi] at h1
    rw [List.getElem?_append_left (h.1 ▸ hi)] at h2
    exact h.2 i x y h1 h2
  · rw [List.getElem?_append_right (by omega)] at h1
    rw [List.getElem?_append_right (by rw [← h.1]; omega), ← h.1] at h2
    cases e : i - as.length with
    | zero =>
      rw [e] at h1 h2
      cases h1; cases h2; exact r
    | succ n => rw [e] at h1; exact nomatch h1
theorem All2.at_ {α β : Type} {R : α → β → Prop} {as : List α} {bs : List β} (h : All2 R as bs) {i : Nat} {a : α} (e : as[i]? = some a) : ∃ b, bs[i]? = some b ∧ R a b := by
  have hi : i < bs.length := by rw [← h.1]; exact (List.getElem?_eq_some_iff.mp e).1
  exact ⟨bs[i], List.getElem?_eq_getElem hi, h.2 i a _ e (List.getElem?_eq_getElem hi)⟩
theorem All2.of {α β : Type} {R : α → β → Prop} {as : List α} {bs : List β} (h : All2 R as bs) {i : Nat} {b : β} (e : bs[i]? = some b) : ∃ a, as[i]? = some a ∧ R a b := by
  have hi : i < as.length := by rw [h.1]; exact (List.getElem?_eq_some_iff.mp e).1
  exact ⟨as[i], List.getElem?_eq_getElem hi, h.2 i _ b (List.getElem?_eq_getElem hi) e⟩
theorem All2.cons {α β : Type} {R : α → β → Prop} {as : List α} {bs : List β} {a : α} {b : β} (r : R a b) (h : All2 R as bs) : All2 R (a :: as) (b :: bs) := by
  refine ⟨by rw [List.length_cons, List.length_cons, h.1], fun i x y h1 h2 => ?_⟩
  cases i with
  | zero => cases h1; cases h2; exact r
  | succ i => exact h.2 i x y h1 h2
theorem take_snoc1 {α : Type} {l : List α} {j : Nat} {x : α} (h : l[j]? = some x) : l.take (j + 1) = l.take j ++ [x] := by rw [List.take_add_one, h]; rfl
theorem refs_get {as : List Addr} {k : Nat} {x : V} (hx : (as.map V.ref)[k]? = some x) : ∃ a, as[k]? = some a ∧ x = .ref a := by
  rw [List.getElem?_map] at hx
  cases e : as[k]? with
  | none => rw [e] at hx; cases hx
  | some a => rw [e] at hx; cases hx; exact ⟨a, rfl, rfl⟩
/-! ## walks: any body -/
theorem wk_list {K : PySem.W.Frag} {a : Addr} {xs : List V} {body : (Hp → Prop) → V → Hp → Prop} {H0 : Hp} {Qd : Hp → Prop} (Pv : Nat → Hp → Prop) (h0 : Pv 0 H0) (hl : ∀ i H, i ≤ xs.length → Pv i H → SqL K H a xs)
    (hs : ∀ i x H, xs[i]? = some x → Pv i H → body (Pv (i + 1)) x H) (hd : ∀ H, Pv xs.length H → Qd H) :
    ∃ W : Nat → Nat → Hp → Prop, (∃ m, W 0 m H0) ∧ ∀ i m H, W i m H → ((Itl K a).stop i H ∧ Qd H) ∨ ((Itl K a).go i H ∧ ∃ Nx : Hp → Prop, (∀ H', Nx H' → ∃ m', m' < m ∧ W (i + 1) m' H') ∧ ∀ x H', (Itl K a).yld i H x H' → body Nx x H') := by
  refine ⟨fun i m H => m = xs.length - i ∧ i ≤ xs.length ∧ Pv i H, ⟨xs.length, by simp, Nat.zero_le _, h0⟩, ?_⟩
  rintro i m H ⟨rfl, hi, p⟩
  have q := hl i H hi p
  rcases Nat.lt_or_ge i xs.length with lt | ge
  · have e : xs[i]? = some xs[i] := List.getElem?_eq_getElem lt
    refine .inr ⟨⟨xs, xs[i], q, e⟩, Pv (i + 1), fun H' p' => ⟨xs.length - (i + 1), by omega, rfl, lt, p'⟩, fun x H' y => ?_⟩
    obtain ⟨rfl, y⟩ := y
    exact hs i x _ (y xs q) p
  · have e : i = xs.length := by omega
    subst e
    exact .inl ⟨⟨xs, q, Nat.le_refl _⟩, hd H p⟩
theorem wk_tup {K : PySem.W.Frag} {a : Addr} {xs : List V} {body : (Hp → Prop) → V → Hp → Prop} {H0 : Hp} {Qd : Hp → Prop} (Pv : Nat → Hp → Prop) (h0 : Pv 0 H0) (hl : ∀ i H, i ≤ xs.length → Pv i H → SqT K H a xs)
    (hs : ∀ i x H, xs[i]? = some x → Pv i H → body (Pv (i + 1)) x H) (hd : ∀ H, Pv xs.length H → Qd H) :
    ∃ W : Nat → Nat → Hp → Prop, (∃ m, W 0 m H0) ∧ ∀ i m H, W i m H → ((Itt K a).stop i H ∧ Qd H) ∨ ((Itt K a).go i H ∧ ∃ Nx : Hp → Prop, (∀ H', Nx H' → ∃ m', m' < m ∧ W (i + 1) m' H') ∧ ∀ x H', (Itt K a).yld i H x H' → body Nx x H') := by
  refine ⟨fun i m H => m = xs.length - i ∧ i ≤ xs.length ∧ Pv i H, ⟨xs.length, by simp, Nat.zero_le _, h0⟩, ?_⟩
  rintro i m H ⟨rfl, hi, p⟩
  have q := hl i H hi p
  rcases Nat.lt_or_ge i xs.length with lt | ge
  · have e : xs[i]? = some xs[i] := List.getElem?_eq_getElem lt
    refine .inr ⟨⟨xs, xs[i], q, e⟩, Pv (i + 1), fun H' p' => ⟨xs.length - (i + 1), by omega, rfl, lt, p'⟩, fun x H' y => ?_⟩
    obtain ⟨rfl, y⟩ := y
    exact hs i x _ (y xs q) p
  · have e : i = xs.length := by omega
    subst e
    exact .inl ⟨⟨xs, q, Nat.le_refl _⟩, hd H p⟩
theorem wk_it {J : It} {n : Nat} {Gd : Hp → Prop} {Y : Nat → Hp → V → Hp → Prop} (w : Walk J n Gd Y) {body : (Hp → Prop) → V → Hp → Prop} {H0 : Hp} {Qd : Hp → Prop} (Pv : Nat → Hp → Prop) (h0 : Pv 0 H0) (hG : ∀ i H, i ≤ n → Pv i H → Gd H)
    (hs : ∀ i x H H', i < n → Pv i H → Y i H x H' → body (Pv (i + 1)) x H') (hd : ∀ H, Pv n H → Qd H) :
    ∃ W : Nat → Nat → Hp → Prop, (∃ m, W 0 m H0) ∧ ∀ i m H, W i m H → (J.stop i H ∧ Qd H) ∨ (J.go i H ∧ ∃ Nx : Hp → Prop, (∀ H', Nx H' → ∃ m', m' < m ∧ W (i + 1) m' H') ∧ ∀ x H', J.yld i H x H' → body Nx x H') := by
  refine ⟨fun i m H => m = n - i ∧ i ≤ n ∧ Pv i H, ⟨n, by simp, Nat.zero_le _, h0⟩, ?_⟩
  rintro i m H ⟨rfl, hi, p⟩
  rcases Nat.lt_or_ge i n with lt | ge
  · exact .inr ⟨w.goes i H lt (hG i H hi p), Pv (i + 1), fun H' p' => ⟨n - (i + 1), by omega, rfl, lt, p'⟩, fun x H' y => hs i x H H' lt p (w.yields i H x H' lt (hG i H hi p) y)⟩
  · have e : i = n := by omega
    subst e
    exact .inl ⟨w.stops H (hG i H hi p), hd H p⟩
/-! ## tuples joined and cut, whatever object that is -/
theorem cat_tup {K : PySem.W.Frag} {H : Hp} {a b : Addr} {xs ys : List V} {Q : VK} (ha : H a = some (.tup xs)) (hb : H b = some (.tup ys)) (hl : xs.length + ys.length ≤ sizeLine) (q : ∀ c H', Ex H H' → H' c = some (.tup (xs ++ ys)) → Q (.ref c) H') : rCatA K (.ref a) (.ref b) H Q := by
  refine ⟨a, b, xs, ys, rfl, rfl, SqT.of ha, SqT.of hb, hl, fun e => ?_, fun _ e => ?_, fun _ _ p np => ?_⟩
  · subst e; exact q b H (Ex.refl _) hb
  · subst e; exact q a H (Ex.refl _) (by rw [List.append_nil]; exact ha)
  · exact q p _ (Ex.new np) upd_same
theorem cut_tup {K : PySem.W.Frag} {H : Hp} {a : Addr} {xs : List V} {lo hi : Option Int} {Q : VK} (ha : H a = some (.tup xs)) (q : ∀ c H', Ex H H' → H' c = some (.tup (cutV xs lo hi)) → Q (.ref c) H') : rSlA K (.ref a) lo hi H Q := by
  refine ⟨a, xs, rfl, SqT.of ha, fun e => ?_, fun _ p np => q p _ (Ex.new np) upd_same⟩
  refine q a H (Ex.refl _) ?_
  rw [ha]
  unfold cutV
  rw [e.1, e.2, List.drop_zero, Nat.sub_zero, List.take_length]
theorem cutV_head {xs : List V} {k : Nat} (h : k ≤ xs.length) : cutV xs none (some (k : Int)) = xs.take k := by
  unfold cutV
  rw [HT.sIx_none, HT.sIx_nat, List.drop_zero, Nat.sub_zero, Nat.min_eq_left h]
theorem cutV_tail {xs : List V} {k : Nat} (h : k ≤ xs.length) : cutV xs (some (k : Int)) none = xs.drop k := by
  unfold cutV
  rw [HT.sIx_none, HT.sIx_nat, Nat.min_eq_left h, List.take_of_length_le]
  rw [List.length_drop]; exact Nat.le_refl _
end G
/-! a dict comprehension whose keys are tuples of ints and texts -/
namespace L2
open PySem PySem.Spec PyProof.Rows
theorem put_tup {X : Cx} {ps : List (Addr × Obj)} {σ : St} {H : Hp} {s : Shared} {E : Value → Shared → Prop} {b D : Addr} {es : List (List Key × V)} {k : List Key} {v : V} {r : Value} {Q : Unit → Shared → Prop}
    (hu : X.A.units < cLine) (J : Inv X ps σ H s) (hb : H b = some (.tup (k.map kV))) (hD : H D = some (.dT es)) (hn : es.length < sizeLine) (hv : RelV v r)
    (go : ∀ s2, Inv X ps σ (upd H D (.dT (putK es k v))) s2 → Q () s2) : wpAny (model X.prog X.w) X.A (dictSet D (.ref b) r) Q E s := by
  obtain ⟨le, low, xs, rel, at_⟩ := dt_of J.hok hD
  have l1 : xs.length ≤ sizeLine := Paired.length rel ▸ le
  have l2 : (putK es k v).length ≤ sizeLine := Nat.le_trans (length_putK es k v) hn
  refine wpAny_dictSet_heap (hsz := l1) hu (key_of J.hok hb) at_ fun h2 d2 sb => go _ ?_
  obtain ⟨o2, e2, ep2, c1, c2, c3, c4, _, c6⟩ := d2
  refine d_write J (by rw [hD]; exact True.intro) sb ⟨o2, c1⟩ ⟨l2, low, _, (rel.put k hb hv).keeps fun c ys hc => ?_, o2, e2, ep2, c1, c2, c3, c4, c6⟩
  exact (upd_ne (ne_of hc hD (fun z => nomatch z))).trans hc
section
variable {X : Cx}
/-- one turn: the target, the test, the key, the value, the store -/
def dctTurn (D : Addr) (g : TG) (tt : TT) (tk tv : TE) (vs : List Nat) (σ : St) (Nx : Hp → Prop) (x : V) (H : Hp) : Prop :=
  g x (wipe σ vs) H fun τ G1 => wipe τ vs = wipe σ vs ∧ tt τ G1 fun b G2 => if b = true then tk τ G2 fun y G3 => tv τ G3 fun z G4 =>
    ∃ (es : List (List Key × V)) (k : List Key) (c : Addr), y = .ref c ∧ G4 c = some (.tup (k.map kV)) ∧ G4 D = some (.dT es) ∧ es.length < sizeLine ∧ Nx (upd G4 D (.dT (putK es k z))) else Nx G2
def tDct (wi : TI) (g : TG) (tt : TT) (tk tv : TE) (vs : List Nat) : TE := fun σ H Q => wi σ H fun J H1 => ∀ D, H1 D = none → ∃ W : Nat → Nat → Hp → Prop, (∃ m, W 0 m (upd H1 D (.dT []))) ∧
  ∀ i m G, W i m G → (J.stop i G ∧ Q (.ref D) G) ∨ (J.go i G ∧ ∃ Nx : Hp → Prop, (∀ G2, Nx G2 → ∃ m2, m2 < m ∧ W (i + 1) m2 G2) ∧ ∀ x G2, J.yld i G x G2 → dctTurn D g tt tk tv vs σ Nx x G2)
abbrev InBlk (X : Cx) (scope : Scope) (F : Cx → Prop) : Prop := ∀ (s : Shared) (H : Hp) (C : Addr) (cl : List (Str × Addr)) (fp : List Addr), F (X.blk s H scope (compEnvC scope cl C X.env) fp)
theorem pe_dct {kx vx tg iter : Expr} {ifs : List Expr} {scope : Scope} {own : List (Str × Nat)} {pos : Pos} {wi : TI} {g : TG} {tt : TT} {tk tv : TE} (calm : X.calm = true) (nd : X.N.Nodup) (hu : X.A.units < cLine)
    (walk : PI X tg iter wi) (ok : BlkOk X.N X.env.scope scope own) (bg : InBlk X scope fun Y => PG Y tg g) (bt : InBlk X scope fun Y => PTs Y ifs tt) (bk : InBlk X scope fun Y => PE Y kx tk) (bv : InBlk X scope fun Y => PE Y vx tv)
    (plain : ∀ x, foldedSetIterable iter X.env x = pure x := by intro _; rfl) : PE X (.DictComp kx vx [⟨tg, iter, ifs, 0⟩] scope pos) (tDct wi g tt tk tv (own.map (·.2))) := by
  refine ⟨fun ps s σ H Q I hyp => ?_⟩
  rw [arm_eval_DictComp]
  have clo := closure_ok (env := X.env) (scope := scope) fun y hy e => (ok.free y hy e).elim (fun k => I.ok.has _ (.inl k)) (fun k => I.ok.has _ (.inr k))
  refine wpAny_comprehension_free (use := none) rfl plain clo ok.kind (fun y hy e => (ok.uniq y hy).trans (congrArg some e)) (thn (walk.run ps s σ H _ I hyp) fun _ s1 got => thn got fun _ s2 more => ?_)
  obtain ⟨it, fp, tn, J, H2, rfl, I2, T, here, fpok, rest⟩ := more
  refine wpAny_newObj_type (newEnv_comp ?_)
  let D : Addr := s2.heap.objs.size
  have free : H2 D = none := I2.hok.fresh (Nat.le_refl _)
  obtain ⟨W, ⟨m0, start⟩, turn⟩ := rest D free
  let s3 : Shared := { s2 with heap := s2.heap.push { cls := .type "dict", data := .dict #[] } }
  have old : ∀ b o, s2.heap.get? b = some o → s3.heap.get? b = some o := fun b o e => Heap.get?_push_of_some _ e
  have I3 : Inv X ps σ (upd H2 D (.dT [])) s3 := I2.laid (t' := s2.toks) old (Nat.le_refl _) (dt_empty s2.heap I2.big)
  have small : ∀ b ∈ fp, b < s2.heap.objs.size := fun b hb => (T.obj _ _ here b hb).elim fun _ e => Heap.lt_size e.1
  have fp3 : ∀ b ∈ fp, FpOk X ps (upd H2 D (.dT [])) b ∧ b < s3.heap.objs.size := fun b hb =>
    ⟨⟨(upd_ne (Nat.ne_of_lt (small b hb))).trans (fpok b hb).1, (fpok b hb).2⟩, Nat.lt_of_lt_of_eq (Nat.lt_succ_of_lt (small b hb)) (Heap.size_push ..).symm⟩
  have here3 : tn 0 s3.heap := T.keep _ _ _ here fun b _ o e => old b o e
  have I4 := block_start I3 ok nd fp3
  generalize hH3 : upd H2 D (.dT []) = H3 at I3 I4 fp3 start
  generalize hC : s3.heap.objs.size = C at I4 ⊢
  generalize hce : compEnvC scope (cellsFrom (C + 1) scope.names (cloFrom X.env.cells scope.names [])) C X.env = ce at I4
  have locC : ce.locals = C := by rw [← hce]; rfl
  have at_ : ∀ F : Cx → Prop, InBlk X scope F → F (X.blk s3 H3 scope ce fp) := fun F hF => by rw [← hce]; exact hF ..
  have pg := at_ _ bg
  have pt := at_ _ bt
  have pk := at_ _ bk
  have pv := at_ _ bv
  let B : Cx := X.blk s3 H3 scope ce fp
  let s4 : Shared := { s3 with heap := pushCells (s3.heap.push { cls := .type "dict", data := .dict #[] }) scope.names }
  show codeAny _ _ (.compStart (.DictComp kx vx [⟨tg, iter, ifs, 0⟩] scope pos) 0 (.ref it) (.ref D) (compEnvC scope (cellsFrom (C + 1) scope.names (cloFrom X.env.cells scope.names [])) C X.env)) _ s4
  rw [hce]
  have here4 : tn 0 s4.heap := T.keep _ _ _ here3 fun b _ o e => pushCells_keeps _ _ _ _ (Heap.get?_push_of_some _ e)
  have away : ∀ {τ : St} {G : Hp} {t : Shared}, Inv B [] τ G t → (∀ b ∈ fp, G b = none) → ∀ b ∈ fp, FpOk B [] G b := fun {τ G t} J hn b hb =>
    ⟨hn b hb, (J.ok.exf b hb).1, J.ok.exfs b hb, .inl hb, fun x c e => (J.ok.exf b hb).2 x c e, fun p hp => nomatch (show p ∈ ([] : List (Addr × Obj)) ++ [] from hp)⟩
  let Iv : Nat → Shared → Prop := fun n t => ∃ i G, Inv B [] (wipe σ (own.map (·.2))) G t ∧ tn i t.heap ∧ (∀ b ∈ fp, G b = none) ∧ W i n G
  refine codeAny_compStart_dict ?loop (T.self X.A 0 _ _ _ here4 ?loop)
  refine compLoop_anyD Iv ?_ m0 ⟨0, H3, I4, here4, fun b hb => (fp3 b hb).1.1, start⟩
  rintro n t ⟨i, G, J, st, no, w⟩
  rcases turn i n G w with ⟨stop, fin⟩ | ⟨go, Nx, hNx, step⟩
  · -- the walk is over
    refine thnF (T.done B rfl rfl rfl calm i [] t _ G (fun _ _ => False) J (away J no) st stop) fun r t2 ⟨er, J2⟩ => ?_
    subst er
    have back : Inv X ps σ G t2 := I3.call' (ch := fp) J2.os J2.base J2.hok J2.bare fun b hb => ⟨(fp3 b hb).1.2.2.2.1, (fp3 b hb).1.2.1, (fp3 b hb).1.2.2.2.2.1, (fp3 b hb).1.2.2.2.2.2⟩
    have noC : G C = none := locC ▸ (show G ce.locals = none from J2.free)
    obtain ⟨m, hm, _⟩ := J2.loc
    have fo := I3.fpOk (Nat.le_of_eq hC) noC
    refine ⟨m, locC ▸ (show t2.heap.Ns ce.locals m from hm), fun h3 sb => ?_⟩
    obtain ⟨f0, f1, f2, f3, f4, f5⟩ := fo
    exact ⟨.ref D, G, back.turned (t' := t2.toks) (fun b o hb e => (sb.2 b hb).trans e) f0 f1 f3 f4 f5, rfl, fin⟩
  · refine thnF (T.item B rfl rfl rfl calm i [] t _ G (fun _ _ => False) J (away J no) st go) fun r t2 ⟨u, er, more⟩ => ?_
    subst er
    refine thnF more fun _ t3 ⟨x, G3, J3, rx, hy, st3, no3⟩ => ?_
    have J3p := J3.pinned (away J3 no3) (T.obj _ _ st3)
    refine thnF (pg.run _ t3 _ G3 x u _ J3p rx (step x G3 hy)) fun _ t4 ⟨τ, G4, J4, hw, q4⟩ => ?_
    refine thnF (pt.run _ t4 τ G4 _ J4 q4) fun b t5 ⟨G5, J5, q5⟩ => ?_
    have again : ∀ {t' : Shared} {G' : Hp}, Inv B ([] ++ pinsAt fp t3.heap) τ G' t' → Nx G' → ∃ m, m < n ∧ Iv m t' := fun {t' G'} J' nx => by
      obtain ⟨m2, lt, w2⟩ := hNx G' nx
      have kept : ∀ c ∈ fp, ∀ o, t3.heap.get? c = some o → t'.heap.get? c = some o ∧ G' c = none := fun c hc o e =>
        let z := J'.pin (c, o) (List.mem_append_right _ (List.mem_append_right _ (mem_pinsAt hc e)))
        ⟨z.1, z.2.1⟩
      have len : (wipe σ (own.map (·.2))).length = τ.length := by rw [← hw, wipe_length]
      exact ⟨m2, lt, i + 1, G', (J'.unpinned (pins := [])).weak len (fun j v e => (wipe_some (hw ▸ e)).1), T.keep _ _ _ st3 fun c hc o e => (kept c hc o e).1,
        fun c hc => (T.obj _ _ st3 c hc).elim fun o e => (kept c hc o e.1).2, w2⟩
    cases b with
    | false =>
      simp only [Bool.false_eq_true, if_false] at q5 ⊢
      exact again J5 q5
    | true =>
      simp only [if_true] at q5 ⊢
      refine thnF (pk.run _ t5 τ G5 _ J5 q5) fun kv t6 ⟨y, G6, J6, ry, q6⟩ => ?_
      refine thnF (pv.run _ t6 τ G6 _ J6 q6) fun vv t7 ⟨z, G7, J7, rz, es, k, c, ey, hc, hD, hl, nx⟩ => ?_
      subst ey
      obtain rfl : kv = Value.ref c := ry
      exact put_tup (X := B) hu J7 hc hD hl rz fun t8 J8 => again J8 nx
end
end L2
/-! y = {k: v for ..}, y a plain local: the value goes straight to its name -/
namespace L2
open PySem PySem.Spec PyProof.Rows
section
variable {X : Cx}
theorem sw_trueD {kx vx : Expr} {gs : List Comprehension} {scope : Scope} {pos py : Pos} {y : Str} {l : Nat} {env : Env} (hk : env.scope.kind = .function) (hy : env.scope.names.lookup y = some .local) (hl : (py.line == pos.line) = true)
    (ha : (scope.names.any fun (n, k) => n == y && (k == .local || k == .cell)) = false) : swapsWith (.DictComp kx vx gs scope pos) (some (.Name y py)) l env = pure true := by
  have e1 : env.kindOf y = some .local := hy
  have e2 : env.blockKind = .function := by unfold Env.blockKind; rw [hk]; rfl
  unfold swapsWith
  simp only [e1, e2, ha, hl, Expr.pos]
  rfl
theorem ps_setDc {i : Nat} {y : Str} {py : Pos} {kx vx tg iter : Expr} {ifs : List Expr} {scope : Scope} {own : List (Str × Nat)} {pos spos : Pos} {wi : TI} {g : TG} {tt : TT} {tk tv : TE} (calm : X.calm = true) (nd : X.N.Nodup) (at_ : X.N[i]? = some y) (loc : X.env.scope.names.lookup y = some .local)
    (sw : swapsWith (.DictComp kx vx [⟨tg, iter, ifs, 0⟩] scope pos) (some (.Name y py)) spos.line X.env = pure true) (walk : PI X tg iter wi) (ok : BlkOk X.N X.env.scope scope own)
    (bg : InBlk X scope fun Y => PG Y tg g) (bt : InBlk X scope fun Y => PTs Y ifs tt) (bk : InBlk X scope fun Y => PE Y kx tk) (bv : InBlk X scope fun Y => PE Y vx tv) (plain : ∀ x, foldedSetIterable iter X.env x = pure x := by intro _; rfl) :
    PS X (.Assign [.Name y py] (.DictComp kx vx [⟨tg, iter, ifs, 0⟩] scope pos) spos) (tAsg (tDc wi g tt tk tv (own.map (·.2))) (gName i)) := by
  refine ⟨fun ps s σ H D I hyp => ?_⟩
  rw [exec_Assign_Name_used _ _ _ _ sw]
  refine wpAny_bind (wpAny_standAt (wpAny_bind ?_))
  show wpAny _ X.A (do let _ ← comprehension (.DictComp kx vx [⟨tg, iter, ifs, 0⟩] scope pos) scope X.env (firstIterPos [⟨tg, iter, ifs, 0⟩] pos) newDict false (eval iter X.env) (some (assign (.Name y py) X.env))) _ _ s
  have hyp2 : tDc wi g tt tk tv (own.map (·.2)) σ H (fun x G => gName i x σ G D.nx) := hyp
  refine wpAny_bind (thn (dc_core (Qf := fun _ t => SP X ps D .next t) calm nd I walk ok bg bt bk bv plain hyp2 fun L C t m G J fin hn fo => ?_) fun _ t ht => wpAny_pure (wpAny_pure ht))
  show wpAny _ _ (assign (.Name y py) X.env (.ref L)) _ _ _
  refine wpAny_assign_Name (store_ok2 (v := V.ref L) J nd at_ (.inl loc) rfl (fun t2 J2 ⟨b, sb, hb⟩ => ?_) (.inr loc))
  obtain ⟨f0, f1, f2, f3, f4, f5⟩ := fo
  have away : C ≠ b := by
    rcases hb with z | z
    · exact z ▸ f1
    · exact fun e => f4 y b z e.symm
  exact ⟨m, hn.sameBut sb away, fun h3 sb3 => ⟨_, G, J2.turned (t' := t2.toks) (fun c o hc e => (sb3.2 c hc).trans e) f0 f1 f3 f4 f5, fin⟩⟩
end
end L2
namespace G
open PySem PySem.Spec PyProof.Rows L2 Evl
theorem tYes_in {σ : L2.St} {H : Hp} {A B : Hp → Prop} (h : A H) : tYes σ H (fun b H3 => if b = true then A H3 else B H3) := by
  show if true = true then A H else B H
  exact iteT h
def tabV (bs : List Bool) : HO := .tup (bs.map V.bl)
theorem inV_ints {k : Int} {l : List Int} : inV (.int k) (l.map V.int) = l.contains k := by
  unfold inV
  rw [List.any_map, List.contains_eq_any_beq]
  congr 1
  funext y
  show (y == k) = (k == y)
  rw [Bool.eq_iff_iff]; simp; exact eq_comm
theorem inV_bls {k : Bool} {l : List Bool} : inV (.bl k) (l.map V.bl) = l.contains k := by
  unfold inV
  rw [List.any_map, List.contains_eq_any_beq]
  congr 1
  funext y
  show (y == k) = (k == y)
  cases y <;> cases k <;> rfl
theorem flat_map {α : Type} {f : α → V} (h : ∀ x, flatV (f x) = true) (l : List α) : (l.map f).all flatV = true := by
  rw [List.all_map]
  exact List.all_eq_true.mpr fun x _ => h x
theorem tif_by {tt : TE} {σ : L2.St} {H : Hp} {Q : VK} (R : V → Hp → Prop) (h : ∀ Q' : VK, (∀ v H', R v H' → Q' v H') → tt σ H Q') (rest : ∀ v H', R v H' → Q v H') : tt σ H Q := h Q rest
theorem bl_eq (a b : Bool) : decide (V.bl a = V.bl b) = decide (a = b) := by cases a <;> cases b <;> rfl
end G
namespace G
open PySem PySem.Spec PyProof.Rows L2
def topS (i : Nat) : Stmt := PySem.Challenge.pw_signoff_k10_tables_of_expressions.main.body.getD i (.Pass ⟨0, 0, 0, 0⟩)
abbrev s_names_in : Stmt := topS 6
abbrev s_operands : Stmt := topS 7
abbrev s_postorder : Stmt := topS 8
abbrev s_table_of : Stmt := topS 11
abbrev s_inputs_of : Stmt := topS 12
abbrev s_look_up : Stmt := topS 13
abbrev s_mask : Stmt := topS 14
abbrev s_column : Stmt := topS 15
abbrev s_combined : Stmt := topS 16
abbrev s_law_pool : Stmt := topS 18
abbrev s_law_spread : Stmt := topS 19
abbrev s_law_draw : Stmt := topS 20
abbrev s_law_same : Stmt := topS 21
abbrev s_law_word : Stmt := topS 22
abbrev s_law_tree : Stmt := topS 23
abbrev s_law_eval : Stmt := topS 24
abbrev s_law_bits : Stmt := topS 25
abbrev s_law_told : Stmt := topS 26
abbrev s_law_different : Stmt := topS 27
abbrev s_law : Stmt := topS 28
end G
namespace G
open PySem PySem.Spec PyProof.Rows L2 Evl
structure TxtL (mg : Str → Option Value) : Prop where
  int : mg "int" = none
  len : mg "len" = none
  list : mg "list" = none
  range : mg "range" = none
section
variable {P : Program} {w : World} {K : PySem.W.Frag} {mg : Str → Option Value} {base : Heap}
def spSpread : Sp := fun vs H Q _ => ∃ (c : Int), vs = [.int c] ∧ ∀ v : Int, Q (.int v) H
theorem sc_law_spread : FnScope ["cell", "mixed", "total", "k"] ["cell"] (defScope s_law_spread) := ⟨rfl, rfl, rfl, by decide +kernel, rfl, by decide +kernel, by decide +kernel⟩
theorem ok_law_spread (D : Dfd K mg "_law_spread" s_law_spread ["cell"]) (T : TxtL mg) : Has P w K mg base 1 "_law_spread" ["cell"] spSpread := by
  refine D.has fun f fd F => F.ok sc_law_spread (fun vs H Q E h => ?_) (fun cdv A outer s H vs Q E hr h => ?_)
  · obtain ⟨c, rfl, _⟩ := h
    rfl
  · obtain ⟨c, rfl, q⟩ := h
    refine ⟨_, (pss_cons (ps_set (i := 1) sc_law_spread.nd rfl (.inl rfl) (pe_op op_mod (pe_callTy call_int1 (by rfl) T.int (by decide +kernel) (pa_cons (pv 0) pa_nil)) pe_int))
      (pss_cons (ps_set (i := 2) sc_law_spread.nd rfl (.inl rfl) pe_int)
      (pss_cons (ps_for PassesOwn.never rfl (pi_range1 rfl T.range (pa_cons pe_int pa_nil)) (pg_name (i := 3) sc_law_spread.nd rfl (.inl rfl))
        (pss_cons (ps_set (i := 1) sc_law_spread.nd rfl (.inl rfl) (pe_op op_mod (pe_callTy call_int1 (by rfl) T.int (by decide +kernel) (pa_cons (pe_op op_add (pe_op op_add (pe_op op_mul (pv 1) pe_int) pe_int) (pv 3)) pa_nil)) pe_int))
        (pss_one (ps_set (i := 2) sc_law_spread.nd rfl (.inl rfl) (pe_op op_add (pe_op op_mul (pv 2) pe_int) (pv 1))))))
      (pss_one (ps_ret (pv 2)))))), ?_⟩
    refine ⟨_, rfl, .inl ⟨_, rfl, _, _, rfl, rfl, (by show (0 : Int) < 2147483647; decide), 4, rfl, by decide, by decide, for_range (n := 4) (fun _ σ H' => H' = H ∧ ∃ (x y : Int) (z : Option V), σ = [some (.int c), some (.int x), some (.int y), z]) ⟨rfl, _, _, _, rfl⟩ ?_ ?_⟩⟩
    · rintro i σ H' hi ⟨rfl, x, y, z, rfl⟩
      refine ⟨_, rfl, _, _, rfl, rfl, .inr ⟨by decide, by decide⟩, _, _, rfl, rfl, _, rfl, _, _, rfl, rfl, .inl ⟨_, rfl, _, _, rfl, rfl, (by show (0 : Int) < 2147483647; decide), _, rfl, _, _, rfl, rfl, .inr ⟨by decide, by decide⟩, _, rfl, _, _, rfl, rfl, rfl, _, _, _, rfl⟩⟩
    · rintro σ H' ⟨rfl, x, y, z, rfl⟩
      exact ⟨_, rfl, q y⟩
/-- a draw below n -/
def spDraw : Sp := fun vs H Q _ => ∃ (p a : Addr) (n : Int), vs = [.ref p, .int n] ∧ 0 < n ∧ n.natAbs.log2 < 9000 ∧ PoolOk p a H ∧ ∀ (v : Int) (o : HO), 0 ≤ v → v < n → PoolOk p a (upd H p o) → Q (.int v) (upd H p o)
theorem sc_law_draw : FnScope ["pool", "many", "cell", "mixed", "value"] ["pool", "many"] (defScope s_law_draw) := ⟨rfl, rfl, rfl, by decide +kernel, rfl, by decide +kernel, by decide +kernel⟩
theorem ok_law_draw (D : Dfd K mg "_law_draw" s_law_draw ["pool", "many"]) (T : TxtL mg) (C : Has P w K mg base 1 "_law_spread" ["cell"] spSpread) : Has P w K mg base 2 "_law_draw" ["pool", "many"] spDraw := by
  obtain ⟨f_law_spread, d_law_spread, G_law_spread, g_law_spread, k_law_spread, b_law_spread⟩ := C
  refine D.has fun f fd F => F.ok sc_law_draw (fun vs H Q E h => ?_) (fun cdv A outer s H vs Q E hr h => ?_)
  · obtain ⟨p, a, n, rfl, _⟩ := h
    rfl
  · obtain ⟨p, a, n, rfl, n0, n9, hp, q⟩ := h
    refine ⟨_, (pss_cut (ps_if (PW.pt (pw_and (pt_cmpR op_le (pe_ix ix_list (pv 0) pe_int (fun _ _ => rfl)) pe_int (nomark _)) (pw_and1 (pt_cmpR op_lt (pe_ix ix_list (pv 0) pe_int (fun _ _ => rfl)) (pe_callB call_len_seq (by rfl) T.len (by decide +kernel) (pa_cons (pe_ix ix_list (pv 0) pe_int (fun _ _ => rfl)) pa_nil)) (nomark _)))))
      (pss_cons (ps_set (i := 2) sc_law_draw.nd rfl (.inl rfl) (pe_ix ix_list (pe_ix ix_list (pv 0) pe_int (fun _ _ => rfl)) (pe_ix ix_list (pv 0) pe_int (fun _ _ => rfl)) (fun _ _ => rfl)))
      (pss_cons (ps_asg (pe_op op_add (pe_ix ix_list (pv 0) pe_int (fun _ _ => rfl)) pe_int) (pg_sub (pv 0) pe_int set_list))
      (pss_cons (ps_asg (pv 2) (pg_sub (pv 0) pe_int set_list))
      (pss_one (ps_if (pt_cmpR op_lt (pv 2) pe_int (nomark _))
        (pss_one (ps_asg (pe_call G_law_spread hr (by rfl) g_law_spread k_law_spread b_law_spread .nil pass0 (pa_cons (pv 2) pa_nil)) (pg_sub (pv 0) pe_int set_list)))
        pss_nil)))))
      pss_nil)
    (pss_cons (ps_asg (pe_op op_add (pe_ix ix_list (pv 0) pe_int (fun _ _ => rfl)) pe_int) (pg_sub (pv 0) pe_int set_list))
    (pss_cons (ps_if (pt_cmpR op_le (pe_ix ix_list (pv 0) pe_int (fun _ _ => rfl)) pe_int (nomark _))
      (pss_cons (ps_set (i := 3) sc_law_draw.nd rfl (.inl rfl) (pe_op op_mod (pe_callTy call_int1 (by rfl) T.int (by decide +kernel) (pa_cons (pe_op op_add (pe_op op_add (pe_op op_mul (pe_ix ix_list (pv 0) pe_int (fun _ _ => rfl)) pe_int) (pe_op op_mul (pe_ix ix_list (pv 0) pe_int (fun _ _ => rfl)) pe_int)) pe_int) pa_nil)) pe_int))
      (pss_cons (ps_set (i := 3) sc_law_draw.nd rfl (.inl rfl) (pe_op op_mod (pe_callTy call_int1 (by rfl) T.int (by decide +kernel) (pa_cons (pe_op op_add (pe_op op_mul (pv 3) pe_int) (pe_ix ix_list (pv 0) pe_int (fun _ _ => rfl))) pa_nil)) pe_int))
      (pss_one (ps_ret (pe_op op_mod (pe_op op_fdiv (pv 3) pe_int) (pv 1))))))
      pss_nil)
    (pss_cons (ps_set (i := 4) sc_law_draw.nd rfl (.inl rfl) (pe_op op_mod (pe_callTy call_int1 (by rfl) T.int (by decide +kernel) (pa_cons (pe_ix ix_list (pv 0) pe_int (fun _ _ => rfl)) pa_nil)) (pv 1)))
    (pss_cons (ps_asg (pe_op op_fdivW (pe_ix ix_list (pv 0) pe_int (fun _ _ => rfl)) (pv 1)) (pg_sub (pv 0) pe_int set_list))
    (pss_one (ps_ret (pv 4)))))))), ?_⟩
    obtain ⟨ns, i, c, k, s5, hl, ha, hn⟩ := hp
    have hap : a ≠ p := hid_neq ha
    have haH := hid_get ha
    -- the pool as it stands after writes
    have pk : ∀ (i' : Nat) (c' k' s' : Int), PoolOk p a (upd H p (.lst [.ref a, .int i', .int c', .int k', .int s'])) := fun i' c' k' s' =>
      ⟨ns, i', c', k', s', upd_same, by rw [hid_upd]; exact ha, hn⟩
    refine ⟨fun σ H' => ∃ (i' : Nat) (c' k' s' : Int) (o1 : Option V), σ = [some (.ref p), some (.int n), o1, none, none] ∧ H' p = some (.lst [.ref a, .int i', .int c', .int k', .int s']) ∧ (∀ o, upd H' p o = upd H p o), ?_, ?_⟩
    · refine ⟨_, rfl, _, _, _, _, rfl, rfl, SqL.of hl, atI_nat (j := 2) rfl, _, _, rfl, rfl, _, rfl, ite2 (fun e1 => ?_) (fun e1 => ?_)⟩
      · refine ⟨_, rfl, _, _, _, _, rfl, rfl, SqL.of hl, atI_nat (j := 1) rfl, _, rfl, _, _, _, _, rfl, rfl, SqL.of hl, atI_nat (j := 0) rfl, _, _, rfl, .inl (SqL.of haH), _, _, rfl, rfl, _, rfl, ite2 (fun e2 => ?_) (fun e2 => ?_)⟩
        · have hi : i < (ns.map V.int).length := by have := of_decide_eq_true e2; omega
          have hi' : i < ns.length := by rw [List.length_map] at hi; exact hi
          have gi : (ns.map V.int)[i]? = some (.int ns[i]) := by rw [List.getElem?_map, List.getElem?_eq_getElem hi']; rfl
          refine ⟨_, rfl, _, _, _, _, rfl, rfl, SqL.of hl, atI_nat (j := 0) rfl, _, rfl, _, _, _, _, rfl, rfl, SqL.of hl, atI_nat (j := 1) rfl, _, _, _, _, rfl, rfl, SqL.of haH, atI_nat gi, ?_⟩
          refine ⟨_, rfl, _, _, _, _, rfl, rfl, SqL.of hl, atI_nat (j := 1) rfl, _, _, rfl, rfl, _, rfl, _, _, _, 1, rfl, rfl, hl, rfl, ?_⟩
          refine ⟨_, rfl, _, rfl, _, _, _, 2, rfl, rfl, upd_same, rfl, ?_⟩
          refine ⟨_, rfl, _, _, rfl, rfl, _, rfl, ite2 (fun e3 => ?_) (fun e3 => ?_)⟩
          · refine ⟨_, rfl, _, rfl, fun v => ⟨_, rfl, _, _, _, 2, rfl, rfl, upd_same, rfl, ?_⟩⟩
            exact ⟨i + 1, v, k, s5, _, rfl, upd_same, fun o => by rw [upd_upd, upd_upd, upd_upd]⟩
          · exact ⟨i + 1, ns[i], k, s5, _, rfl, upd_same, fun o => by rw [upd_upd, upd_upd]⟩
        · exact ⟨i, c, k, s5, _, rfl, hl, fun _ => rfl⟩
      · exact iteF ⟨i, c, k, s5, _, rfl, hl, fun _ => rfl⟩
    · rintro σ H' ⟨i, c, k, s5, o1, rfl, hl', hu⟩
      refine ⟨_, rfl, _, _, _, _, rfl, rfl, SqL.of hl', atI_nat (j := 3) rfl, _, _, rfl, rfl, _, rfl, _, _, _, 3, rfl, rfl, hl', rfl, ?_⟩
      refine ⟨_, rfl, _, _, _, _, rfl, rfl, SqL.of upd_same, atI_nat (j := 2) rfl, _, _, rfl, rfl, _, rfl, ite2 (fun e1 => ?_) (fun e1 => ?_)⟩
      · refine ⟨_, rfl, _, _, _, _, rfl, rfl, SqL.of upd_same, atI_nat (j := 4) rfl, _, _, rfl, rfl, .inr ⟨by decide, by decide⟩, _, rfl, _, _, _, _, rfl, rfl, SqL.of upd_same, atI_nat (j := 3) rfl, _, _, rfl, rfl, .inr ⟨by decide, by decide⟩, _, _, rfl, rfl, _, _, rfl, rfl, .inl ⟨_, rfl, _, _, rfl, rfl, (by show (0 : Int) < 2147483647; decide), ?_⟩⟩
        refine ⟨_, rfl, _, _, rfl, rfl, .inr ⟨by decide, by decide⟩, _, rfl, _, _, _, _, rfl, rfl, SqL.of upd_same, atI_nat (j := 3) rfl, _, _, rfl, rfl, .inl ⟨_, rfl, _, _, rfl, rfl, (by show (0 : Int) < 2147483629; decide), ?_⟩⟩
        refine ⟨_, rfl, _, _, rfl, rfl, ⟨by decide, by decide⟩, _, rfl, _, _, rfl, rfl, n0, ?_⟩
        show Q _ _
        rw [hu]
        exact q _ _ (Int.emod_nonneg _ (by omega)) (Int.emod_lt_of_pos _ n0) (pk i c (k + 1) s5)
      · refine ⟨_, rfl, _, _, _, _, rfl, rfl, SqL.of upd_same, atI_nat (j := 2) rfl, .inl ⟨_, rfl, _, rfl, _, _, rfl, rfl, n0, ?_⟩⟩
        refine ⟨_, rfl, _, _, _, _, rfl, rfl, SqL.of upd_same, atI_nat (j := 2) rfl, _, rfl, _, _, rfl, rfl, ⟨n0, n9⟩, _, rfl, _, _, _, 2, rfl, rfl, upd_same, rfl, _, rfl, ?_⟩
        show Q _ _
        rw [upd_upd, hu]
        exact q _ _ (Int.emod_nonneg _ (by omega)) (Int.emod_lt_of_pos _ n0) (pk i (c / n) (k + 1) s5)
/-- the same, the heap behind it a letter -/
def spDrawX : Sp := fun vs H Q _ => ∃ (p a : Addr) (n : Int), vs = [.ref p, .int n] ∧ 0 < n ∧ n ≤ 2 ^ 70 ∧ PoolOk p a H ∧ ∀ (v : Nat) (H' : Hp), (v : Int) < n → Px p a H H' → (∀ b, b ≠ p → H' b = H b) → Q (.int v) H'
theorem log2_small {n : Int} (h0 : 0 < n) (h : n ≤ 2 ^ 70) : n.natAbs.log2 < 9000 := by
  have h1 : n.natAbs < 2 ^ 71 := by omega
  have := PySem.Flt.log2_lt_of (by decide : 0 < 71) h1
  omega
theorem drawX (C : Has P w K mg base 2 "_law_draw" ["pool", "many"] spDraw) : Has P w K mg base 2 "_law_draw" ["pool", "many"] spDrawX :=
  C.imp fun vs H Q E h => by
    obtain ⟨p, a, n, rfl, h0, h1, hp, q⟩ := h
    refine ⟨p, a, n, rfl, h0, log2_small h0 h1, hp, fun v o v0 v1 hq => ?_⟩
    have e : v = ((v.toNat : Nat) : Int) := by omega
    rw [e]
    exact q v.toNat _ (by omega) (Px.draw hp hq) fun b hb => upd_ne hb
end
end G
namespace G
open PySem PySem.Spec PyProof.Rows L2 Evl
/-! ## data -/
inductive D where
  | non | bl (b : Bool) | int (i : Int) | str (s : Str) | tup (l : List D) | lst (l : List D)
def okD : Nat → D → Prop
  | 0, .tup _ => False
  | 0, .lst _ => False
  | n + 1, .tup l => l.length < 2 ^ 61 ∧ ∀ d ∈ l, okD n d
  | n + 1, .lst l => l.length < 2 ^ 61 ∧ ∀ d ∈ l, okD n d
  | _, _ => True
inductive Rep (H : Hp) : V → D → Prop where
  | non : Rep H .non .non
  | bl (b : Bool) : Rep H (.bl b) (.bl b)
  | int (i : Int) : Rep H (.int i) (.int i)
  | str (s : Str) : Rep H (.str s) (.str s)
  | tup {a : Addr} {xs : List V} {ds : List D} (h : H a = some (.tup xs)) (hl : xs.length = ds.length) (hr : ∀ (i : Nat) (x : V) (d : D), xs[i]? = some x → ds[i]? = some d → Rep H x d) : Rep H (.ref a) (.tup ds)
  | lst {a : Addr} {xs : List V} {ds : List D} (h : H a = some (.lst xs)) (hl : xs.length = ds.length) (hr : ∀ (i : Nat) (x : V) (d : D), xs[i]? = some x → ds[i]? = some d → Rep H x d) : Rep H (.ref a) (.lst ds)
theorem Rep.ex {H H' : Hp} (e : Ex H H') {x : V} {d : D} (r : Rep H x d) : Rep H' x d := by
  induction r with
  | non => exact .non
  | bl b => exact .bl b
  | int i => exact .int i
  | str s => exact .str s
  | tup h hl _ ih => exact .tup (e _ _ h) hl ih
  | lst h hl _ ih => exact .lst (e _ _ h) hl ih
theorem okD.mono : ∀ {n m : Nat} {d : D}, n ≤ m → okD n d → okD m d
  | 0, 0, d, _, h => h
  | 0, m + 1, .non, _, _ => trivial
  | 0, m + 1, .bl _, _, _ => trivial
  | 0, m + 1, .int _, _, _ => trivial
  | 0, m + 1, .str _, _, _ => trivial
  | 0, m + 1, .tup _, _, h => h.elim
  | 0, m + 1, .lst _, _, h => h.elim
  | n + 1, m + 1, .non, _, _ => trivial
  | n + 1, m + 1, .bl _, _, _ => trivial
  | n + 1, m + 1, .int _, _, _ => trivial
  | n + 1, m + 1, .str _, _, _ => trivial
  | n + 1, m + 1, .tup l, le, h => ⟨h.1, fun d hd => okD.mono (Nat.le_of_succ_le_succ le) (h.2 d hd)⟩
  | n + 1, m + 1, .lst l, le, h => ⟨h.1, fun d hd => okD.mono (Nat.le_of_succ_le_succ le) (h.2 d hd)⟩
structure TxtS (mg : Str → Option Value) : Prop where
  isinstance : mg "isinstance" = none
  tuple : mg "tuple" = none
  list : mg "list" = none
  len : mg "len" = none
  range : mg "range" = none
  bool : mg "bool" = none
  int : mg "int" = none
  str : mg "str" = none
section
variable {P : Program} {w : World} {K : PySem.W.Frag} {mg : Str → Option Value} {base : Heap}
/-- equal data: the answer is True -/
def spSame : Nat → Sp
  | 0 => fun _ _ _ _ => False
  | n + 1 => fun vs H Q _ => ∃ (x y : V) (d : D), vs = [x, y] ∧ Rep H x d ∧ Rep H y d ∧ okD n d ∧ Q (.bl true) H
theorem sc_law_same : FnScope ["actual", "due", "k"] ["actual", "due"] (defScope s_law_same) := ⟨rfl, rfl, rfl, by decide +kernel, rfl, by decide +kernel, by decide +kernel⟩
theorem fn_law_same {f : Addr} {fd : FuncData} (F : Fun K "_law_same" "_law_same" s_law_same f fd) (g_law_same : mg "_law_same" = some (.ref f)) (b_law_same : Binds K fd ["actual", "due"] []) (T : TxtS mg) : ∀ n, FnOk P w K mg base CX0 n f fd ["actual", "due"] (spSame n)
  | 0 => ⟨fun _ _ _ _ h => h.elim, fun _ _ _ _ _ _ _ _ _ _ _ _ _ h => h.elim⟩
  | n + 1 => by
    have G_law_same := fn_law_same F g_law_same b_law_same T n
    have k_law_same := F.kp
    refine F.ok sc_law_same (fun vs H Q E h => ?_) (fun cdv A outer s H vs Q E hr h => ?_)
    · obtain ⟨x, y, d, rfl, _⟩ := h
      rfl
    · obtain ⟨x, y, d, rfl, rx, ry, hd, q⟩ := h
      refine ⟨_, (pss_cons (ps_if (PW.pt (pw_or (pt_val (pe_callB call_isi (by rfl) T.isinstance (by decide +kernel) (pa_cons (pv 1) (pa_cons (pe_bltn (v := .ty "tuple") (by rfl) T.tuple (by decide +kernel) rfl) pa_nil)))) (pw_or1 (pt_val (pe_callB call_isi (by rfl) T.isinstance (by decide +kernel) (pa_cons (pv 1) (pa_cons (pe_bltn (v := .ty "list") (by rfl) T.list (by decide +kernel) rfl) pa_nil)))))))
      (pss_cons (ps_if (PW.pt (pw_or (pt_cmpR op_ne (pe_callB call_isi (by rfl) T.isinstance (by decide +kernel) (pa_cons (pv 1) (pa_cons (pe_bltn (v := .ty "tuple") (by rfl) T.tuple (by decide +kernel) rfl) pa_nil))) (pe_callB call_isi (by rfl) T.isinstance (by decide +kernel) (pa_cons (pv 0) (pa_cons (pe_bltn (v := .ty "tuple") (by rfl) T.tuple (by decide +kernel) rfl) pa_nil))) (nomark _)) (pw_or1 (pt_cmpR op_ne (pe_callB call_isi (by rfl) T.isinstance (by decide +kernel) (pa_cons (pv 1) (pa_cons (pe_bltn (v := .ty "list") (by rfl) T.list (by decide +kernel) rfl) pa_nil))) (pe_callB call_isi (by rfl) T.isinstance (by decide +kernel) (pa_cons (pv 0) (pa_cons (pe_bltn (v := .ty "list") (by rfl) T.list (by decide +kernel) rfl) pa_nil))) (nomark _)))))
        (pss_one (ps_ret pe_bl))
        pss_nil)
      (pss_cons (ps_if (pt_cmpR op_ne (pe_callB call_len_seq (by rfl) T.len (by decide +kernel) (pa_cons (pv 0) pa_nil)) (pe_callB call_len_seq (by rfl) T.len (by decide +kernel) (pa_cons (pv 1) pa_nil)) (nomark _))
        (pss_one (ps_ret pe_bl))
        pss_nil)
      (pss_cons (ps_for PassesOwn.never rfl (pi_range1 rfl T.range (pa_cons (pe_callB call_len_seq (by rfl) T.len (by decide +kernel) (pa_cons (pv 1) pa_nil)) pa_nil)) (pg_name (i := 2) sc_law_same.nd rfl (.inl rfl))
        (pss_one (ps_if (pt_not (pt_val (pe_call G_law_same hr (by rfl) g_law_same k_law_same b_law_same .nil pass0 (pa_cons (pe_ix ix_seq (pv 0) (pv 2) (fun _ _ => rfl)) (pa_cons (pe_ix ix_seq (pv 1) (pv 2) (fun _ _ => rfl)) pa_nil)))))
          (pss_one (ps_ret pe_bl))
          pss_nil)))
      (pss_one (ps_ret pe_bl)))))
      pss_nil)
    (pss_cons (ps_if (pt_cmpR op_isN (pv 1) pe_non (nomark _))
      (pss_one (ps_ret (pe_cmpR op_isN (pv 0) pe_non (nomark _))))
      pss_nil)
    (pss_cons (ps_if (pt_val (pe_callB call_isi (by rfl) T.isinstance (by decide +kernel) (pa_cons (pv 1) (pa_cons (pe_bltn (v := .ty "bool") (by rfl) T.bool (by decide +kernel) rfl) pa_nil))))
      (pss_one (ps_ret (pe_and (pe_callB call_isi (by rfl) T.isinstance (by decide +kernel) (pa_cons (pv 0) (pa_cons (pe_bltn (v := .ty "bool") (by rfl) T.bool (by decide +kernel) rfl) pa_nil))) (pe_one (pe_cmpR op_eq (pv 0) (pv 1) (nomark _))))))
      pss_nil)
    (pss_cons (ps_if (pt_val (pe_callB call_isi (by rfl) T.isinstance (by decide +kernel) (pa_cons (pv 1) (pa_cons (pe_bltn (v := .ty "int") (by rfl) T.int (by decide +kernel) rfl) pa_nil))))
      (pss_one (ps_ret (pe_and (pe_callB call_isi (by rfl) T.isinstance (by decide +kernel) (pa_cons (pv 0) (pa_cons (pe_bltn (v := .ty "int") (by rfl) T.int (by decide +kernel) rfl) pa_nil))) (pe_and (pe_not (pe_callB call_isi (by rfl) T.isinstance (by decide +kernel) (pa_cons (pv 0) (pa_cons (pe_bltn (v := .ty "bool") (by rfl) T.bool (by decide +kernel) rfl) pa_nil)))) (pe_one (pe_cmpR op_eq (pv 0) (pv 1) (nomark _)))))))
      pss_nil)
    (pss_one (ps_ret (pe_and (pe_callB call_isi (by rfl) T.isinstance (by decide +kernel) (pa_cons (pv 0) (pa_cons (pe_bltn (v := .ty "str") (by rfl) T.str (by decide +kernel) rfl) pa_nil))) (pe_one (pe_cmpR op_eq (pv 0) (pv 1) (nomark _)))))))))), ?_⟩
      cases rx with
      | non =>
        cases ry
        refine ⟨_, rfl, _, _, _, _, _, rfl, .ty "tuple", .base .non, kit_ty (a := "NoneType") (r := false) (by decide +kernel), _, rfl, iteF ⟨_, rfl, _, _, _, _, _, rfl, .ty "list", .base .non, kit_ty (a := "NoneType") (r := false) (by decide +kernel), _, rfl, iteF ⟨_, rfl, rfl, _, rfl, iteT ⟨_, rfl, rfl, ?_⟩⟩⟩⟩
        exact q
      | bl b =>
        cases ry
        refine ⟨_, rfl, _, _, _, _, _, rfl, .ty "tuple", .base (.bl _), kit_ty (a := "bool") (r := false) (by decide +kernel), _, rfl, iteF ⟨_, rfl, _, _, _, _, _, rfl, .ty "list", .base (.bl _), kit_ty (a := "bool") (r := false) (by decide +kernel), _, rfl, iteF ⟨_, rfl, rfl, _, rfl, iteF ⟨_, rfl, _, _, _, _, _, rfl, .ty "bool", .base (.bl _), kit_ty (a := "bool") (r := true) (by decide +kernel), _, rfl, iteT ⟨_, rfl, _, _, _, _, _, rfl, .ty "bool", .base (.bl _), kit_ty (a := "bool") (r := true) (by decide +kernel), _, rfl, iteT ⟨_, rfl, _, rfl, rfl, ?_⟩⟩⟩⟩⟩⟩
        rw [decide_eq_true rfl]
        exact q
      | int b =>
        cases ry
        refine ⟨_, rfl, _, _, _, _, _, rfl, .ty "tuple", .base (.int _), kit_ty (a := "int") (r := false) (by decide +kernel), _, rfl, iteF ⟨_, rfl, _, _, _, _, _, rfl, .ty "list", .base (.int _), kit_ty (a := "int") (r := false) (by decide +kernel), _, rfl, iteF ⟨_, rfl, rfl, _, rfl, iteF ⟨_, rfl, _, _, _, _, _, rfl, .ty "bool", .base (.int _), kit_ty (a := "int") (r := false) (by decide +kernel), _, rfl, iteF ⟨_, rfl, _, _, _, _, _, rfl, .ty "int", .base (.int _), kit_ty (a := "int") (r := true) (by decide +kernel), _, rfl, iteT ⟨_, rfl, _, _, _, _, _, rfl, .ty "int", .base (.int _), kit_ty (a := "int") (r := true) (by decide +kernel), _, rfl, iteT ⟨_, rfl, _, _, _, _, _, rfl, .ty "bool", .base (.int _), kit_ty (a := "int") (r := false) (by decide +kernel), _, rfl, _, rfl, iteT ⟨_, rfl, _, rfl, rfl, ?_⟩⟩⟩⟩⟩⟩⟩⟩
        rw [decide_eq_true rfl]
        exact q
      | str b =>
        cases ry
        refine ⟨_, rfl, _, _, _, _, _, rfl, .ty "tuple", .base (.str _), kit_ty (a := "str") (r := false) (by decide +kernel), _, rfl, iteF ⟨_, rfl, _, _, _, _, _, rfl, .ty "list", .base (.str _), kit_ty (a := "str") (r := false) (by decide +kernel), _, rfl, iteF ⟨_, rfl, rfl, _, rfl, iteF ⟨_, rfl, _, _, _, _, _, rfl, .ty "bool", .base (.str _), kit_ty (a := "str") (r := false) (by decide +kernel), _, rfl, iteF ⟨_, rfl, _, _, _, _, _, rfl, .ty "int", .base (.str _), kit_ty (a := "str") (r := false) (by decide +kernel), _, rfl, iteF ⟨_, rfl, _, _, _, _, _, rfl, .ty "str", .base (.str _), kit_ty (a := "str") (r := true) (by decide +kernel), _, rfl, iteT ⟨_, rfl, _, rfl, rfl, ?_⟩⟩⟩⟩⟩⟩⟩
        rw [decide_eq_true rfl]
        exact q
      | @tup a xs ds hx lx rx =>
        cases ry with
        | @tup b ys _ hy ly ry =>
          cases n with
          | zero => exact hd.elim
          | succ m =>
            obtain ⟨hlen, hall⟩ := hd
            refine ⟨_, rfl, _, _, _, _, _, rfl, .ty "tuple", .base (.tup hy), kit_ty (a := "tuple") (r := true) (by decide +kernel), _, rfl, iteT (iteT ⟨_, rfl, _, _, _, _, _, rfl, .ty "tuple", .base (.tup hy), kit_ty (a := "tuple") (r := true) (by decide +kernel), _, rfl, _, _, _, _, _, rfl, .ty "tuple", .base (.tup hx), kit_ty (a := "tuple") (r := true) (by decide +kernel), rfl, _, rfl, iteF ⟨_, rfl, _, _, _, _, _, rfl, .ty "list", .base (.tup hy), kit_ty (a := "tuple") (r := false) (by decide +kernel), _, rfl, _, _, _, _, _, rfl, .ty "list", .base (.tup hx), kit_ty (a := "tuple") (r := false) (by decide +kernel), rfl, _, rfl, iteF ⟨_, rfl, _, _, rfl, .inr (SqT.of hx), _, rfl, _, _, rfl, .inr (SqT.of hy), rfl, _, rfl, ?_⟩⟩⟩)⟩
            have el : decide (V.int (xs.length : Int) = V.int (ys.length : Int)) = true := decide_eq_true (by rw [lx, ly])
            rw [el]
            refine ⟨_, rfl, _, _, rfl, .inr (SqT.of hy), _, rfl, by omega, by omega, for_range (n := (ys.length : Int).toNat) (fun _ σ H' => H' = H ∧ ∃ z : Option V, σ = [some (.ref a), some (.ref b), z]) ⟨rfl, _, rfl⟩ ?_ ?_⟩
            · rintro i σ H' hi ⟨rfl, z, rfl⟩
              have hi' : i < ds.length := by omega
              have e0 : (0 : Int) + (i : Int) = (i : Int) := Int.zero_add _
              have g1 : xs[i]? = some xs[i] := List.getElem?_eq_getElem (by omega)
              have g2 : ys[i]? = some ys[i] := List.getElem?_eq_getElem (by omega)
              have g3 : ds[i]? = some ds[i] := List.getElem?_eq_getElem hi'
              rw [e0]
              refine ⟨_, rfl, _, rfl, .inr (.inl ⟨_, _, _, _, rfl, rfl, SqT.of hx, atI_nat g1, _, rfl, _, rfl, .inr (.inl ⟨_, _, _, _, rfl, rfl, SqT.of hy, atI_nat g2, ?_⟩)⟩)⟩
              exact ⟨_, _, ds[i], rfl, rx i _ _ g1 g3, ry i _ _ g2 g3, hall _ (List.getElem_mem hi'), _, rfl, rfl, _, rfl⟩
            · rintro σ H' ⟨rfl, z, rfl⟩
              exact q
      | @lst a xs ds hx lx rx =>
        cases ry with
        | @lst b ys _ hy ly ry =>
          cases n with
          | zero => exact hd.elim
          | succ m =>
            obtain ⟨hlen, hall⟩ := hd
            refine ⟨_, rfl, _, _, _, _, _, rfl, .ty "tuple", .base (.lst hy), kit_ty (a := "list") (r := false) (by decide +kernel), _, rfl, iteF ⟨_, rfl, _, _, _, _, _, rfl, .ty "list", .base (.lst hy), kit_ty (a := "list") (r := true) (by decide +kernel), _, rfl, iteT ⟨_, rfl, _, _, _, _, _, rfl, .ty "tuple", .base (.lst hy), kit_ty (a := "list") (r := false) (by decide +kernel), _, rfl, _, _, _, _, _, rfl, .ty "tuple", .base (.lst hx), kit_ty (a := "list") (r := false) (by decide +kernel), rfl, _, rfl, iteF ⟨_, rfl, _, _, _, _, _, rfl, .ty "list", .base (.lst hy), kit_ty (a := "list") (r := true) (by decide +kernel), _, rfl, _, _, _, _, _, rfl, .ty "list", .base (.lst hx), kit_ty (a := "list") (r := true) (by decide +kernel), rfl, _, rfl, iteF ⟨_, rfl, _, _, rfl, .inl (SqL.of hx), _, rfl, _, _, rfl, .inl (SqL.of hy), rfl, _, rfl, ?_⟩⟩⟩⟩⟩
            have el : decide (V.int (xs.length : Int) = V.int (ys.length : Int)) = true := decide_eq_true (by rw [lx, ly])
            rw [el]
            refine ⟨_, rfl, _, _, rfl, .inl (SqL.of hy), _, rfl, by omega, by omega, for_range (n := (ys.length : Int).toNat) (fun _ σ H' => H' = H ∧ ∃ z : Option V, σ = [some (.ref a), some (.ref b), z]) ⟨rfl, _, rfl⟩ ?_ ?_⟩
            · rintro i σ H' hi ⟨rfl, z, rfl⟩
              have hi' : i < ds.length := by omega
              have e0 : (0 : Int) + (i : Int) = (i : Int) := Int.zero_add _
              have g1 : xs[i]? = some xs[i] := List.getElem?_eq_getElem (by omega)
              have g2 : ys[i]? = some ys[i] := List.getElem?_eq_getElem (by omega)
              have g3 : ds[i]? = some ds[i] := List.getElem?_eq_getElem hi'
              rw [e0]
              refine ⟨_, rfl, _, rfl, .inl ⟨_, _, _, _, rfl, rfl, SqL.of hx, atI_nat g1, _, rfl, _, rfl, .inl ⟨_, _, _, _, rfl, rfl, SqL.of hy, atI_nat g2, ?_⟩⟩⟩
              exact ⟨_, _, ds[i], rfl, rx i _ _ g1 g3, ry i _ _ g2 g3, hall _ (List.getElem_mem hi'), _, rfl, rfl, _, rfl⟩
            · rintro σ H' ⟨rfl, z, rfl⟩
              exact q
theorem ok_law_same (D : Dfd K mg "_law_same" s_law_same ["actual", "due"]) (T : TxtS mg) (n : Nat) : Has P w K mg base n "_law_same" ["actual", "due"] (spSame n) := by
  obtain ⟨f, fd, F, g, b⟩ := D
  exact ⟨f, fd, fn_law_same F g b T n, g, F.kp, b⟩
end
/-! ## data made of flat lists -/
theorem rep_map {H : Hp} {α : Type} {f : α → V} {g : α → D} {l : List α} (h : ∀ x, Rep H (f x) (g x)) : (l.map f).length = (l.map g).length ∧ ∀ (i : Nat) (x : V) (d : D), (l.map f)[i]? = some x → (l.map g)[i]? = some d → Rep H x d := by
  refine ⟨by rw [List.length_map, List.length_map], fun i x d hx hd => ?_⟩
  rw [List.getElem?_map] at hx hd
  cases e : l[i]? with
  | none => rw [e] at hx; cases hx
  | some y =>
    rw [e] at hx hd
    have e1 : f y = x := Option.some.inj hx
    have e2 : g y = d := Option.some.inj hd
    rw [← e1, ← e2]
    exact h y
theorem rep_ints {H : Hp} {a : Addr} {l : List Int} (h : H a = some (.lst (l.map V.int))) : Rep H (.ref a) (.lst (l.map D.int)) :=
  let r := rep_map (H := H) (f := V.int) (g := D.int) (l := l) fun i => .int i
  .lst h r.1 r.2
theorem rep_bls {H : Hp} {a : Addr} {l : List Bool} (h : H a = some (.tup (l.map V.bl))) : Rep H (.ref a) (.tup (l.map D.bl)) :=
  let r := rep_map (H := H) (f := V.bl) (g := D.bl) (l := l) fun i => .bl i
  .tup h r.1 r.2
theorem okD_ints {l : List Int} (h : l.length < 2 ^ 61) : okD 1 (.lst (l.map D.int)) := ⟨by rw [List.length_map]; exact h, fun d hd => by obtain ⟨_, _, rfl⟩ := List.mem_map.mp hd; trivial⟩
end G
namespace G
open PySem PySem.Spec PyProof.Rows L2 Evl
section
variable {P : Program} {w : World} {K : PySem.W.Frag} {mg : Str → Option Value} {base : Heap}
theorem cutV_mem {xs : List V} {lo hi : Option Int} {i : Nat} {x : V} (h : (cutV xs lo hi)[i]? = some x) : x ∈ xs := by
  unfold cutV at h
  exact List.mem_of_mem_drop (List.mem_of_mem_take (List.mem_of_getElem? h))
theorem int_of {ns : List Int} {x : V} (h : x ∈ ns.map V.int) : ∃ z, x = .int z := by
  obtain ⟨z, _, e⟩ := List.mem_map.mp h
  exact ⟨z, e.symm⟩
def spPool (K : PySem.W.Frag) : Sp := fun vs H Q _ => ∃ (s : Addr) (ns : List Int), vs = [.ref s] ∧ SqL K H s (ns.map V.int) ∧ ns.length ≤ 1000 ∧ ∀ (p a : Addr) (H' : Hp), PoolOk p a H' → Ex H H' → H p = none → Q (.ref p) H'
theorem sc_law_pool : FnScope ["script", "salt", "cell"] ["script"] (defScope s_law_pool) := ⟨rfl, rfl, rfl, by decide +kernel, rfl, by decide +kernel, by decide +kernel⟩
theorem ok_law_pool (D : Dfd K mg "_law_pool" s_law_pool ["script"]) (T : TxtL mg) : Has P w K mg base 1 "_law_pool" ["script"] (spPool K) := by
  refine D.has fun f fd F => F.ok sc_law_pool (fun vs H Q E h => ?_) (fun cdv A outer s H vs Q E hr h => ?_)
  · obtain ⟨c, _, rfl, _⟩ := h
    rfl
  · obtain ⟨sa, ns, rfl, hs, hn, q⟩ := h
    refine ⟨_, (pss_cons (ps_set (i := 1) sc_law_pool.nd rfl (.inl rfl) pe_int)
      (pss_cons (ps_for PassesOwn.never rfl (pi_list (pe_slice sl_list (pv 0) po_none (po_some pe_int))) (pg_name (i := 2) sc_law_pool.nd rfl (.inl rfl))
        (pss_one (ps_set (i := 1) sc_law_pool.nd rfl (.inl rfl) (pe_op op_mod (pe_callTy call_int1 (by rfl) T.int (by decide +kernel) (pa_cons (pe_op op_add (pe_op op_mul (pv 1) pe_int) (pv 2)) pa_nil)) pe_int))))
      (pss_one (ps_ret (pe_lst (pa_cons (pe_callTy call_list_of (by rfl) T.list (by decide +kernel) (pa_cons (pv 0) pa_nil)) (pa_cons pe_int (pa_cons pe_int (pa_cons pe_int (pa_cons (pv 1) pa_nil)))))))))), ?_⟩
    refine ⟨_, rfl, _, rfl, sa, _, rfl, hs, fun c nc => ⟨c, rfl, ⟨_, SqL.of upd_same⟩, for_list (K := K) (a := c) (xs := cutV (ns.map V.int) none (some 63)) (fun _ σ H' => H' = upd H c (.lst (cutV (ns.map V.int) none (some 63))) ∧ ∃ (x : Int) (z : Option V), σ = [some (.ref sa), some (.int x), z]) ⟨rfl, _, _, rfl⟩ ?_ ?_ ?_⟩⟩
    · rintro i σ H' _ ⟨rfl, _⟩
      exact SqL.of upd_same
    · rintro i x σ H' hi ⟨rfl, y, z, rfl⟩
      obtain ⟨m, rfl⟩ := int_of (cutV_mem hi)
      exact ⟨_, rfl, _, _, rfl, rfl, .inr ⟨by decide, by decide⟩, _, rfl, _, _, rfl, rfl, .inl ⟨_, rfl, _, _, rfl, rfl, (by show (0 : Int) < 1000003; decide), rfl, _, _, rfl⟩⟩
    · rintro σ H' ⟨rfl, y, z, rfl⟩
      have e1 : Ex H (upd H c (.lst (cutV (ns.map V.int) none (some 63)))) := Ex.new nc
      refine ⟨_, rfl, _, _, rfl, .inl (ex_l e1 hs), fun l nl => ⟨_, rfl, (by show 5 ≤ sizeLine; decide), fun p np => ?_⟩⟩
      have e2 := e1.trans (Ex.new (o := .lst (ns.map V.int)) nl)
      have npl : l ≠ p := ne_of_none upd_same np
      exact q p l _ ⟨ns, 0, 0, 0, y, upd_same, by rw [hid_ne npl, upd_ne npl]; exact upd_same, hn⟩ (e2.trans (Ex.new np)) (fresh_back e2 np)
end
end G
namespace G
open PySem PySem.Spec PyProof.Rows L2 Evl
def bitsOf (x m : Nat) : List Bool := (List.range m).map fun k => x.testBit k
theorem bitsOf_len (x m : Nat) : (bitsOf x m).length = m := by unfold bitsOf; rw [List.length_map, List.length_range]
theorem bitsOf_succ (x m : Nat) : bitsOf x (m + 1) = bitsOf x m ++ [x.testBit m] := by unfold bitsOf; rw [List.range_succ, List.map_append]; rfl
theorem bit_at (x i : Nat) : decide (V.int (((x / 2 ^ i : Nat) : Int) % 2) = V.int 1) = x.testBit i := by
  rw [Nat.testBit_eq_decide_div_mod_eq, Bool.eq_iff_iff, decide_eq_true_iff, decide_eq_true_iff, V.int.injEq]
  omega
theorem half_at (x i : Nat) : ((x / 2 ^ i : Nat) : Int) / 2 = ((x / 2 ^ (i + 1) : Nat) : Int) := by
  rw [Nat.pow_succ, ← Nat.div_div_eq_div_mul]
  omega
section
variable {P : Program} {w : World} {K : PySem.W.Frag} {mg : Str → Option Value} {base : Heap}
def spBits : Sp := fun vs H Q _ => ∃ (x m : Nat), vs = [.int x, .int m] ∧ m ≤ 1000 ∧ ∀ (t : Addr) (H' : Hp), H t = none → Ex H H' → H' t = some (.tup ((bitsOf x m).map V.bl)) → Q (.ref t) H'
theorem sc_law_bits : FnScope ["index", "many", "out", "k"] ["index", "many"] (defScope s_law_bits) := ⟨rfl, rfl, rfl, by decide +kernel, rfl, by decide +kernel, by decide +kernel⟩
theorem ok_law_bits (D : Dfd K mg "_law_bits" s_law_bits ["index", "many"]) (T : TxtS mg) : Has P w K mg base 1 "_law_bits" ["index", "many"] spBits := by
  refine D.has fun f fd F => F.ok sc_law_bits (fun vs H Q E h => ?_) (fun cdv A outer s H vs Q E hr h => ?_)
  · obtain ⟨c, _, rfl, _⟩ := h
    rfl
  · obtain ⟨x, m, rfl, hm, q⟩ := h
    refine ⟨_, (pss_cons (ps_set (i := 2) sc_law_bits.nd rfl (.inl rfl) (pe_lst pa_nil))
    (pss_cons (ps_for PassesOwn.never rfl (pi_range1 rfl T.range (pa_cons (pv 1) pa_nil)) (pg_name (i := 3) sc_law_bits.nd rfl (.inl rfl))
      (pss_cons (ps_expr (pe_bm PySem.F.plainAttrs_list PySem.F.slot_list_append PySem.F.type_list_append mt_append (pv 2) (pa_cons (pe_cmpR op_eq (pe_op op_mod (pe_callTy call_int1 (by rfl) T.int (by decide +kernel) (pa_cons (pv 0) pa_nil)) pe_int) pe_int (nomark _)) pa_nil)))
      (pss_one (ps_set (i := 0) sc_law_bits.nd rfl (.inl rfl) (pe_op op_fdiv (pv 0) pe_int)))))
    (pss_one (ps_ret (pe_callTy call_tuple_of (by rfl) T.tuple (by decide +kernel) (pa_cons (pv 2) pa_nil)))))), ?_⟩
    refine ⟨Nat.zero_le _, fun o no => ⟨_, rfl, _, rfl, by omega, by omega, for_range (n := ((m : Int)).toNat) (fun i σ H' => H' = upd H o (.lst ((bitsOf x i).map V.bl)) ∧ ∃ z : Option V, σ = [some (.int ((x / 2 ^ i : Nat) : Int)), some (.int m), some (.ref o), z]) ⟨rfl, _, by rw [Nat.pow_zero, Nat.div_one]; rfl⟩ ?_ ?_⟩⟩
    · rintro i σ H' hi ⟨rfl, z, rfl⟩
      refine ⟨_, rfl, .inl ⟨rfl, _, SqL.of upd_same⟩, _, rfl, .inl ⟨_, rfl, _, _, rfl, rfl, (by show (0 : Int) < 2; decide), rfl, o, _, _, rfl, rfl, upd_same, ?_, _, rfl, _, _, rfl, rfl, ⟨by decide, by decide⟩, ?_, some (.int (0 + (i : Int))), ?_⟩⟩
      · exact sz_lt (by rw [List.length_map, bitsOf_len]; omega)
      · rw [upd_upd, bit_at, bitsOf_succ, List.map_append]; rfl
      · rw [← half_at]; rfl
    · rintro σ H' ⟨rfl, z, rfl⟩
      refine ⟨_, rfl, _, _, rfl, .inl ⟨SqL.of upd_same, fun t nt => ?_⟩⟩
      have e1 : Ex H (upd H o (.lst ((bitsOf x ((m : Int)).toNat).map V.bl))) := Ex.new no
      exact q t _ (fresh_back e1 nt) (e1.trans (Ex.new nt)) upd_same
end
end G
namespace G
open PySem PySem.Spec PyProof.Rows L2 Evl
/-! the trees of expressions -/
inductive Op where | and | xor | or
def Op.s : Op → Str | .and => "and" | .xor => "xor" | .or => "or"
def Op.f : Op → Bool → Bool → Bool | .and => Bool.and | .xor => bne | .or => Bool.or
inductive Tr where
  | name (x : Str) | const (b : Bool) | neg (t : Tr) | bin (o : Op) (l r : Tr)
theorem Op.ne (o : Op) : o.s ≠ "name" ∧ o.s ≠ "const" ∧ o.s ≠ "not" := by cases o <;> decide +kernel
theorem tagNe : (("const" : Str) ≠ "name") ∧ (("not" : Str) ≠ "name") ∧ (("not" : Str) ≠ "const") := by decide +kernel
def Tr.parts : Tr → List Tr | .neg t => [t] | .bin _ l r => [l, r] | _ => []
def Tr.post : Tr → List Tr
  | .neg t => t.post ++ [.neg t]
  | .bin o l r => l.post ++ r.post ++ [.bin o l r]
  | .name x => [.name x]
  | .const b => [.const b]
theorem Tr.post_eq (t : Tr) : t.post = t.parts.flatMap Tr.post ++ [t] := by
  cases t with
  | neg t => simp [Tr.post, Tr.parts]
  | bin o l r => simp [Tr.post, Tr.parts]
  | name x => rfl
  | const b => rfl
def Tr.ev (f : Str → Bool) : Tr → Bool
  | .name x => f x
  | .const b => b
  | .neg t => !t.ev f
  | .bin o l r => o.f (l.ev f) (r.ev f)
/-- the value at the head of a written tree -/
def Tr.tag : Tr → Str | .name _ => "name" | .const _ => "const" | .neg _ => "not" | .bin o _ _ => o.s
def TreeAt (K : PySem.W.Frag) (H : Hp) : V → Tr → Prop
  | v, .name x => ∃ a, v = .ref a ∧ SqT K H a [.str "name", .str x]
  | v, .const b => ∃ a, v = .ref a ∧ SqT K H a [.str "const", .bl b]
  | v, .neg t => ∃ a x, v = .ref a ∧ SqT K H a [.str "not", x] ∧ TreeAt K H x t
  | v, .bin o l r => ∃ a x y, v = .ref a ∧ SqT K H a [.str o.s, x, y] ∧ TreeAt K H x l ∧ TreeAt K H y r
theorem TreeAt.ex {K : PySem.W.Frag} {H H' : Hp} (e : Ex H H') : ∀ {v : V} {t : Tr}, TreeAt K H v t → TreeAt K H' v t
  | v, .name x, ⟨a, h1, h2⟩ => ⟨a, h1, ex_t e h2⟩
  | v, .const b, ⟨a, h1, h2⟩ => ⟨a, h1, ex_t e h2⟩
  | v, .neg t, ⟨a, x, h1, h2, h3⟩ => ⟨a, x, h1, ex_t e h2, h3.ex e⟩
  | v, .bin o l r, ⟨a, x, y, h1, h2, h3, h4⟩ => ⟨a, x, y, h1, ex_t e h2, h3.ex e, h4.ex e⟩
/-- what stands at a tree: its tag, its parts -/
def Ins (K : PySem.W.Frag) (H : Hp) (zs : List V) : Tr → Prop
  | .name x => zs = [.str x]
  | .const b => zs = [.bl b]
  | .neg t => All2 (TreeAt K H) zs [t]
  | .bin _ l r => All2 (TreeAt K H) zs [l, r]
theorem TreeAt.seq {K : PySem.W.Frag} {H : Hp} {v : V} {t : Tr} (h : TreeAt K H v t) : ∃ a zs, v = .ref a ∧ SqT K H a (.str t.tag :: zs) ∧ Ins K H zs t := by
  cases t with
  | name x => obtain ⟨a, h1, h2⟩ := h; exact ⟨a, _, h1, h2, rfl⟩
  | const b => obtain ⟨a, h1, h2⟩ := h; exact ⟨a, _, h1, h2, rfl⟩
  | neg t => obtain ⟨a, x, h1, h2, h3⟩ := h; exact ⟨a, [x], h1, h2, All2.nil.snoc h3⟩
  | bin o l r => obtain ⟨a, x, y, h1, h2, h3, h4⟩ := h; exact ⟨a, [x, y], h1, h2, (All2.nil.snoc h3).snoc h4⟩
/-! columns as numbers: the bit r is that of the row r -/
def colN (f : Nat → Bool) : Nat → Nat
  | 0 => 0
  | n + 1 => colN f n + if f n then 2 ^ n else 0
theorem colN_lt (f : Nat → Bool) : ∀ n, colN f n < 2 ^ n
  | 0 => by show 0 < 1; decide
  | n + 1 => by
    have h := colN_lt f n
    show colN f n + _ < 2 ^ (n + 1)
    rw [Nat.pow_succ]
    split <;> omega
theorem colN_bit (f : Nat → Bool) : ∀ n r, (colN f n).testBit r = (decide (r < n) && f r)
  | 0, r => by show (0 : Nat).testBit r = _; simp
  | n + 1, r => by
    have h := colN_lt f n
    show (colN f n + if f n then 2 ^ n else 0).testBit r = _
    by_cases hf : f n = true
    · rw [if_pos hf, Nat.add_comm]
      rcases Nat.lt_trichotomy r n with q | q | q
      · rw [Nat.testBit_two_pow_add_gt q, colN_bit f n r, decide_eq_true q, decide_eq_true (by omega : r < n + 1)]
      · subst q
        rw [Nat.testBit_two_pow_add_eq, colN_bit f r r, hf]; simp
      · rw [Nat.testBit_lt_two_pow (Nat.lt_of_lt_of_le (by rw [Nat.pow_succ]; omega : 2 ^ n + colN f n < 2 ^ (n + 1)) (Nat.pow_le_pow_right (by decide) q)), decide_eq_false (by omega : ¬ r < n + 1)]; rfl
    · rw [if_neg hf, Nat.add_zero, colN_bit f n r]
      by_cases q : r = n
      · subst q; simp [hf]
      · have : decide (r < n + 1) = decide (r < n) := by
          by_cases z : r < n
          · rw [decide_eq_true z, decide_eq_true (by omega)]
          · rw [decide_eq_false z, decide_eq_false (by omega)]
        rw [this]
theorem colN_op (n : Nat) (f g : Nat → Bool) : (colN f n &&& colN g n = colN (fun r => f r && g r) n) ∧ (colN f n ||| colN g n = colN (fun r => f r || g r) n) ∧ (colN f n ^^^ colN g n = colN (fun r => f r != g r) n) := by
  refine ⟨Nat.eq_of_testBit_eq fun r => ?_, Nat.eq_of_testBit_eq fun r => ?_, Nat.eq_of_testBit_eq fun r => ?_⟩
  · rw [Nat.testBit_and, colN_bit, colN_bit, colN_bit]; cases decide (r < n) <;> simp
  · rw [Nat.testBit_or, colN_bit, colN_bit, colN_bit]; cases decide (r < n) <;> simp
  · rw [Nat.testBit_xor, colN_bit, colN_bit, colN_bit]; cases decide (r < n) <;> simp
theorem colN_one (n : Nat) : colN (fun _ => true) n = 2 ^ n - 1 := by
  refine Nat.eq_of_testBit_eq fun r => ?_
  rw [colN_bit, Nat.testBit_two_pow_sub_one]; simp
theorem colN_zero (n : Nat) : colN (fun _ => false) n = 0 := by
  refine Nat.eq_of_testBit_eq fun r => ?_
  rw [colN_bit]; simp
theorem colN_congr {f g : Nat → Bool} : ∀ n, (∀ r, r < n → f r = g r) → colN f n = colN g n
  | 0, _ => rfl
  | n + 1, h => by
    show colN f n + _ = colN g n + _
    rw [colN_congr n fun r hr => h r (by omega), h n (by omega)]
/-! the stack of the columns -/
def Good (g : Tr) : List Tr → List Tr → Prop
  | S, [] => S = [g]
  | S, τ :: l => ∃ S', S = S' ++ τ.parts ∧ Good g (S' ++ [τ]) l
theorem good_post (g : Tr) : ∀ (t : Tr) (S l : List Tr), Good g (S ++ [t]) l → Good g S (t.post ++ l)
  | .name x, S, l, h => ⟨S, by simp [Tr.parts], h⟩
  | .const b, S, l, h => ⟨S, by simp [Tr.parts], h⟩
  | .neg t, S, l, h => by
    show Good g S (t.post ++ [Tr.neg t] ++ l)
    rw [List.append_assoc]
    exact good_post g t S _ ⟨S, rfl, h⟩
  | .bin o a b, S, l, h => by
    show Good g S (a.post ++ b.post ++ [Tr.bin o a b] ++ l)
    rw [List.append_assoc, List.append_assoc]
    exact good_post g a S _ (good_post g b _ _ ⟨S, by simp [Tr.parts], h⟩)
theorem good_all (t : Tr) : Good t [] t.post := by
  have := good_post t t [] [] rfl
  rw [List.append_nil] at this
  exact this
def asg (ns : List Str) (r : Nat) : Str → Bool := fun x => r.testBit (ns.idxOf x)
def maskN (ns : List Str) (n : Nat) (t : Tr) : Nat := colN (fun r => t.ev (asg ns r)) n
end G
namespace G
open PySem PySem.Spec PyProof.Rows L2 Evl
structure TxtE (mg : Str → Option Value) : Prop where
  len : mg "len" = none
  range : mg "range" = none
  enumerate : mg "enumerate" = none
  sum : mg "sum" = none
  tuple : mg "tuple" = none
  set : mg "set" = none
  sorted : mg "sorted" = none
section
open AutoSeq1 (wpAny_loadPart')
theorem ext_tup (l : Addr) (items : Array Value) (n : Nat) (b : Addr) (items2 : Array Value) (n2 : Nat) (dd : Option Addr) (sl : Array (Option Value)) (h0 : ¬(!items.isEmpty && Builtin.List.listTooLong (items.size + items2.size)) = true) (h1 : items.size ≤ sizeLine) (h2 : items.size + items2.size ≤ sizeLine + 1) :
    Meets (Builtin.«list.extend» ⟨[.ref l, .ref b], []⟩) (fun _ R s => s.heap.get? l = some { cls := .type "list", dict := none, data := .seq items n, slots := #[] } ∧ s.heap.get? b = some { cls := .type "tuple", dict := dd, data := .seq items2 n2, slots := sl } ∧ R (.ok (.ret Value.none)) { s with heap := s.heap.update l (Obj.mapSeq fun x => x ++ items2), toks := s.toks }) :=
  .of_wp fun prog w A R s h => by
    obtain ⟨hp, g, d, tk, os⟩ := s; obtain ⟨hl, hb, h⟩ := h; have f1 := AutoSeq1.idx_int; have f2 := AutoSeq1.sub_tuple_tuple; have f3 := AutoSeq1.sub_list_list; have f4 := AutoSeq1.sub_tuple_list; have f5 := AutoSeq1.sub_list_tuple
    have hz : (items ++ items2).size ≤ sizeLine + 1 := by rw [Array.size_append]; exact h2
    wp_walk using (wpAny_updateSeq hl rfl (hz := h1) (_hz' := hz)), wpAny_loadPart' hl, wpAny_loadPart' hb; exact ⟨_, rfl, h⟩
end
section
variable {X : Cx}
/-- list.extend by a tuple -/
def rExtT (K : PySem.W.Frag) : V → List V → Hp → VK → Prop := fun x vs H Q => ∃ l b xs zs, x = .ref l ∧ vs = [.ref b] ∧ H l = some (.lst xs) ∧ SqT K H b zs ∧ xs.length + zs.length ≤ sizeLine ∧ Q .non (upd H l (.lst (xs ++ zs)))
theorem mt_extT : MtM X "list.extend" (rExtT X.K) := by
  intro pins s σ H x vs v us Q I rx rv h
  obtain ⟨l, b, xs, zs, rfl, rfl, hH, hB, hz, q⟩ := h
  cases rx
  obtain ⟨u, rfl, ru⟩ := rv.one
  cases ru
  obtain ⟨z, its, n, r, hl, e⟩ := I.lstM hH
  obtain ⟨its2, r2, ⟨⟨oc, od, oda, os⟩, ho, hcl, n2, hda⟩, hz2⟩ := I.tuple hB
  simp only at hcl hda
  subst hcl; subst hda
  have l2 : its2.length = zs.length := r2.length.symm
  have hsz : its.toArray.size + its2.length ≤ sizeLine := by rw [List.size_toArray, l2, ← hl]; exact hz
  have hlong : ¬ (!its.toArray.isEmpty && Builtin.List.listTooLong (its.toArray.size + its2.toArray.size)) = true := by
    rw [List.size_toArray (as := its2), notLongL hsz, Bool.and_false]
    exact Bool.false_ne_true
  refine call_meets F.slot_list_extend ⟨_, e, rfl⟩ F.entry_list_extend (F.args_list_extend_2 _ _)
    (ext_tup l its.toArray n b its2.toArray n2 od os hlong (by omega) (by rw [List.size_toArray (as := its2)]; omega)) ⟨e, ho, ?_⟩
  refine ⟨.non, _, I.lset (its' := its ++ its2) hH e (by simp) (r.append r2) ?_, rfl, q⟩
  rw [List.length_append]
  rw [List.size_toArray] at hsz
  omega
end
section
variable {P : Program} {w : World} {K : PySem.W.Frag} {mg : Str → Option Value} {base : Heap}
def spOps : Sp := fun vs H Q _ => ∃ (v : V) (t : Tr) (H0 : Hp), vs = [v] ∧ Ex H0 H ∧ TreeAt K H0 v t ∧ ∀ (p : Addr) (zs : List V) (H' : Hp), Ex H H' → SqT K H' p zs → All2 (TreeAt K H0) zs t.parts → Q (.ref p) H'
theorem sc_operands : FnScope ["tree"] ["tree"] (defScope s_operands) := ⟨rfl, rfl, rfl, by decide +kernel, rfl, by decide +kernel, by decide +kernel⟩
theorem ok_operands (D : Dfd K mg "operands" s_operands ["tree"]) : Has P w K mg base 1 "operands" ["tree"] (spOps (K := K)) := by
  refine D.has fun f fd F => F.ok sc_operands (fun vs H Q E h => ?_) (fun cdv A outer s H vs Q E hr h => ?_)
  · obtain ⟨v, t, H0, rfl, _⟩ := h
    rfl
  · obtain ⟨v, t, H0, rfl, E0, ht, q⟩ := h
    refine ⟨_, (pss_cons (ps_if (PW.pt (pw_or (pt_cmpR op_eq (pe_ix ix_tup (pv 0) pe_int (fun _ _ => rfl)) pe_str (nomark _)) (pw_or1 (pt_cmpR op_eq (pe_ix ix_tup (pv 0) pe_int (fun _ _ => rfl)) pe_str (nomark _)))))
      (pss_one (ps_ret (pe_tup pa_nil)))
      pss_nil)
    (pss_one (ps_ret (pe_slice sl_tupA (pv 0) (po_some pe_int) po_none)))), ?_⟩
    obtain ⟨a, zs, rfl, hs0, hz⟩ := ht.seq
    have hs := ex_t E0 hs0
    have n1 : (V.str t.tag :: zs)[0]? = some (V.str t.tag) := rfl
    refine ⟨_, rfl, _, _, _, _, rfl, rfl, hs, atI_nat (j := 0) n1, rfl, _, rfl, ?_⟩
    have done : (t.tag = "name" ∨ t.tag = "const") → ∀ p, H p = none → Q (.ref p) (upd H p (.tup [])) := fun c p np => by
      refine q p [] _ (Ex.new np) (SqT.of upd_same) ?_
      cases t with
      | name x => exact All2.nil
      | const b => exact All2.nil
      | neg t => exact absurd c (by show ¬ ((("not" : Str) = "name") ∨ (("not" : Str) = "const")); decide +kernel)
      | bin o l r => exact absurd c (fun z => z.elim o.ne.1 o.ne.2.1)
    refine ite2 (fun c1 => ?_) (fun c1 => ?_)
    · refine ⟨(by show 0 ≤ sizeLine; decide), fun p np => done (.inl ?_) p np⟩
      exact V.str.inj (of_decide_eq_true c1)
    refine ⟨_, rfl, _, _, _, _, rfl, rfl, hs, atI_nat (j := 0) n1, rfl, _, rfl, ite2 (fun c2 => ?_) (fun c2 => ?_)⟩
    · refine ⟨(by show 0 ≤ sizeLine; decide), fun p np => done (.inr ?_) p np⟩
      exact V.str.inj (of_decide_eq_true c2)
    have hz' : All2 (TreeAt K H0) zs t.parts := by
      cases t with
      | name x => exact absurd (decide_eq_true rfl) c1
      | const b => exact absurd (decide_eq_true rfl) c2
      | neg t => exact hz
      | bin o l r => exact hz
    refine ⟨_, rfl, _, rfl, a, _, rfl, hs, fun z => ?_, fun _ p np => ?_⟩
    · have := z.1
      unfold HT.sIx at this
      simp at this
    · refine q p zs _ (Ex.new np) (SqT.of (upd_same.trans ?_)) hz'
      have e : cutV (V.str t.tag :: zs) (some 1) none = zs := by
        unfold cutV HT.sIx
        simp
      rw [e]
def spPost : Sp := fun vs H Q _ => ∃ (v : V) (t : Tr) (H0 : Hp), vs = [v] ∧ Ex H0 H ∧ TreeAt K H0 v t ∧ t.post.length ≤ 10000 ∧ ∀ (p : Addr) (zs : List V) (H' : Hp), Ex H H' → H p = none → H' p = some (.lst zs) → All2 (TreeAt K H0) zs t.post → Q (.ref p) H'
theorem sc_postorder : FnScope ["tree", "found", "waiting", "part"] ["tree"] (defScope s_postorder) := ⟨rfl, rfl, rfl, by decide +kernel, rfl, by decide +kernel, by decide +kernel⟩
theorem ok_postorder (D : Dfd K mg "postorder" s_postorder ["tree"]) (C1 : Has P w K mg base 1 "operands" ["tree"] (spOps (K := K))) : Has P w K mg base 2 "postorder" ["tree"] (spPost (K := K)) := by
  obtain ⟨f_operands, d_operands, G_operands, g_operands, k_operands, b_operands⟩ := C1
  refine D.has fun f fd F => F.ok sc_postorder (fun vs H Q E h => ?_) (fun cdv A outer s H vs Q E hr h => ?_)
  · obtain ⟨v, t, H0, rfl, _⟩ := h
    rfl
  · obtain ⟨v, t, H0, rfl, E0, ht, hn, q⟩ := h
    refine ⟨_, (pss_cons (ps_set (i := 1) sc_postorder.nd rfl (.inl rfl) (pe_lst pa_nil))
    (pss_cons (ps_set (i := 2) sc_postorder.nd rfl (.inl rfl) (pe_lst (pa_cons (pv 0) pa_nil)))
    (pss_cons (ps_while PassesOwn.never (pt_truth (pv 2) (by intro _; rfl))
      (pss_cons (ps_set (i := 3) sc_postorder.nd rfl (.inl rfl) (pe_bm0 PySem.F.plainAttrs_list PySem.F.slot_list_pop PySem.F.type_list_pop mt_pop (pv 2)))
      (pss_cons (ps_expr (pe_bm PySem.F.plainAttrs_list PySem.F.slot_list_append PySem.F.type_list_append mt_append (pv 1) (pa_cons (pv 3) pa_nil)))
      (pss_one (ps_expr (pe_bm PySem.F.plainAttrs_list PySem.F.slot_list_extend PySem.F.type_list_extend mt_extT (pv 2) (pa_cons (pe_call G_operands (hr.mono (by omega)) (by rfl) g_operands k_operands b_operands .nil pass0 (pa_cons (pv 3) pa_nil)) pa_nil)))))))
    (pss_one (ps_ret (pe_revL (pv 1))))))), ?_⟩
    have hv0 := ht
    refine ⟨(by show 0 ≤ sizeLine; decide), fun L1 n1 => ⟨_, rfl, (by show 1 ≤ sizeLine; decide), fun L2 n2 => ?_⟩⟩
    have E1 : Ex H (upd H L1 (.lst [])) := Ex.new n1
    have h1 : upd H L1 (.lst []) L1 = some (.lst []) := upd_same
    generalize upd H L1 (.lst []) = H1 at *
    have E2 : Ex H (upd H1 L2 (.lst [v])) := E1.mut (fresh_back E1 n2)
    have ne : L1 ≠ L2 := ne_of_none h1 n2
    refine ⟨fun m σ H' => Ex H H' ∧ ∃ (fs ws : List V) (F W : List Tr) (z : Option V), H' L1 = some (.lst fs) ∧ H' L2 = some (.lst ws) ∧ All2 (TreeAt K H0) fs F ∧ All2 (TreeAt K H0) ws W ∧ F ++ (W.flatMap Tr.post).reverse = t.post.reverse ∧ (W.flatMap Tr.post).length = m ∧ σ = [some v, some (.ref L1), some (.ref L2), z],
      ⟨t.post.length, E2, [], [v], [], [t], none, (upd_ne ne).trans h1, upd_same, .nil, All2.nil.snoc ht, by simp, by simp, rfl⟩, ?_⟩
    rintro m σ H2 ⟨E3, fs, ws, F, W, z, hF, hW, aF, aW, hI, hm, rfl⟩
    refine ⟨_, rfl, !ws.isEmpty, .inl ⟨_, SqL.of hW, rfl⟩, ite2 (fun c1 => ?_) (fun c1 => ?_)⟩
    · obtain ⟨ws', x, rfl⟩ : ∃ ws' x, ws = ws' ++ [x] := by
        rcases List.eq_nil_or_concat ws with rfl | ⟨L, b, rfl⟩
        · cases c1
        · exact ⟨L, b, List.concat_eq_append⟩
      obtain ⟨W', τ, rfl⟩ : ∃ W' τ, W = W' ++ [τ] := by
        rcases List.eq_nil_or_concat W with rfl | ⟨L, b, rfl⟩
        · have := aW.1; rw [List.length_append] at this; cases this
        · exact ⟨L, b, List.concat_eq_append⟩
      have hl : ws'.length = W'.length := by have := aW.1; rw [List.length_append, List.length_append] at this; exact Nat.succ.inj this
      have hx : TreeAt K H0 x τ := aW.2 ws'.length x τ (by rw [List.getElem?_append_right (Nat.le_refl _), Nat.sub_self]; rfl) (by rw [hl, List.getElem?_append_right (Nat.le_refl _), Nat.sub_self]; rfl)
      have aW' : All2 (TreeAt K H0) ws' W' := ⟨hl, fun i a b ha hb => aW.2 i a b (by rw [List.getElem?_append_left (List.getElem?_eq_some_iff.mp ha).1]; exact ha) (by rw [List.getElem?_append_left (List.getElem?_eq_some_iff.mp hb).1]; exact hb)⟩
      have eW : ((W' ++ [τ]).flatMap Tr.post).reverse = τ :: ((τ.parts.flatMap Tr.post).reverse ++ (W'.flatMap Tr.post).reverse) := by
        rw [List.flatMap_append, List.flatMap_singleton, τ.post_eq]; simp
      have eL : ((W' ++ [τ]).flatMap Tr.post).length = ((W' ++ τ.parts).flatMap Tr.post).length + 1 := by
        rw [List.flatMap_append, List.flatMap_append, List.flatMap_singleton, τ.post_eq]; simp; omega
      refine ⟨fun σ' H' => Ex H H' ∧ ∃ (fs ws : List V) (F W : List Tr) (z : Option V), H' L1 = some (.lst fs) ∧ H' L2 = some (.lst ws) ∧ All2 (TreeAt K H0) fs F ∧ All2 (TreeAt K H0) ws W ∧ F ++ (W.flatMap Tr.post).reverse = t.post.reverse ∧ (W.flatMap Tr.post).length < m ∧ σ' = [some v, some (.ref L1), some (.ref L2), z], ?_, ?_⟩
      · rintro σ' H' ⟨b1, b2, b3, b4, b5, b6, b7, b8, b9, b10, b11, b12, b13⟩
        exact ⟨_, b12, b1, b2, b3, b4, b5, b6, b7, b8, b9, b10, b11, rfl, b13⟩
      have n10 : H L1 = none := n1
      have n20 : H L2 = none := fresh_back E1 n2
      refine ⟨_, rfl, .inl ⟨rfl, _, SqL.of hW⟩, L2, _, x, rfl, rfl, hW, by simp, ?_⟩
      have E4 : Ex H (upd H2 L2 (.lst (ws' ++ [x]).dropLast)) := E3.mut n20
      have hW4 : upd H2 L2 (.lst (ws' ++ [x]).dropLast) L2 = some (.lst ws') := by rw [upd_same, List.dropLast_concat]
      have hF4 : upd H2 L2 (.lst (ws' ++ [x]).dropLast) L1 = some (.lst fs) := (upd_ne ne).trans hF
      generalize upd H2 L2 (.lst (ws' ++ [x]).dropLast) = H4 at *
      have hpos : ∀ l : List Tr, l.length ≤ (l.flatMap Tr.post).length := fun l => by
        induction l with
        | nil => exact Nat.le_refl _
        | cons a l ih => rw [List.flatMap_cons, List.length_append, List.length_cons, a.post_eq, List.length_append, List.length_singleton]; omega
      have hsz : F.length + (W' ++ τ.parts).length + 1 ≤ 10000 := by
        have h1 := congrArg List.length hI
        rw [List.length_append, List.length_reverse, List.length_reverse, eL] at h1
        have := hpos (W' ++ τ.parts)
        omega
      refine ⟨_, rfl, .inl ⟨rfl, _, SqL.of hF4⟩, _, rfl, L1, _, _, rfl, rfl, hF4, sz_lt (by rw [aF.1]; omega), ?_⟩
      have E5 : Ex H (upd H4 L1 (.lst (fs ++ [x]))) := E4.mut n10
      have hF5 : upd H4 L1 (.lst (fs ++ [x])) L1 = some (.lst (fs ++ [x])) := upd_same
      have hW5 : upd H4 L1 (.lst (fs ++ [x])) L2 = some (.lst ws') := (upd_ne ne.symm).trans hW4
      generalize upd H4 L1 (.lst (fs ++ [x])) = H5 at *
      refine ⟨_, rfl, .inl ⟨rfl, _, SqL.of hW5⟩, _, rfl, x, τ, H0, rfl, E0.trans E5, hx, fun p zs H6 E6 hp aZ => ?_⟩
      refine ⟨L2, p, _, zs, rfl, rfl, E6 _ _ hW5, hp, ?_, ?_⟩
      · rw [List.length_append] at hsz
        rw [hl, aZ.1]
        exact sz_of (by omega)
      · refine ⟨(E5.trans E6).mut n20, fs ++ [x], ws' ++ zs, F ++ [τ], W' ++ τ.parts, _, (upd_ne ne).trans (E6 _ _ hF5), upd_same, aF.snoc hx, ?_, ?_, by omega, rfl⟩
        · refine ⟨by rw [List.length_append, List.length_append, hl, aZ.1], fun i a b ha hb => ?_⟩
          by_cases hi : i < ws'.length
          · rw [List.getElem?_append_left hi] at ha
            rw [List.getElem?_append_left (hl ▸ hi)] at hb
            exact aW'.2 i a b ha hb
          · rw [List.getElem?_append_right (by omega)] at ha
            rw [List.getElem?_append_right (by omega), ← hl] at hb
            exact aZ.2 _ a b ha hb
        · rw [← hI, eW, List.flatMap_append, List.reverse_append, List.append_assoc]; rfl
    · have e0 : ws = [] := by cases ws; rfl; exact absurd rfl c1
      subst e0
      have e1 : W = [] := List.length_eq_zero_iff.mp aW.1.symm
      subst e1
      refine ⟨_, rfl, _, _, rfl, SqL.of hF, fun p np => ?_⟩
      have hI' : F = t.post.reverse := by simpa using hI
      subst hI'
      refine q p fs.reverse _ (E3.trans (Ex.new np)) (fresh_back E3 np) upd_same ⟨by rw [List.length_reverse, aF.1, List.length_reverse], fun i a b ha hb => ?_⟩
      have hi : i < fs.length := by have := (List.getElem?_eq_some_iff.mp ha).1; rw [List.length_reverse] at this; exact this
      rw [List.getElem?_reverse hi] at ha
      refine aF.2 _ a b ha ?_
      have hl' : fs.length = t.post.length := by rw [aF.1, List.length_reverse]
      rw [List.getElem?_reverse (by omega), ← hb]
      congr 1
      omega
theorem nodup_sub : ∀ {l ks : List Str}, l.Nodup → (∀ x ∈ l, x ∈ ks) → l.length ≤ ks.length
  | [], _, _, _ => Nat.zero_le _
  | x :: l, ks, d, m => by
    obtain ⟨d1, d2⟩ := List.nodup_cons.mp d
    have hx := m x List.mem_cons_self
    have h := nodup_sub d2 (fun y hy => (List.mem_erase_of_ne fun e : y = x => d1 (e ▸ hy)).mpr (m y (List.mem_cons_of_mem _ hy)))
    rw [List.length_erase_of_mem hx] at h
    have := List.length_pos_of_mem hx
    rw [List.length_cons]; omega
def spNames : Sp := fun vs H Q _ => ∃ (v : V) (t : Tr) (ns : List Str), vs = [v] ∧ TreeAt K H v t ∧ t.post.length ≤ 10000 ∧ (∀ x, Tr.name x ∈ t.post → x ∈ ns) ∧ ns.length < 60 ∧ ∀ (p : Addr) (ys : List Str) (H' : Hp), Ex H H' → H p = none → H' p = some (.lst (ys.map V.str)) → (∀ x, x ∈ ys ↔ Tr.name x ∈ t.post) → Q (.ref p) H'
theorem sc_names_in : FnScope ["tree", "part"] ["tree"] (defScope s_names_in) := ⟨rfl, rfl, rfl, by decide +kernel, rfl, by decide +kernel, by decide +kernel⟩
theorem ok_names_in (D : Dfd K mg "names_in" s_names_in ["tree"]) (T : TxtE mg) (C1 : Has P w K mg base 2 "postorder" ["tree"] (spPost (K := K))) : Has P w K mg base 3 "names_in" ["tree"] (spNames (K := K)) := by
  obtain ⟨f_postorder, d_postorder, G_postorder, g_postorder, k_postorder, b_postorder⟩ := C1
  refine D.has fun f fd F => F.ok sc_names_in (fun vs H Q E h => ?_) (fun cdv A outer s H vs Q E hr h => ?_)
  · obtain ⟨v, t, ns, rfl, _⟩ := h
    rfl
  · obtain ⟨v, t, ns, rfl, ht, hn, hns, hnl, q⟩ := h
    refine ⟨_, (pss_one (ps_ret (pe_callB (XS.cr_sortX rfl) (by rfl) T.sorted (by decide +kernel) (pa_cons (XS.pe_sc (own := [("part", 1)]) (g := gName 1) (tt := _) rfl sc_names_in.nd (pi_list (pe_call G_postorder (hr.mono (by omega)) (by rfl) g_postorder k_postorder b_postorder .nil pass0 (pa_cons (pv 0) pa_nil))) (blkOk_by (N := ["tree", "part"]) (sc := defScope s_names_in) (own := [("part", 1)]) (by decide +kernel)) (fun _ _ _ _ _ => (pg_name (i := 1) sc_names_in.nd rfl (.inl rfl))) (fun _ _ _ _ _ => pts_one (pt_cmpR op_eq (pe_ix (kIxT (K := K) rfl) (pv 1) pe_int (fun _ _ => rfl)) pe_str (nomark _))) (fun _ _ _ _ _ => (pe_ix (kIxT (K := K) rfl) (pv 1) pe_int (fun _ _ => rfl)))) pa_nil)))), ?_⟩
    refine ⟨_, rfl, v, t, H, rfl, .refl _, ht, hn, fun L zs H1 E1 nL hL aZ => ⟨_, rfl, ⟨_, SqL.of hL⟩, fun S nS => wk_list (K := K) (a := L) (xs := zs)
      (fun j H' => Ex H1 H' ∧ ∃ l : List Str, H' S = some (XS.TxO P w S l) ∧ l.Nodup ∧ ∀ x, x ∈ l ↔ Tr.name x ∈ t.post.take j) ⟨Ex.new nS, [], upd_same, List.nodup_nil, fun x => by simp⟩ (fun j H' _ g => SqL.of (g.1 _ _ hL)) ?_ ?_⟩⟩
    · rintro j z H2 hz ⟨E2, l, hS, nd, hm⟩
      have hj : j < t.post.length := by rw [← aZ.1]; exact (List.getElem?_eq_some_iff.mp hz).1
      obtain ⟨τ, hτ⟩ : ∃ τ, t.post[j]? = some τ := ⟨_, List.getElem?_eq_getElem hj⟩
      obtain ⟨a, zz, rfl, hs0, hzz⟩ := (aZ.2 j z τ hz hτ).seq
      have hs := ex_t (E1.trans E2) hs0
      have et : t.post.take (j + 1) = t.post.take j ++ [τ] := take_snoc1 hτ
      have skip : (∀ x, τ ≠ .name x) → Ex H1 H2 ∧ ∃ l : List Str, H2 S = some (XS.TxO P w S l) ∧ l.Nodup ∧ ∀ x, x ∈ l ↔ Tr.name x ∈ t.post.take (j + 1) := fun hno => ⟨E2, l, hS, nd, fun x => by
        rw [et, List.mem_append, ← hm x]
        exact ⟨.inl, fun z => z.elim id fun z => absurd (List.mem_singleton.mp z).symm (hno x)⟩⟩
      refine ⟨rfl, _, rfl, _, _, _, _, rfl, rfl, hs, atI_nat (j := 0) rfl, rfl, _, rfl, ?_⟩
      cases τ with
      | name x =>
        obtain rfl : zz = [.str x] := hzz
        refine ite2 (fun _ => ?_) (fun e => absurd (decide_eq_true (rfl : V.str "name" = V.str "name")) e)
        refine ⟨_, rfl, _, _, _, _, rfl, rfl, hs, atI_nat (j := 1) rfl, x, l, rfl, hS, ?_, fun l' hl' => ⟨E2.mut nS, l', upd_same, ?_, ?_⟩⟩
        · have := nodup_sub nd (fun y hy => hns y (List.mem_of_mem_take ((hm y).mp hy)))
          omega
        · rcases hl' with ⟨h1, rfl⟩ | ⟨h1, rfl⟩
          · exact nd
          · exact List.nodup_cons.mpr ⟨h1, nd⟩
        · intro y
          rw [et, List.mem_append, ← hm y]
          rcases hl' with ⟨h1, rfl⟩ | ⟨h1, rfl⟩
          · exact ⟨.inl, fun z => z.elim id fun z => by simp at z; rw [z]; exact h1⟩
          · simp [or_comm]
      | const b => exact ite2 (fun e => absurd (V.str.inj (of_decide_eq_true e)) tagNe.1) (fun _ => skip fun x => nofun)
      | neg u => exact ite2 (fun e => absurd (V.str.inj (of_decide_eq_true e)) tagNe.2.1) (fun _ => skip fun x => nofun)
      | bin o u r => exact ite2 (fun e => absurd (V.str.inj (of_decide_eq_true e)) o.ne.1) (fun _ => skip fun x => nofun)
    · rintro H2 ⟨E2, l, hS, nd, hm⟩
      refine ⟨_, l, rfl, hS, fun ys p hp _ np => ?_⟩
      refine q p ys _ ((E1.trans E2).trans (Ex.new np)) (fresh_back (E1.trans E2) np) upd_same fun x => ?_
      rw [hp.mem_iff, hm x, aZ.1, List.take_length]
end
end G
namespace G
open PySem PySem.Spec PyProof.Rows L2 Evl
def Op.n : Op → Nat → Nat → Nat | .and => HAnd.hAnd | .xor => HXor.hXor | .or => HOr.hOr
theorem Op.col (o : Op) (n : Nat) (f g : Nat → Bool) : o.n (colN f n) (colN g n) = colN (fun r => o.f (f r) (g r)) n := by
  cases o
  · exact (colN_op n f g).1
  · exact (colN_op n f g).2.2
  · exact (colN_op n f g).2.1
theorem opNe : (Op.xor.s ≠ Op.and.s) ∧ (Op.or.s ≠ Op.and.s) ∧ (Op.or.s ≠ Op.xor.s) := by decide +kernel
theorem kPtTruth {X : Cx} {K : PySem.W.Frag} {c : Expr} {te : TE} (h : X.K = K) (he : PE X c te) (hs : ∀ whole, isTrue c X.env whole = (do let v ← whole; standAt c.pos; holding [v] (truthy v))) : PT X c (fun σ H Q => te σ H fun x H' => ∃ k, TruV K x H' k ∧ Q k H') := by
  subst h
  exact pt_truth he hs
theorem bitT {K : PySem.W.Frag} {H : Hp} (j k : Nat) : TruV K (V.int (Builtin.bitAnd (((j : Nat) : Int) / 2 ^ ((k : Nat) : Int).toNat) 1)) H (j.testBit k) := by
  show j.testBit k = (Builtin.bitAnd (((j : Nat) : Int) / 2 ^ ((k : Nat) : Int).toNat) 1 != 0)
  have e : ((j : Nat) : Int) / 2 ^ ((k : Nat) : Int).toNat = ((j >>> k : Nat) : Int) := by
    rw [Int.toNat_natCast, Nat.shiftRight_eq_div_pow, Int.natCast_ediv, Int.natCast_pow]; rfl
  rw [e, bitAnd_pp (Int.natCast_nonneg _) (by decide), Int.toNat_natCast]
  show j.testBit k = (((j >>> k &&& 1 : Nat) : Int) != 0)
  rw [Nat.testBit, Nat.and_comm]
  cases h : (j >>> k &&& 1) <;> rfl
section
variable {P : Program} {w : World} {K : PySem.W.Frag} {mg : Str → Option Value} {base : Heap}
def spComb : Sp := fun vs H Q _ => ∃ (o : Op) (a b : Nat), vs = [.str o.s, .int (a : Nat), .int (b : Nat)] ∧ Q (.int (o.n a b : Nat)) H
theorem sc_combined : FnScope ["kind", "left", "right"] ["kind", "left", "right"] (defScope s_combined) := ⟨rfl, rfl, rfl, by decide +kernel, rfl, by decide +kernel, by decide +kernel⟩
theorem ok_combined (D : Dfd K mg "_combined" s_combined ["kind", "left", "right"]) : Has P w K mg base 1 "_combined" ["kind", "left", "right"] spComb := by
  refine D.has fun f fd F => F.ok sc_combined (fun vs H Q E h => ?_) (fun cdv A outer s H vs Q E hr h => ?_)
  · obtain ⟨o, a, b, rfl, _⟩ := h
    rfl
  · obtain ⟨o, a, b, rfl, q⟩ := h
    refine ⟨_, (pss_cons (ps_if (pt_cmpR op_eq (pv 0) pe_str (nomark _))
      (pss_one (ps_ret (pe_op op_and (pv 1) (pv 2))))
      pss_nil)
    (pss_cons (ps_if (pt_cmpR op_eq (pv 0) pe_str (nomark _))
      (pss_one (ps_ret (pe_op op_xor (pv 1) (pv 2))))
      pss_nil)
    (pss_one (ps_ret (pe_op op_or (pv 1) (pv 2)))))), ?_⟩
    refine ⟨_, rfl, rfl, _, rfl, ite2 (fun c1 => ?_) (fun c1 => ?_)⟩
    · refine ⟨_, rfl, _, rfl, _, _, rfl, rfl, ?_⟩
      have e : o = .and := by
        cases o
        · rfl
        · exact absurd (V.str.inj (of_decide_eq_true c1)) opNe.1
        · exact absurd (V.str.inj (of_decide_eq_true c1)) opNe.2.1
      subst e
      show Q (.int (Builtin.bitAnd (a : Int) (b : Int))) H
      rw [bitAnd_pp (Int.natCast_nonneg _) (Int.natCast_nonneg _), Int.toNat_natCast, Int.toNat_natCast]
      exact q
    refine ⟨_, rfl, rfl, _, rfl, ite2 (fun c2 => ?_) (fun c2 => ?_)⟩
    · refine ⟨_, rfl, _, rfl, _, _, rfl, rfl, ?_⟩
      have e : o = .xor := by
        cases o
        · exact absurd (decide_eq_true rfl) c1
        · rfl
        · exact absurd (V.str.inj (of_decide_eq_true c2)) opNe.2.2
      subst e
      show Q (.int (Builtin.bitXor (a : Int) (b : Int))) H
      rw [Bits.bitXor_pp (Int.natCast_nonneg _) (Int.natCast_nonneg _), Int.toNat_natCast, Int.toNat_natCast]
      exact q
    · refine ⟨_, rfl, _, rfl, _, _, rfl, rfl, ?_⟩
      have e : o = .or := by
        cases o
        · exact absurd (decide_eq_true rfl) c1
        · exact absurd (decide_eq_true rfl) c2
        · rfl
      subst e
      show Q (.int (Builtin.bitOr (a : Int) (b : Int))) H
      rw [Bits.bitOr_pp (Int.natCast_nonneg _) (Int.natCast_nonneg _), Int.toNat_natCast, Int.toNat_natCast]
      exact q
def spCol : Sp := fun vs H Q _ => ∃ (k n : Nat), vs = [.int (k : Nat), .int (n : Nat)] ∧ n ≤ 64 ∧ k ≤ 64 ∧ ∀ H', Ex H H' → Q (.int (colN (fun r => r.testBit k) n : Nat)) H'
theorem sc_column : FnScope ["k", "rows", "row"] ["k", "rows"] (defScope s_column) := ⟨rfl, rfl, rfl, by decide +kernel, rfl, by decide +kernel, by decide +kernel⟩
theorem ok_column (D : Dfd K mg "_column" s_column ["k", "rows"]) (T : TxtE mg) : Has P w K mg base 1 "_column" ["k", "rows"] spCol := by
  refine D.has fun f fd F => F.ok sc_column (fun vs H Q E h => ?_) (fun cdv A outer s H vs Q E hr h => ?_)
  · obtain ⟨k, n, rfl, _⟩ := h
    rfl
  · obtain ⟨k, n, rfl, hn, hk, q⟩ := h
    refine ⟨_, (pss_one (ps_ret (pe_callB (cr_sum rfl) (by rfl) T.sum (by decide +kernel) (pa_cons (pe_lc (own := [("row", 2)]) (g := gName 2) (tt := _) rfl sc_column.nd (pi_range1 rfl T.range (pa_cons (pv 1) pa_nil)) (blkOk_by (N := ["k", "rows", "row"]) (sc := defScope s_column) (own := [("row", 2)]) (by decide +kernel)) (fun _ _ _ _ _ => (pg_name (i := 2) sc_column.nd rfl (.inl rfl))) (fun _ _ _ _ _ => pts_one (kPtTruth (K := K) rfl (pe_op op_and (pe_op op_shr (pv 2) (pv 0)) pe_int) (by intro _; rfl))) (fun _ _ _ _ _ => (pe_op op_shl pe_int (pv 2)))) pa_nil)))), ?_⟩
    refine ⟨_, rfl, _, rfl, by omega, by omega, fun L nL => wk_it walk_range (fun j H' => Ex H H' ∧ ∃ ns : List Int, H' L = some (.lst (ns.map V.int)) ∧ ns.length ≤ j ∧ ns.sum = ((colN (fun r => r.testBit k) j : Nat) : Int)) ⟨Ex.new nL, [], upd_same, Nat.le_refl _, rfl⟩ (fun _ _ _ _ => trivial) ?_ ?_⟩
    · rintro j x H1 H2 hj ⟨E1, ns, hL, hnl, hs⟩ ⟨rfl, ez⟩
      rw [Int.toNat_natCast] at hj
      have ez := ez.trans (show V.int (0 + (j : Int)) = .int (j : Nat) by rw [Int.zero_add])
      subst ez
      refine ⟨rfl, _, rfl, _, rfl, _, _, rfl, rfl, Int.natCast_nonneg _, _, _, rfl, rfl, _, bitT j k, ?_⟩
      have eS : colN (fun r => r.testBit k) (j + 1) = colN (fun r => r.testBit k) j + if j.testBit k then 2 ^ j else 0 := rfl
      refine ite2 (fun c1 => ?_) (fun c1 => ?_)
      · refine ⟨_, rfl, _, _, rfl, rfl, ⟨by omega, by omega, by decide⟩, _, hL, sz_lt (by rw [List.length_map]; omega), E1.mut nL, ns ++ [((2 ^ j : Nat) : Int)], ?_, by rw [List.length_append]; show _ + 1 ≤ _; omega, ?_⟩
        · rw [upd_same, List.map_append]
          have : (1 : Int) * 2 ^ ((j : Nat) : Int).toNat = ((2 ^ j : Nat) : Int) := by
            rw [Int.toNat_natCast, Int.one_mul]
            exact (Int.natCast_pow 2 j).symm
          show some (HO.lst (ns.map V.int ++ [V.int ((1 : Int) * 2 ^ ((j : Nat) : Int).toNat)])) = _
          rw [this]; rfl
        · rw [List.sum_append, hs, eS, c1, List.sum_singleton]
          show ((colN _ j : Nat) : Int) + _ = ((colN _ j + 2 ^ j : Nat) : Int)
          rw [Int.natCast_add]
      · refine ⟨E1, ns, hL, by omega, ?_⟩
        rw [hs, eS, if_neg c1]; rfl
    · rintro H1 ⟨E1, ns, hL, hnl, hs⟩
      rw [Int.toNat_natCast] at hs
      refine ⟨L, ns, rfl, SqL.of hL, ?_⟩
      rw [hs]
      exact q H1 E1
def spMask : Sp := fun vs H Q _ => ∃ (v : V) (t : Tr) (a : Addr) (ns : List Str) (n : Nat), vs = [v, .ref a, .int (n : Nat)] ∧ TreeAt K H v t ∧ SqT K H a (ns.map V.str) ∧ ns.Nodup ∧ ns.length ≤ 6 ∧ n ≤ 64 ∧ t.post.length ≤ 10000 ∧ (∀ x, Tr.name x ∈ t.post → x ∈ ns) ∧ ∀ H', Ex H H' → Q (.int (maskN ns n t : Nat)) H'
theorem sc_mask : FnScope ["tree", "names", "rows", "columns", "whole", "masks", "part", "kind", "right", "k", "name"] ["tree", "names", "rows"] (defScope s_mask) := ⟨rfl, rfl, rfl, by decide +kernel, rfl, by decide +kernel, by decide +kernel⟩
theorem ok_mask (D : Dfd K mg "_mask" s_mask ["tree", "names", "rows"]) (T : TxtE mg) (C1 : Has P w K mg base 1 "_column" ["k", "rows"] spCol) (C2 : Has P w K mg base 1 "_combined" ["kind", "left", "right"] spComb) (C3 : Has P w K mg base 2 "postorder" ["tree"] (spPost (K := K))) : Has P w K mg base 3 "_mask" ["tree", "names", "rows"] (spMask (K := K)) := by
  obtain ⟨f_column, d_column, G_column, g_column, k_column, b_column⟩ := C1
  obtain ⟨f_combined, d_combined, G_combined, g_combined, k_combined, b_combined⟩ := C2
  obtain ⟨f_postorder, d_postorder, G_postorder, g_postorder, k_postorder, b_postorder⟩ := C3
  refine D.has fun f fd F => F.ok sc_mask (fun vs H Q E h => ?_) (fun cdv A outer s H vs Q E hr h => ?_)
  · obtain ⟨v, t, a, ns, n, rfl, _⟩ := h
    rfl
  · obtain ⟨v, t, a, ns, n, rfl, ht, ha, nd, hnl, hn, htl, hns, q⟩ := h
    refine ⟨_, (pss_cons (ps_setDc (i := 3) (own := [("k", 9), ("name", 10)]) (g := gTup K 2 (gCons (gName 9) (gCons (gName 10) gNil))) (tt := tYes) rfl sc_mask.nd rfl rfl (sw_trueD rfl rfl rfl (by decide +kernel)) (pi_enumT (by rfl) T.enumerate (pa_cons (pv 1) pa_nil)) (blkOk_by (N := ["tree", "names", "rows", "columns", "whole", "masks", "part", "kind", "right", "k", "name"]) (sc := defScope s_mask) (own := [("k", 9), ("name", 10)]) (by decide +kernel)) (fun _ _ _ _ _ => (pg_tup rfl (pgs_cons (pg_name (i := 9) sc_mask.nd rfl (.inl rfl)) (pgs_cons (pg_name (i := 10) sc_mask.nd rfl (.inl rfl)) pgs_nil)))) (fun _ _ _ _ _ => pts_nil) (fun _ _ _ _ _ => (pv 10)) (fun _ _ _ _ _ => (pe_call G_column (hr.mono (by omega)) (by rfl) g_column k_column b_column .nil pass0 (pa_cons (pv 9) (pa_cons (pv 2) pa_nil)))))
    (pss_cons (ps_set (i := 4) sc_mask.nd rfl (.inl rfl) (pe_op op_sub (pe_op op_shl pe_int (pv 2)) pe_int))
    (pss_cons (ps_set (i := 5) sc_mask.nd rfl (.inl rfl) (pe_lst pa_nil))
    (pss_cons (ps_for PassesOwn.never rfl (pi_list (pe_call G_postorder (hr.mono (by omega)) (by rfl) g_postorder k_postorder b_postorder .nil pass0 (pa_cons (pv 0) pa_nil))) (pg_name (i := 6) sc_mask.nd rfl (.inl rfl))
      (pss_cons (ps_set (i := 7) sc_mask.nd rfl (.inl rfl) (pe_ix ix_tup (pv 6) pe_int (fun _ _ => rfl)))
      (pss_one (ps_if (pt_cmpR op_eq (pv 7) pe_str (nomark _))
        (pss_one (ps_expr (pe_bm PySem.F.plainAttrs_list PySem.F.slot_list_append PySem.F.type_list_append mt_append (pv 5) (pa_cons (pe_dget (hu_of hr) (pv 3) (pe_ix ix_tup (pv 6) pe_int (fun _ _ => rfl)) (fun _ _ => rfl)) pa_nil))))
        (pss_one (ps_if (pt_cmpR op_eq (pv 7) pe_str (nomark _))
          (pss_one (ps_expr (pe_bm PySem.F.plainAttrs_list PySem.F.slot_list_append PySem.F.type_list_append mt_append (pv 5) (pa_cons (pe_ifExp (pt_truth (pe_ix ix_tup (pv 6) pe_int (fun _ _ => rfl)) (by intro _; rfl)) (pv 4) pe_int) pa_nil))))
          (pss_one (ps_if (pt_cmpR op_eq (pv 7) pe_str (nomark _))
            (pss_one (ps_expr (pe_bm PySem.F.plainAttrs_list PySem.F.slot_list_append PySem.F.type_list_append mt_append (pv 5) (pa_cons (pe_op op_xor (pv 4) (pe_bm0 PySem.F.plainAttrs_list PySem.F.slot_list_pop PySem.F.type_list_pop mt_pop (pv 5))) pa_nil))))
            (pss_cons (ps_set (i := 8) sc_mask.nd rfl (.inl rfl) (pe_bm0 PySem.F.plainAttrs_list PySem.F.slot_list_pop PySem.F.type_list_pop mt_pop (pv 5)))
            (pss_one (ps_expr (pe_bm PySem.F.plainAttrs_list PySem.F.slot_list_append PySem.F.type_list_append mt_append (pv 5) (pa_cons (pe_call G_combined (hr.mono (by omega)) (by rfl) g_combined k_combined b_combined .nil pass0 (pa_cons (pv 7) (pa_cons (pe_bm0 PySem.F.plainAttrs_list PySem.F.slot_list_pop PySem.F.type_list_pop mt_pop (pv 5)) (pa_cons (pv 8) pa_nil)))) pa_nil)))))))))))))
    (pss_one (ps_ret (pe_ix ix_list (pv 5) pe_int (fun _ _ => rfl)))))))), ?_⟩
    refine ⟨_, rfl, a, _, rfl, ha, fun Dc nDc => wk_it walk_enumT (fun j H' => Ex H H' ∧ ∃ es : List (Key × V), H' Dc = some (.dK es) ∧ es.length ≤ j ∧ ∀ x : Str, valV es (.inr x) = if x ∈ ns.take j then some (.int ((colN (fun r => r.testBit (ns.idxOf x)) n : Nat) : Int)) else none)
      ⟨Ex.new nDc, [], upd_same, Nat.le_refl _, fun x => by rw [List.take_zero]; rfl⟩ (fun j H' _ g => ex_t g.1 ha) ?_ ?_⟩
    · rintro j x H1 H2 hj ⟨E1, es, hD, hel, hk⟩ ⟨T1, x0, y0, rfl, nT, rfl, hx0, hy0⟩
      rw [List.length_map] at hj
      cases hx0
      obtain ⟨nm, hnm, rfl⟩ : ∃ nm, ns[j]? = some nm ∧ y0 = .str nm := by
        have hy1 : (ns.map V.str)[j]? = some y0 := hy0
        rw [List.getElem?_map, List.getElem?_eq_getElem hj] at hy1
        exact ⟨_, List.getElem?_eq_getElem hj, (Option.some.inj hy1).symm⟩
      have E2 : Ex H1 (upd H1 T1 (.tup [.int (j : Nat), .str nm])) := Ex.new nT
      refine ⟨T1, _, rfl, SqT.of upd_same, rfl, _, _, rfl, _, _, rfl, rfl, rfl, tYes_in ?_⟩
      simp only [wipe, _root_.L2.start, List.map_cons, List.map_nil, List.length_cons, List.length_nil, Nat.reduceAdd, Nat.reduceSub, List.replicate_succ, List.replicate_zero, List.cons_append, List.nil_append, List.set_cons_zero, List.set_cons_succ]
      have hD2 := E2 _ _ hD
      generalize upd H1 T1 (.tup [.int (j : Nat), .str nm]) = H2 at *
      refine ⟨_, rfl, _, rfl, _, rfl, j, n, rfl, hn, by omega, fun H3 E3 => ⟨es, .inr nm, rfl, E3 _ _ hD2, sz_lt (by omega), ((E1.trans E2).trans E3).mut nDc, _, upd_same, Nat.le_trans (length_putK _ _ _) (Nat.succ_le_succ hel), fun x => ?_⟩⟩
      rw [valV_put, hk x, take_snoc1 hnm]
      have ej : ns.idxOf nm = j := by
        have h1 := (List.getElem?_eq_some_iff.mp hnm).2
        rw [← h1]
        exact nd.idxOf_getElem j hj
      by_cases hx : x = nm
      · subst hx
        rw [if_pos (by simp), ej]
        simp
      · have h1 : (Sum.inr nm : Key) ≠ Sum.inr x := fun z => hx (Sum.inr.inj z).symm
        rw [if_neg fun z => hx (Sum.inr.inj z)]
        simp [hx]
    · rintro H1 ⟨E1, es, hD, hel, hk⟩
      rw [List.length_map, List.take_length] at hk
      have hw : ((1 : Int) * 2 ^ ((n : Nat) : Int).toNat - 1) = ((2 ^ n - 1 : Nat) : Int) := by
        rw [Int.toNat_natCast, Int.one_mul, Int.natCast_sub (Nat.pow_pos (by decide)), Int.natCast_pow]; rfl
      refine ⟨_, rfl, _, _, rfl, rfl, ⟨by omega, by omega, by decide⟩, _, _, rfl, rfl, (by show 0 ≤ sizeLine; decide), fun M nM => ⟨_, rfl, v, t, H, rfl, E1.trans (Ex.new nM), ht, htl, fun L zs H2 E2 nL hL aZ => ⟨_, rfl, ⟨_, SqL.of hL⟩, ?_⟩⟩⟩
      have E3 : Ex H H2 := (E1.trans (Ex.new nM)).trans E2
      have nM0 : H M = none := fresh_back E1 nM
      have hD2 : H2 Dc = some (.dK es) := E2 _ _ (Ex.new nM _ _ hD)
      have hM2 : H2 M = some (.lst []) := E2 _ _ upd_same
      have hMD : Dc ≠ M := ne_of_none hD nM
      have hML : M ≠ L := fun z => by rw [← z, upd_same] at nL; cases nL
      refine for_list (K := K) (a := L) (xs := zs)
        (fun j σ H' => Ex H H' ∧ ∃ (S : List Tr) (y6 y7 y8 : Option V), Good t S (t.post.drop j) ∧ H' Dc = some (.dK es) ∧ H' L = some (.lst zs) ∧ H' M = some (.lst ((S.map fun u => ((maskN ns n u : Nat) : Int)).map V.int)) ∧ S.length ≤ j ∧
          σ = [some v, some (.ref a), some (.int (n : Nat)), some (.ref Dc), some (.int ((2 ^ n - 1 : Nat) : Int)), some (.ref M), y6, y7, y8, none, none])
        ⟨E3, [], _, _, _, good_all t, hD2, hL, hM2, Nat.le_refl _, by rw [← hw]; rfl⟩ (fun j σ H' _ g => let ⟨_, _, _, _, _, _, _, h, _⟩ := g; SqL.of h) ?_ ?_
      · rintro j z σ H3 hz ⟨E4, S, y6, y7, y8, hG, hD3, hL3, hM3, hSl, rfl⟩
        have hj : j < t.post.length := by rw [← aZ.1]; exact (List.getElem?_eq_some_iff.mp hz).1
        obtain ⟨τ, hτ⟩ : ∃ τ, t.post[j]? = some τ := ⟨_, List.getElem?_eq_getElem hj⟩
        have hdr : t.post.drop j = τ :: t.post.drop (j + 1) := by
          rw [List.drop_eq_getElem_cons hj]
          rw [List.getElem?_eq_getElem hj] at hτ
          rw [Option.some.inj hτ]
        rw [hdr] at hG
        obtain ⟨S', rfl, hG'⟩ := hG
        obtain ⟨b, zz, rfl, hs0, hzz⟩ := (aZ.2 j z τ hz hτ).seq
        have hs := ex_t E4 hs0
        have hin : τ ∈ t.post := List.mem_of_getElem? hτ
        have nml : L ≠ M := hML.symm
        have fin : ∀ (y7 y8 : Option V) (H4 : Hp), Ex H H4 → H4 Dc = some (.dK es) → H4 L = some (.lst zs) → H4 M = some (.lst (((S' ++ [τ]).map fun u => ((maskN ns n u : Nat) : Int)).map V.int)) →
            (Ex H H4 ∧ ∃ (S : List Tr) (y6 y7' y8' : Option V), Good t S (t.post.drop (j + 1)) ∧ H4 Dc = some (.dK es) ∧ H4 L = some (.lst zs) ∧ H4 M = some (.lst ((S.map fun u => ((maskN ns n u : Nat) : Int)).map V.int)) ∧ S.length ≤ j + 1 ∧
          [some v, some (.ref a), some (.int (n : Nat)), some (.ref Dc), some (.int ((2 ^ n - 1 : Nat) : Int)), some (.ref M), some (.ref b), y7, y8, none, none] = [some v, some (.ref a), some (.int (n : Nat)), some (.ref Dc), some (.int ((2 ^ n - 1 : Nat) : Int)), some (.ref M), y6, y7', y8', none, none]) := fun y7 y8 H4 h1 h2 h3 h4 =>
          ⟨h1, S' ++ [τ], _, _, _, hG', h2, h3, h4, by rw [List.length_append] at hSl ⊢; show _ + 1 ≤ _; omega, rfl⟩
        let ml : List Tr → List V := fun S => (S.map fun u => ((maskN ns n u : Nat) : Int)).map V.int
        have ml_len : ∀ S, (ml S).length = S.length := fun S => by show ((S.map _).map _).length = _; rw [List.length_map, List.length_map]
        have ml_app : ∀ (S : List Tr) (u : Tr) (i : Int), i = ((maskN ns n u : Nat) : Int) → ml S ++ [V.int i] = ml (S ++ [u]) := fun S u i e => by
          subst e
          show _ = ((S ++ [u]).map _).map _
          rw [List.map_append, List.map_append]; rfl
        have last : ∀ (S : List Tr) (u : Tr), (ml (S ++ [u]))[(ml (S ++ [u])).length - 1]? = some (.int ((maskN ns n u : Nat) : Int)) ∧ (ml (S ++ [u])).dropLast = ml S := fun S u => by
          rw [← ml_app S u _ rfl]; simp
        have hsz : S'.length ≤ 10000 := by rw [List.length_append] at hSl; omega
        have hbit : ∀ b : Bool, (colN (fun _ => b) n : Nat) = if b then 2 ^ n - 1 else 0 := fun b => by
          cases b
          · exact colN_zero n
          · exact colN_one n
        refine ⟨_, rfl, _, _, _, _, rfl, rfl, hs, atI_nat (j := 0) rfl, _, rfl, rfl, _, rfl, ?_⟩
        cases τ with
        | name x =>
          obtain rfl : zz = [.str x] := hzz
          refine ite2 (fun _ => ?_) (fun e => absurd (decide_eq_true (rfl : V.str "name" = V.str "name")) e)
          have hM4 : H3 M = some (.lst (ml S')) := by rw [hM3]; show some (HO.lst (ml (S' ++ []))) = _; rw [List.append_nil]
          have hget : DGet H3 Dc (.str x) (some (.int ((maskN ns n (.name x) : Nat) : Int))) := by
            have := DGet.k (k := Sum.inr x) hD3
            rw [hk x, if_pos (hns x hin)] at this
            exact this
          refine ⟨_, rfl, .inl ⟨rfl, _, SqL.of hM4⟩, _, rfl, _, rfl, _, _, _, _, rfl, rfl, hs, atI_nat (j := 1) rfl, Dc, _, rfl, hget, M, _, _, rfl, rfl, hM4, sz_lt (by rw [ml_len]; omega), ?_⟩
          exact fin _ _ _ (E4.mut nM0) ((upd_ne hMD).trans hD3) ((upd_ne nml).trans hL3) (by rw [upd_same, ml_app S' (.name x) _ rfl])
        | const c =>
          obtain rfl : zz = [.bl c] := hzz
          refine ite2 (fun e => absurd (V.str.inj (of_decide_eq_true e)) tagNe.1) (fun _ => ?_)
          refine ⟨_, rfl, rfl, _, rfl, ite2 (fun _ => ?_) (fun e => absurd (decide_eq_true (rfl : V.str "const" = V.str "const")) e)⟩
          have hM4 : H3 M = some (.lst (ml S')) := by rw [hM3]; show some (HO.lst (ml (S' ++ []))) = _; rw [List.append_nil]
          refine ⟨_, rfl, .inl ⟨rfl, _, SqL.of hM4⟩, ?_⟩
          refine ⟨_, rfl, _, _, _, _, rfl, rfl, hs, atI_nat (j := 1) rfl, c, rfl, ite2 (fun c1 => ?_) (fun c1 => ?_)⟩
          · refine ⟨_, rfl, M, _, _, rfl, rfl, hM4, sz_lt (by rw [ml_len]; omega), ?_⟩
            exact fin _ _ _ (E4.mut nM0) ((upd_ne hMD).trans hD3) ((upd_ne nml).trans hL3) (by rw [upd_same, ml_app S' (.const c) _ (by show _ = ((colN (fun _ => c) n : Nat) : Int); rw [hbit, if_pos c1])])
          · refine ⟨M, _, _, rfl, rfl, hM4, sz_lt (by rw [ml_len]; omega), ?_⟩
            exact fin _ _ _ (E4.mut nM0) ((upd_ne hMD).trans hD3) ((upd_ne nml).trans hL3) (by rw [upd_same, ml_app S' (.const c) _ (by show _ = ((colN (fun _ => c) n : Nat) : Int); rw [hbit, if_neg c1]; rfl)])
        | neg u =>
          refine ite2 (fun e => absurd (V.str.inj (of_decide_eq_true e)) tagNe.2.1) (fun _ => ?_)
          refine ⟨_, rfl, rfl, _, rfl, ite2 (fun e => absurd (V.str.inj (of_decide_eq_true e)) tagNe.2.2) (fun _ => ?_)⟩
          refine ⟨_, rfl, rfl, _, rfl, ite2 (fun _ => ?_) (fun e => absurd (decide_eq_true (rfl : V.str "not" = V.str "not")) e)⟩
          have hM4 : H3 M = some (.lst (ml (S' ++ [u]))) := hM3
          refine ⟨_, rfl, .inl ⟨rfl, _, SqL.of hM4⟩, _, rfl, _, rfl, .inl ⟨rfl, _, SqL.of hM4⟩, M, _, _, rfl, rfl, hM4, (last S' u).1, ?_⟩
          have E5 : Ex H (upd H3 M (.lst (ml (S' ++ [u])).dropLast)) := E4.mut nM0
          have hD5 := (upd_ne hMD (o := .lst (ml (S' ++ [u])).dropLast)).trans hD3
          have hL5 := (upd_ne nml (o := .lst (ml (S' ++ [u])).dropLast)).trans hL3
          have hM5 : upd H3 M (.lst (ml (S' ++ [u])).dropLast) M = some (.lst (ml S')) := by rw [upd_same, (last S' u).2]
          generalize upd H3 M (.lst (ml (S' ++ [u])).dropLast) = H5 at *
          refine ⟨_, _, rfl, rfl, M, _, _, rfl, rfl, hM5, sz_lt (by rw [ml_len]; omega), ?_⟩
          refine fin _ _ _ (E5.mut nM0) ((upd_ne hMD).trans hD5) ((upd_ne nml).trans hL5) ?_
          rw [upd_same]
          have e : Builtin.bitXor ((2 ^ n - 1 : Nat) : Int) ((maskN ns n u : Nat) : Int) = ((maskN ns n (.neg u) : Nat) : Int) := by
            rw [Bits.bitXor_pp (Int.natCast_nonneg _) (Int.natCast_nonneg _), Int.toNat_natCast, Int.toNat_natCast, ← colN_one]
            unfold maskN
            rw [(colN_op n _ _).2.2]
            congr 1
            exact colN_congr n fun r _ => by show (true != u.ev (asg ns r)) = !(u.ev (asg ns r)); simp
          exact congrArg (fun z => some (HO.lst z)) (ml_app S' (.neg u) _ e)
        | bin o l r =>
          refine ite2 (fun e => absurd (V.str.inj (of_decide_eq_true e)) o.ne.1) (fun _ => ?_)
          refine ⟨_, rfl, rfl, _, rfl, ite2 (fun e => absurd (V.str.inj (of_decide_eq_true e)) o.ne.2.1) (fun _ => ?_)⟩
          refine ⟨_, rfl, rfl, _, rfl, ite2 (fun e => absurd (V.str.inj (of_decide_eq_true e)) o.ne.2.2) (fun _ => ?_)⟩
          have hM4 : H3 M = some (.lst (ml (S' ++ [l] ++ [r]))) := by rw [hM3, List.append_assoc]; rfl
          refine ⟨_, rfl, .inl ⟨rfl, _, SqL.of hM4⟩, M, _, _, rfl, rfl, hM4, (last (S' ++ [l]) r).1, ?_⟩
          have E5 : Ex H (upd H3 M (.lst (ml (S' ++ [l] ++ [r])).dropLast)) := E4.mut nM0
          have hD5 := (upd_ne hMD (o := .lst (ml (S' ++ [l] ++ [r])).dropLast)).trans hD3
          have hL5 := (upd_ne nml (o := .lst (ml (S' ++ [l] ++ [r])).dropLast)).trans hL3
          have hM5 : upd H3 M (.lst (ml (S' ++ [l] ++ [r])).dropLast) M = some (.lst (ml (S' ++ [l]))) := by rw [upd_same, (last (S' ++ [l]) r).2]
          generalize upd H3 M (.lst (ml (S' ++ [l] ++ [r])).dropLast) = H5 at *
          refine ⟨_, rfl, .inl ⟨rfl, _, SqL.of hM5⟩, _, rfl, _, rfl, .inl ⟨rfl, _, SqL.of hM5⟩, M, _, _, rfl, rfl, hM5, (last S' l).1, ?_⟩
          have E6 : Ex H (upd H5 M (.lst (ml (S' ++ [l])).dropLast)) := E5.mut nM0
          have hD6 := (upd_ne hMD (o := .lst (ml (S' ++ [l])).dropLast)).trans hD5
          have hL6 := (upd_ne nml (o := .lst (ml (S' ++ [l])).dropLast)).trans hL5
          have hM6 : upd H5 M (.lst (ml (S' ++ [l])).dropLast) M = some (.lst (ml S')) := by rw [upd_same, (last S' l).2]
          generalize upd H5 M (.lst (ml (S' ++ [l])).dropLast) = H6 at *
          refine ⟨_, rfl, o, maskN ns n l, maskN ns n r, rfl, M, _, _, rfl, rfl, hM6, sz_lt (by rw [ml_len]; omega), ?_⟩
          refine fin _ _ _ (E6.mut nM0) ((upd_ne hMD).trans hD6) ((upd_ne nml).trans hL6) ?_
          rw [upd_same]
          exact congrArg (fun z => some (HO.lst z)) (ml_app S' (.bin o l r) _ (by unfold maskN; rw [o.col]; rfl))
      · rintro σ H3 ⟨E4, S, y6, y7, y8, hG, hD3, hL3, hM3, hSl, rfl⟩
        rw [aZ.1, List.drop_length] at hG
        have hS : S = [t] := hG
        subst hS
        refine ⟨_, rfl, _, _, _, _, rfl, rfl, SqL.of hM3, atI_nat (j := 0) rfl, ?_⟩
        exact q H3 E4
end
end G
namespace G
open PySem PySem.Spec PyProof.Rows L2 Evl
/-! ## own classes of errors -/
def HasX (P : Program) (w : World) (K : PySem.W.Frag) (mg : Str → Option Value) (base : Heap) (k : Nat) (x : Str) (ps : List Str) (sp : Sp) : Prop :=
  ∃ (f : Addr) (fd : FuncData), FnOk P w K mg base (L2.CX P w) k f fd ps sp ∧ mg x = some (.ref f) ∧ PySem.W.keepIn K (.ref f) = true ∧ Binds K fd ps []
theorem passX0 {X : Cx} {P : Program} {w : World} : Passes (L2.CX P w) X (fun _ _ _ => False) := fun _ _ _ _ _ _ _ h => by
  obtain ⟨_, _, _, _, _, _, _, _, _, _, _, _, h⟩ := h
  exact h.elim
/-- an own class over ValueError without __init__, at C -/
structure ExcT (K : PySem.W.Frag) (mg : Str → Option Value) (x : Str) (C : Addr) : Prop where
  gC : mg x = some (.ref C)
  xP : PySem.W.excIn K C [.type "ValueError", .type "Exception", .type "BaseException", .type "object"] "ValueError.__new__" = true
  kC : PySem.W.keepIn K (.ref C) = true
  bC : PySem.W.subIn K (.ref C) (.type "BaseException") = some true
  tC : PySem.W.typeIn K (.ref C) = some (.type "type")
/-- what an except clause asks of the class that it names -/
structure ExcH (K : PySem.W.Frag) (mg : Str → Option Value) (x : Str) (C : Addr) : Prop where
  u : ExcT K mg x C
  dict : PySem.W.hasDictIn K C = true
  self : PySem.W.subIn K (.ref C) (.ref C) = some true
theorem ExcH.hit {K : PySem.W.Frag} {mg : Str → Option Value} {x : Str} {C : Addr} (U : ExcH K mg x C) : PySem.W.exmOne K (.ref C) (.ref C) = some true := PySem.W.exm_ref U.u.bC U.dict U.u.tC U.self
end G
namespace G
open PySem PySem.Spec PyProof.Rows L2 Evl
/-! ## methods of built-in types within a suite: the written part by its letter -/
theorem kBm {X : Cx} {K : PySem.W.Frag} {T name id : String} {r : V → List V → Hp → VK → Prop} {o e : Expr} {es : List Expr} {to_ : TE} {t : TA} {apos cpos : Pos} (h : X.K = K) (p1 : PlainAttrs T) (p2 : Slot T name id) (p3 : typeOf (.builtin id) = pure (.type "method_descriptor")) (p4 : MtR X id r) (p5 : PE X o to_) (p6 : PA X (e :: es) t)
    (p7 : attributeBase o name X.env (eval o X.env) = eval o X.env := by rfl) (p8 : ((backTo cpos (starEach (e :: es) X.env)).all (fun x => !x.1) && (backToKw cpos (keywordEach [] X.env)).all (fun x => x.1.isSome) && decide ((e :: es).length + ([] : List Keyword).length + (if ([] : List Keyword).isEmpty then 0 else 1) < 30)) = true := by rfl)
    (p9 : (apos.endLine == cpos.line) = true := by rfl) (p10 : starEach (e :: es) X.env = (false, eval e X.env) :: starEach es X.env := by rfl) (p11 : (backTo cpos (starEach es X.env)).any (·.1) = false := by rfl) : PE X (.Call (.Attribute o name apos) (e :: es) [] cpos) (tBM K T r to_ t) := by
  subst h
  exact pe_bm p1 p2 p3 p4 p5 p6 p7 p8 p9 p10 p11
theorem kMtIndex {X : Cx} {K : PySem.W.Frag} (h : X.K = K) : MtR X "list.index" (rIndex K) := by subst h; exact mt_index
end G
namespace G
open PySem PySem.Spec PyProof.Rows L2 Evl
/-! ## own errors: caught by name or by a class above, asked for their class -/
structure ExcI (K : PySem.W.Frag) (mg : Str → Option Value) (x : Str) (C : Addr) : Prop where
  u : ExcT K mg x C
  dict : PySem.W.hasDictIn K C = true
  self : PySem.W.subIn K (.ref C) (.ref C) = some true
  isc : ExcC K C
def IsK (K : PySem.W.Frag) (mg : Str → Option Value) (C : Addr) (d : Str) (b : Bool) : Prop := ∃ D : Addr, mg d = some (.ref D) ∧ PySem.W.kitOne K (.ref C) (.ref D) = some b
def CatchK (K : PySem.W.Frag) (mg : Str → Option Value) (C : Addr) (s : Str) : Prop := ∃ D : Addr, mg s = some (.ref D) ∧ PySem.W.exmOne K (.ref C) (.ref D) = some true
theorem ExcI.hit {K : PySem.W.Frag} {mg : Str → Option Value} {x : Str} {C : Addr} (U : ExcI K mg x C) : PySem.W.exmOne K (.ref C) (.ref C) = some true := PySem.W.exm_ref U.u.bC U.dict U.u.tC U.self
theorem IsK.at_ {K : PySem.W.Frag} {mg : Str → Option Value} {C D : Addr} {d : Str} {b : Bool} (h : IsK K mg C d b) (g : mg d = some (.ref D)) : PySem.W.kitOne K (.ref C) (.ref D) = some b := by
  obtain ⟨D', g', k⟩ := h
  rw [g] at g'
  cases g'; exact k
theorem CatchK.at_ {K : PySem.W.Frag} {mg : Str → Option Value} {C D : Addr} {s : Str} (h : CatchK K mg C s) (g : mg s = some (.ref D)) : PySem.W.exmOne K (.ref C) (.ref D) = some true := by
  obtain ⟨D', g', k⟩ := h
  rw [g] at g'
  cases g'; exact k
theorem pe_ex {X : Cx} {e : Expr} {α : Type} {p : α → Prop} {t : α → TE} (h : ∀ x, p x → PE X e (t x)) : PE X e (fun σ H Q => ∃ x, p x ∧ t x σ H Q) := by
  refine ⟨fun ps s σ H Q I z => ?_⟩
  obtain ⟨x, px, hx⟩ := z
  exact (h x px).run ps s σ H Q I hx
/-- isinstance of the error that the suite holds: whichever own error it is -/
theorem pe_isE {X : Cx} {a : Addr} {oe : Obj} {pn : List (Addr × Obj)} {cls : Value} {dd : Option Addr} {e : Expr} {t : Addr → TE} (hz : Zc cls dd oe) (hf : ∃ vs, oe.data = .fields vs)
    (h : ∀ D : Addr, Zc (.ref D) none oe → ExcC X.K D → PE (X.suite a ((a, oe) :: pn)) e (t D)) : PE (X.suite a ((a, oe) :: pn)) e (fun σ H Q => ∃ D : Addr, (cls = .ref D ∧ dd = none ∧ ExcC X.K D) ∧ t D σ H Q) :=
  pe_ex (p := fun D => cls = .ref D ∧ dd = none ∧ ExcC X.K D) fun D z => by
    obtain ⟨rfl, rfl, ic⟩ := z
    exact h D hz ic
/-! ## methods and classes called where what is raised is taken at the slots -/
section
variable {X : Cx} {CX : CXT} {k : Nat} {f C : Addr} {fd : FuncData} {ps : List Str} {sp : Sp} {dvs : List V} {ds : List Value} {E : L2.St → XK} {x m : Str} {p pos apos : Pos} {e o : Expr} {es : List Expr} {to_ : TE} {t : TA}
def tMethX (C : Addr) (m : Str) (sp : Sp) (dvs : List V) (E : L2.St → XK) (to_ : TE) (t : TA) : TE := fun σ H Q => to_ σ H fun x H1 => ∃ a dx fs, x = .ref a ∧ H1 a = some (.ins C dx fs) ∧ fs.lookup m = none ∧ t σ H1 fun vs H2 => sp (x :: (vs ++ dvs)) H2 Q (E σ)
def tMakeX (C : Addr) (sp : Sp) (dvs : List V) (E : L2.St → XK) (t : TA) : TE := fun σ H Q => t σ H fun vs H1 => ∀ x dx, H1 x = none → H1 dx = none → dx ≠ x → sp (.ref x :: (vs ++ dvs)) (upd (upd H1 dx (.own x)) x (.ins C dx [])) (fun v H2 => v = .non ∧ Q (.ref x) H2) (E σ)
theorem pe_methX {pl : Sem Bool} (ho : PE X o to_) (cc : Cls X.K C) (mm : Meth X.K C m f) (Fk : FnOk X.prog X.w X.K X.mg X.base CX k f fd ps sp) (rm : Room k X.A) (bd : Binds X.K fd ps ds) (dv : Vals dvs ds)
    (px : ∀ σ, PassesAt CX X σ (E σ)) (pa : PA X (e :: es) t) (s1 : starEach (e :: es) X.env = (false, eval e X.env) :: starEach es X.env := by rfl) (s2 : (backTo pos (starEach es X.env)).any (·.1) = false := by rfl)
    (s3 : eval (.Call (.Attribute o m apos) (e :: es) [] pos) X.env = (do let ov ← eval o X.env; standAt apos.atName; let (f, first) ← holding [ov] (getMethod ov m pl); callWith pos f first (backTo pos (starEach (e :: es) X.env)) (backToKw pos (keywordEach [] X.env))) := by rfl) :
    PE X (.Call (.Attribute o m apos) (e :: es) [] pos) (tMethX C m sp dvs E to_ t) := by
  refine ⟨fun pins st σ H Q I z => PySem.W.methodCall_KW (pl := pl) (thn (ho.run pins st σ H _ I z) fun q0 st1 ⟨y, H1, I1, ry, b, dx, fl, ey, eb, lk, z1⟩ => ?_) s3⟩
  subst ey
  cases (show q0 = Value.ref b from ry)
  exact getmeth_ok I1 eb cc mm lk (PySem.W.callWith_K (first := [.ref b]) (h₀ := X.base) I.ok.mod.kin mm.kp (thn (pa.run pos pins st1 σ H1 _ I1 z1) fun ws st2 ⟨vs, H2, I2, rs, z2⟩ => ⟨I2.kIn, run_fnSD (us := .ref b :: ws) (vs := .ref b :: vs) Fk rm bd dv (px σ) I2 (.cons rfl rs) z2⟩) s1 s2)
theorem run_makeX {pins : List (Addr × Obj)} {σ : L2.St} {H : Hp} {st : Shared} {Q : VK} {us : List Value} {vs : List V} (M : Mk X.K C f) (Fk : FnOk X.prog X.w X.K X.mg X.base CX k f fd ps sp) (rm : Room (k + 1) X.A) (bd : Binds X.K fd ps ds) (dv : Vals dvs ds)
    (px : PassesAt CX X σ (E σ)) (I : Inv X pins σ H st) (rs : Vals vs us)
    (z : ∀ x dx, H x = none → H dx = none → dx ≠ x → sp (.ref x :: (vs ++ dvs)) (upd (upd H dx (.own x)) x (.ins C dx [])) (fun v H2 => v = .non ∧ Q (.ref x) H2) (E σ)) :
    wpAny (model X.prog X.w) X.A (call (.ref C) us) (EP X pins σ Q) X.xe st := by
  have z1 := z (st.heap.objs.size + 1) st.heap.objs.size (I.hok.fresh (Nat.le_succ _)) (I.hok.fresh (Nat.le_refl _)) (Nat.ne_of_lt (Nat.lt_succ_self _))
  have J := Inv.made (C := C) I
  have rr : Vals (V.ref (st.heap.objs.size + 1) :: (vs ++ dvs)) (Value.ref (st.heap.objs.size + 1) :: (us ++ ds)) := .cons rfl (rs.append dv)
  have len : (Value.ref (st.heap.objs.size + 1) :: us ++ ds).length = ps.length := (rr.length.symm.trans (Fk.len _ _ _ _ z1))
  refine wpAny_call (make_map (f := f) I.kIn M.makes M.init (beq_iff_eq.mp M.fn) (codeAny_mono (Fk.run _ X.stack _ _ ⟨Value.ref (st.heap.objs.size + 1) :: us, []⟩ (Value.ref (st.heap.objs.size + 1) :: (us ++ ds)) _ _ (E σ) (rm.make C us []) (J.env0.make C us []) (bd _ (Value.ref (st.heap.objs.size + 1) :: us) J.kIn len) rr z1) fun r st' h => ?_))
  match r, h with
  | .error er, h => exact px pins _ _ er st' J h
  | .ok (.ret u), h =>
    obtain ⟨v, H', I3, rv, ev, q3⟩ := J.after h
    subst ev
    exact ⟨rv, ⟨V.ref (st.heap.objs.size + 1), H', I3, rfl, q3⟩⟩
  | .ok .next, h => exact h.elim
  | .ok .brk, h => exact h.elim
  | .ok .cont, h => exact h.elim
theorem pe_makeX (M : Mk X.K C f) (Fk : FnOk X.prog X.w X.K X.mg X.base CX k f fd ps sp) (rm : Room (k + 1) X.A) (gl : Gl X x) (gm : X.mg x = some (.ref C)) (bd : Binds X.K fd ps ds) (dv : Vals dvs ds) (px : ∀ σ, PassesAt CX X σ (E σ)) (pa : PA X (e :: es) t)
    (s0 : (x == ("__debug__" : Str)) = false := by decide) (s1 : starEach (e :: es) X.env = (false, eval e X.env) :: starEach es X.env := by rfl) (s2 : (backTo pos (starEach es X.env)).any (·.1) = false := by rfl) : PE X (.Call (.Name x p) (e :: es) [] pos) (tMakeX C sp dvs E t) :=
  ⟨fun pins st σ H Q I z => wpAny_Call_Name_kw (ld_glob I gl gm (PySem.W.callWith_K (h₀ := X.base) I.ok.mod.kin M.kp (thn (pa.run pos pins st σ H _ I z) fun us st1 ⟨vs, H1, I1, r, q⟩ => ⟨I1.kIn, run_makeX M Fk rm bd dv (px σ) I1 r q⟩) s1 s2) s0)⟩
end
end G
namespace G
open PySem PySem.Spec PyProof.Rows L2 Evl
def tabT (ns : List Str) (t : Tr) : List Bool := (List.range (2 ^ ns.length)).map fun r => t.ev (asg ns r)
def lookT (tab bs : List Bool) : Bool := tab.getD (colN (fun k => bs.getD k false) bs.length) false
theorem bitE (m j : Nat) : decide (V.int (Builtin.bitAnd (((m : Nat) : Int) / 2 ^ ((j : Nat) : Int).toNat) 1) = V.int 1) = m.testBit j := by
  have e : ((m : Nat) : Int) / 2 ^ ((j : Nat) : Int).toNat = ((m >>> j : Nat) : Int) := by
    rw [Int.toNat_natCast, Nat.shiftRight_eq_div_pow, Int.natCast_ediv, Int.natCast_pow]; rfl
  rw [e, bitAnd_pp (Int.natCast_nonneg _) (by decide), Int.toNat_natCast]
  show decide (V.int ((m >>> j &&& 1 : Nat) : Int) = V.int 1) = m.testBit j
  rw [Nat.testBit, Nat.and_comm]
  have h2 : 1 &&& m >>> j = m >>> j % 2 := by rw [Nat.and_comm, Nat.and_one_is_mod]
  rw [h2]
  rcases Nat.mod_two_eq_zero_or_one (m >>> j) with h | h <;> rw [h] <;> rfl
theorem fsA {b n : Str} (hb : b.length ≤ 100) (hn : n.length ≤ 1000) : (Str.empty ++ n).length ≤ sizeLine ∧ ((Str.empty ++ n) ++ b).length ≤ sizeLine := by
  have e : ∀ x y : Str, (x ++ y).length = x.length + y.length := fun x y => by rw [TL.len_tl, TL.tl_append, List.length_append, ← TL.len_tl, ← TL.len_tl]
  have e0 : Str.empty.length = 0 := rfl
  refine ⟨sz_of ?_, sz_of ?_⟩
  · rw [e, e0]; omega
  · rw [e, e, e0]; omega
theorem inV_sL {x : Str} {l : List Str} : inV (.str x) (l.map V.str) = decide (x ∈ l) := by
  unfold inV
  rw [List.any_map, Bool.eq_iff_iff, List.any_eq_true, decide_eq_true_iff]
  constructor
  · rintro ⟨y, hy, h⟩
    have : y = x := eq_of_beq h
    rw [← this]; exact hy
  · intro h
    exact ⟨x, h, (beq_self_eq_true x : (x == x) = true)⟩
section
variable {P : Program} {w : World} {K : PySem.W.Frag} {mg : Str → Option Value} {base : Heap}
def spLookT : Sp := fun vs H Q _ => ∃ (t b : Addr) (tab bs : List Bool), vs = [.ref t, .ref b] ∧ H t = some (.tup (tab.map V.bl)) ∧ H b = some (.tup (bs.map V.bl)) ∧ bs.length ≤ 10 ∧ tab.length = 2 ^ bs.length ∧ ∀ H', Ex H H' → Q (.bl (lookT tab bs)) H'
theorem sc_look_up : FnScope ["table", "bits", "k", "bit"] ["table", "bits"] (defScope s_look_up) := ⟨rfl, rfl, rfl, by decide +kernel, rfl, by decide +kernel, by decide +kernel⟩
theorem ok_look_upT (D : Dfd K mg "look_up" s_look_up ["table", "bits"]) (T : TxtE mg) : Has P w K mg base 1 "look_up" ["table", "bits"] spLookT := by
  refine D.has fun f fd F => F.ok sc_look_up (fun vs H Q E h => ?_) (fun cdv A outer s H vs Q E hr h => ?_)
  · obtain ⟨t, b, tab, bs, rfl, _⟩ := h
    rfl
  · obtain ⟨t, b, tab, bs, rfl, ht, hb, hl, htl, q⟩ := h
    refine ⟨_, (pss_one (ps_ret (pe_ix ix_tup (pv 0) (pe_callB (cr_sum rfl) (by rfl) T.sum (by decide +kernel) (pa_cons (pe_lc (own := [("k", 2), ("bit", 3)]) (g := gTup K 2 (gCons (gName 2) (gCons (gName 3) gNil))) (tt := _) rfl sc_look_up.nd (pi_enumT (by rfl) T.enumerate (pa_cons (pv 1) pa_nil)) (blkOk_by (N := ["table", "bits", "k", "bit"]) (sc := defScope s_look_up) (own := [("k", 2), ("bit", 3)]) (by decide +kernel)) (fun _ _ _ _ _ => (pg_tup rfl (pgs_cons (pg_name (i := 2) sc_look_up.nd rfl (.inl rfl)) (pgs_cons (pg_name (i := 3) sc_look_up.nd rfl (.inl rfl)) pgs_nil)))) (fun _ _ _ _ _ => pts_one (pt_val (pv 3))) (fun _ _ _ _ _ => (pe_op op_shl pe_int (pv 2)))) pa_nil)) (fun _ _ => rfl)))), ?_⟩
    refine ⟨_, rfl, _, rfl, b, _, rfl, SqT.of hb, fun L nL => wk_it walk_enumT (fun j H' => Ex H H' ∧ ∃ ns : List Int, H' L = some (.lst (ns.map V.int)) ∧ ns.length ≤ j ∧ ns.sum = ((colN (fun k => bs.getD k false) j : Nat) : Int)) ⟨Ex.new nL, [], upd_same, Nat.le_refl _, rfl⟩ (fun j H' _ g => SqT.of (g.1 _ _ hb)) ?_ ?_⟩
    · rintro j x H1 H2 hj ⟨E1, ns, hL, hnl, hs⟩ ⟨T1, x0, y0, rfl, nT, rfl, hx0, hy0⟩
      rw [List.length_map] at hj
      cases hx0
      obtain ⟨c, hc, rfl⟩ : ∃ c, bs[j]? = some c ∧ y0 = .bl c := by
        have hy1 : (bs.map V.bl)[j]? = some y0 := hy0
        rw [List.getElem?_map, List.getElem?_eq_getElem hj] at hy1
        exact ⟨_, List.getElem?_eq_getElem hj, (Option.some.inj hy1).symm⟩
      have E2 : Ex H1 (upd H1 T1 (.tup [.int (j : Nat), .bl c])) := Ex.new nT
      refine ⟨T1, _, rfl, SqT.of upd_same, rfl, _, _, rfl, _, _, rfl, rfl, rfl, ?_⟩
      simp only [wipe, _root_.L2.start, List.map_cons, List.map_nil, List.length_cons, List.length_nil, Nat.reduceAdd, Nat.reduceSub, List.replicate_succ, List.replicate_zero, List.cons_append, List.nil_append, List.set_cons_zero, List.set_cons_succ]
      have hL2 := E2 _ _ hL
      generalize upd H1 T1 (.tup [.int (j : Nat), .bl c]) = H2 at *
      have hgc : bs.getD j false = c := by rw [List.getD_eq_getElem?_getD, hc]; rfl
      have eS : colN (fun k => bs.getD k false) (j + 1) = colN (fun k => bs.getD k false) j + if bs.getD j false then 2 ^ j else 0 := rfl
      refine ⟨_, rfl, _, rfl, ite2 (fun c1 => ?_) (fun c1 => ?_)⟩
      · refine ⟨_, rfl, _, _, rfl, rfl, ⟨by omega, by omega, by decide⟩, _, hL2, sz_lt (by rw [List.length_map]; omega), (E1.trans E2).mut nL, ns ++ [((2 ^ j : Nat) : Int)], ?_, by rw [List.length_append]; show _ + 1 ≤ _; omega, ?_⟩
        · rw [upd_same, List.map_append]
          have : (1 : Int) * 2 ^ ((j : Nat) : Int).toNat = ((2 ^ j : Nat) : Int) := by
            rw [Int.toNat_natCast, Int.one_mul]
            exact (Int.natCast_pow 2 j).symm
          show some (HO.lst (ns.map V.int ++ [V.int ((1 : Int) * 2 ^ ((j : Nat) : Int).toNat)])) = _
          rw [this]; rfl
        · rw [List.sum_append, hs, eS, hgc, c1, List.sum_singleton]
          show ((colN _ j : Nat) : Int) + _ = ((colN _ j + 2 ^ j : Nat) : Int)
          rw [Int.natCast_add]
      · refine ⟨E1.trans E2, ns, hL2, by omega, ?_⟩
        rw [hs, eS, hgc, if_neg c1]; rfl
    rintro H1 ⟨E1, ns, hL, hnl, hs⟩
    rw [List.length_map] at hs
    have hlt := colN_lt (fun k => bs.getD k false) bs.length
    refine ⟨L, ns, rfl, SqL.of hL, _, _, _, _, rfl, rfl, SqT.of (E1 _ _ ht), at_of (j := colN (fun k => bs.getD k false) bs.length) hs (by rw [List.getElem?_map, List.getElem?_eq_getElem (by omega)]; rfl), ?_⟩
    have : tab[colN (fun k => bs.getD k false) bs.length]'(by omega) = lookT tab bs := by
      unfold lookT
      rw [List.getD_eq_getElem?_getD, List.getElem?_eq_getElem (by omega)]; rfl
    rw [this]
    exact q H1 E1
def spTable (B U : Addr) : Sp := fun vs H Q E => ∃ (v : V) (t : Tr) (a : Addr) (ns us : List Str), vs = [v, .ref a] ∧ TreeAt K H v t ∧ SqT K H a (ns.map V.str) ∧ ns.length ≤ 60 ∧ t.post.length ≤ 10000 ∧ (∀ x, Tr.name x ∈ t.post → x ∈ us ∧ x.length ≤ 1000) ∧ us.length < 60 ∧
  (6 < ns.length ∨ ¬ ns.Nodup → ∀ H', Ex H H' → E (.ref B) none H') ∧ (ns.length ≤ 6 → ns.Nodup → (∃ x, Tr.name x ∈ t.post ∧ x ∉ ns) → ∀ H', Ex H H' → E (.ref U) none H') ∧
  (ns.length ≤ 6 → ns.Nodup → (∀ x, Tr.name x ∈ t.post → x ∈ ns) → ∀ (p : Addr) (H' : Hp), Ex H H' → H' p = some (.tup ((tabT ns t).map V.bl)) → Q (.ref p) H')
theorem sc_table_of : FnScope ["tree", "names", "name", "rows", "mask", "row"] ["tree", "names"] (defScope s_table_of) := ⟨rfl, rfl, rfl, by decide +kernel, rfl, by decide +kernel, by decide +kernel⟩
theorem ok_table_of {B U : Addr} (D : Dfd K mg "table_of" s_table_of ["tree", "names"]) (UB : ExcT K mg "BadArgument" B) (UU : ExcT K mg "UnknownName" U) (T : TxtE mg) (g : ∃ t, mg "MOST_INPUTS" = some (.int 6 t))
    (C1 : Has P w K mg base 3 "names_in" ["tree"] (spNames (K := K))) (C2 : Has P w K mg base 3 "_mask" ["tree", "names", "rows"] (spMask (K := K))) : HasX P w K mg base 4 "table_of" ["tree", "names"] (spTable (K := K) B U) := by
  obtain ⟨t6, g_MOST_INPUTS⟩ := g
  obtain ⟨f_names_in, d_names_in, G_names_in, g_names_in, k_names_in, b_names_in⟩ := C1
  obtain ⟨f_mask, d_mask, G_mask, g_mask, k_mask, b_mask⟩ := C2
  obtain ⟨f, fd, F, gf, bf⟩ := D
  refine ⟨f, fd, F.okX sc_table_of (fun vs H Q E h => ?_) (fun cdv A outer s H vs Q E hr h => ?_), gf, F.kp, bf⟩
  · obtain ⟨v, t, a, ns, us, rfl, _⟩ := h
    rfl
  · obtain ⟨v, t, a, ns, us, rfl, ht, ha, hnl, htl, hnm, hul, q1, q2, q3⟩ := h
    refine ⟨_, (pss_cons (ps_if (pt_cmpR op_gt (pe_callB call_len_seq (by rfl) T.len (by decide +kernel) (pa_cons (pv 1) pa_nil)) (gInt rfl g_MOST_INPUTS) (nomark _))
      (pss_one (ps_raise rfl (takes_of rfl rfl rfl rfl) (pmk_ownA PySem.F.excBase_ValueError UB.xP UB.gC UB.kC (raises_own UB.bC UB.tC) rfl (pa_cons (pe_joined (.cons pe_str (.cons (pe_fmt (gInt rfl g_MOST_INPUTS)) (.cons pe_str .nil)))) pa_nil))))
      pss_nil)
    (pss_cons (ps_if (pt_cmpR op_lt (pe_callB XS.cr_lenX (by rfl) T.len (by decide +kernel) (pa_cons (pe_callTy (XS.cr_setX rfl) (by rfl) T.set (by decide +kernel) (pa_cons (pv 1) pa_nil)) pa_nil)) (pe_callB call_len_seq (by rfl) T.len (by decide +kernel) (pa_cons (pv 1) pa_nil)) (nomark _))
      (pss_one (ps_raise rfl (takes_of rfl rfl rfl rfl) (pmk_ownA PySem.F.excBase_ValueError UB.xP UB.gC UB.kC (raises_own UB.bC UB.tC) rfl (pa_cons pe_str pa_nil))))
      pss_nil)
    (pss_cons (ps_for (passes_of rfl) rfl (pi_list (pe_call G_names_in (hr.mono (by omega)) (by rfl) g_names_in k_names_in b_names_in .nil pass0 (pa_cons (pv 0) pa_nil))) (pg_name (i := 2) sc_table_of.nd rfl (.inl rfl))
      (pss_one (ps_if (pt_cmpR op_notIn_seq (pv 2) (pv 1) (by rfl))
        (pss_one (ps_raise rfl (takes_of rfl rfl rfl rfl) (pmk_ownA PySem.F.excBase_ValueError UU.xP UU.gC UU.kC (raises_own UU.bC UU.tC) rfl (pa_cons (pe_joined (.cons (pe_fmt (pv 2)) (.cons pe_str .nil))) pa_nil))))
        pss_nil)))
    (pss_cons (ps_set (i := 3) sc_table_of.nd rfl (.inl rfl) (pe_op op_shl pe_int (pe_callB call_len_seq (by rfl) T.len (by decide +kernel) (pa_cons (pv 1) pa_nil))))
    (pss_cons (ps_set (i := 4) sc_table_of.nd rfl (.inr rfl) (pe_call G_mask (hr.mono (by omega)) (by rfl) g_mask k_mask b_mask .nil pass0 (pa_cons (pv 0) (pa_cons (pv 1) (pa_cons (pv 3) pa_nil)))))
    (pss_one (ps_ret (pe_callTy call_tuple_of (by rfl) T.tuple (by decide +kernel) (pa_cons (pe_lc (own := [("row", 5)]) (g := gName 5) (tt := tYes) rfl sc_table_of.nd (pi_range1 rfl T.range (pa_cons (pv 3) pa_nil)) (blkOk_by (N := ["tree", "names", "name", "rows", "mask", "row"]) (sc := defScope s_table_of) (own := [("row", 5)]) (by decide +kernel)) (fun _ _ _ _ _ => (pg_name (i := 5) sc_table_of.nd rfl (.inl rfl))) (fun _ _ _ _ _ => pts_nil) (fun _ _ _ _ _ => (pe_cmpR op_eq (pe_op op_and (pe_op op_shr (pv 4) (pv 5)) pe_int) pe_int (nomark _)))) pa_nil))))))))), ?_⟩
    refine ⟨_, rfl, _, _, rfl, .inr ha, _, _, rfl, rfl, _, rfl, ite2 (fun c1 => ?_) (fun c1 => ?_)⟩
    · have h6 : 6 < ns.length := by
        have := of_decide_eq_true c1
        rw [List.length_map] at this
        omega
      exact ⟨_, rfl, sz_of (by decide +kernel), .inr ⟨6, rfl, by decide, _, rfl, sz_of (by decide +kernel), _, rfl, sz_of (by decide +kernel), (by show 1 ≤ sizeLine; decide), q1 (.inl h6) H (.refl _)⟩⟩
    have h6 : ns.length ≤ 6 := by
      have : ¬ ((6 : Int) < ((ns.map V.str).length : Nat)) := fun z => c1 (decide_eq_true z)
      rw [List.length_map] at this
      omega
    refine ⟨_, rfl, a, ns, rfl, .inr ha, by omega, fun p l nd hm hl np => ?_⟩
    have E1 : Ex H (upd H p (XS.TxO P w p l)) := Ex.new np
    have h1 : upd H p (XS.TxO P w p l) p = some (XS.TxO P w p l) := upd_same
    refine ⟨p, l, rfl, h1, _, rfl, _, _, rfl, .inr (ex_t E1 ha), _, _, rfl, rfl, _, rfl, ite2 (fun c2 => ?_) (fun c2 => ?_)⟩
    · have h2 : l.length < ns.length := by
        have := of_decide_eq_true c2
        rw [List.length_map] at this
        omega
      refine ⟨(by show 1 ≤ sizeLine; decide), q1 (.inr fun z => ?_) _ E1⟩
      have := nodup_sub z (fun x hx => (hm x).mpr hx)
      omega
    have hnd : ns.Nodup := by
      have h2 : ¬ ((l.length : Int) < ((ns.map V.str).length : Nat)) := fun z => c2 (decide_eq_true z)
      rw [List.length_map] at h2
      have h3 : l.length = ns.length := by omega
      exact (XS.perm_sub nd (fun x hx => (hm x).mp hx) h3.symm).nodup_iff.mpr nd
    refine ⟨_, rfl, v, t, us, rfl, ht.ex E1, htl, (fun x hx => (hnm x hx).1), hul, fun L ys H2 E2 nL hL hys => ⟨_, rfl, ⟨_, SqL.of hL⟩, for_list (K := K) (a := L) (xs := ys.map V.str)
      (fun j σ H' => Ex H2 H' ∧ (∀ x ∈ ys.take j, x ∈ ns) ∧ ∃ y2 : Option V, σ = [some v, some (.ref a), y2, none, none, none]) ⟨.refl _, (fun x hx => by rw [List.take_zero] at hx; cases hx), _, rfl⟩ (fun j σ H' _ g => SqL.of (g.1 _ _ hL)) ?_ ?_⟩⟩
    · rintro j z σ H3 hz ⟨E3, hin, y2, rfl⟩
      obtain ⟨x, hx, rfl⟩ : ∃ x, ys[j]? = some x ∧ z = .str x := by
        rw [List.getElem?_map] at hz
        cases e : ys[j]? with
        | none => rw [e] at hz; cases hz
        | some y => rw [e] at hz; cases hz; exact ⟨y, rfl, rfl⟩
      have E03 := (E1.trans E2).trans E3
      have hxt := (hys x).mp (List.mem_of_getElem? hx)
      refine ⟨_, rfl, _, rfl, a, _, rfl, .inr (ex_t E03 ha), rfl, flat_map (fun _ => rfl) _, _, rfl, ?_⟩
      show if (if true = true then !inV (.str x) (ns.map V.str) else inV (.str x) (ns.map V.str)) = true then _ else _
      rw [if_pos rfl, inV_sL]
      refine ite2 (fun c3 => ?_) (fun c3 => ?_)
      · have hno : x ∉ ns := by simpa using c3
        have hxl := (hnm x hxt).2
        exact ⟨_, rfl, .inl ⟨x, rfl, sz_of (by omega), _, rfl, (fsA (b := " is not an input") (by decide +kernel) hxl).1, _, rfl, (fsA (b := " is not an input") (by decide +kernel) hxl).2, (by show 1 ≤ sizeLine; decide), q2 h6 hnd ⟨x, hxt, hno⟩ H3 E03⟩⟩
      · have hyes : x ∈ ns := by simpa using c3
        refine ⟨E3, fun y hy => ?_, _, rfl⟩
        rw [take_snoc1 hx] at hy
        rcases List.mem_append.mp hy with z | z
        · exact hin y z
        · rw [List.mem_singleton.mp z]; exact hyes
    · rintro σ H3 ⟨E3, hin, y2, rfl⟩
      rw [List.length_map, List.take_length] at hin
      have hall : ∀ x, Tr.name x ∈ t.post → x ∈ ns := fun x hx => hin x ((hys x).mpr hx)
      have E03 := (E1.trans E2).trans E3
      have hp64 : 2 ^ ns.length ≤ 64 := Nat.le_trans (Nat.pow_le_pow_right (by decide) h6) (by decide)
      have e1 : ((1 : Int) * 2 ^ (((ns.map V.str).length : Nat) : Int).toNat) = ((2 ^ ns.length : Nat) : Int) := by
        rw [Int.toNat_natCast, Int.one_mul, List.length_map, Int.natCast_pow]; rfl
      refine ⟨_, rfl, _, _, rfl, .inr (ex_t E03 ha), _, _, rfl, rfl, ⟨by rw [List.length_map]; omega, by rw [List.length_map]; omega, by decide⟩, ?_⟩
      refine ⟨_, rfl, _, rfl, _, rfl, v, t, a, ns, 2 ^ ns.length, congrArg (fun i => [v, V.ref a, V.int i]) e1, ht.ex E03, ex_t E03 ha, hnd, h6, hp64, htl, hall, fun H4 E4 => ?_⟩
      have hp0 : 0 < 2 ^ ns.length := Nat.pow_pos (by decide)
      refine ⟨_, rfl, _, rfl, by rw [e1]; omega, by rw [e1]; omega, fun R nR => wk_it walk_range (fun j H' => Ex H4 H' ∧ H' R = some (.lst (((List.range j).map fun r => t.ev (asg ns r)).map V.bl))) ⟨Ex.new nR, upd_same⟩ (fun _ _ _ _ => trivial) ?_ ?_⟩
      · rintro j x H5 H6 hj ⟨E5, hR⟩ ⟨rfl, ez⟩
        rw [e1, Int.toNat_natCast] at hj
        have ez := ez.trans (show V.int (0 + (j : Int)) = .int (j : Nat) by rw [Int.zero_add])
        subst ez
        refine ⟨rfl, tYes_in ⟨_, rfl, _, rfl, _, _, rfl, rfl, Int.natCast_nonneg _, _, _, rfl, rfl, rfl, _, hR, sz_lt (by rw [List.length_map, List.length_map, List.length_range]; omega), E5.mut nR, ?_⟩⟩
        rw [upd_same, List.range_succ, List.map_append, List.map_append]
        have eb : decide (V.int (Builtin.bitAnd (((maskN ns (2 ^ ns.length) t : Nat) : Int) / 2 ^ ((j : Nat) : Int).toNat) 1) = V.int 1) = t.ev (asg ns j) := by
          rw [bitE]
          unfold maskN
          rw [colN_bit, decide_eq_true hj]; rfl
        exact congrArg (fun b => some (HO.lst (_ ++ [V.bl b]))) eb
      · rintro H5 ⟨E5, hR⟩
        rw [e1, Int.toNat_natCast] at hR
        exact ⟨R, _, rfl, .inl ⟨SqL.of hR, fun p np => q3 h6 hnd hall p _ (((E03.trans E4).trans E5).trans (Ex.new np)) upd_same⟩⟩
end
end G
namespace G
open PySem PySem.Spec PyProof.Rows L2 Evl TL
structure TxtW (mg : Str → Option Value) : Prop where
  len : mg "len" = none
  range : mg "range" = none
  tuple : mg "tuple" = none
  int : mg "int" = none
  isinstance : mg "isinstance" = none
def sAL : Str := "abcdefghijklmnopqrstuvwxyz"
def sAN : Str := "abcdefghijklmnopqrstuvwxyz0123456789_"
/-- tuples never change -/
def TX (H H' : Hp) : Prop := ∀ (b : Addr) (xs : List V), H b = some (.tup xs) → H' b = some (.tup xs)
theorem TX.trans {H H1 H2 : Hp} (a : TX H H1) (b : TX H1 H2) : TX H H2 := fun c xs h => b c xs (a c xs h)
theorem TX.of {H H' : Hp} (e : Ex H H') : TX H H' := fun b xs h => e b _ h
theorem TX.px {p a : Addr} {H H' : Hp} (x : Px p a H H') : TX H H' := fun b xs h => by
  obtain ⟨_, _, _, _, _, e, _⟩ := x.was
  exact x.at_ (b := b) (o := .tup xs) (by rw [hid_ne (ne_of h e (by intro z; cases z))]; exact h)
/-- a tree in tuples that stand in the heap -/
def TreeH (H : Hp) : V → Tr → Prop
  | v, .name x => ∃ a, v = .ref a ∧ H a = some (.tup [.str "name", .str x])
  | v, .const b => ∃ a, v = .ref a ∧ H a = some (.tup [.str "const", .bl b])
  | v, .neg t => ∃ a x, v = .ref a ∧ H a = some (.tup [.str "not", x]) ∧ TreeH H x t
  | v, .bin o l r => ∃ a x y, v = .ref a ∧ H a = some (.tup [.str o.s, x, y]) ∧ TreeH H x l ∧ TreeH H y r
theorem TreeH.te {H H' : Hp} (e : TX H H') : ∀ {v : V} {t : Tr}, TreeH H v t → TreeH H' v t
  | v, .name x, ⟨a, h1, h2⟩ => ⟨a, h1, e _ _ h2⟩
  | v, .const b, ⟨a, h1, h2⟩ => ⟨a, h1, e _ _ h2⟩
  | v, .neg t, ⟨a, x, h1, h2, h3⟩ => ⟨a, x, h1, e _ _ h2, h3.te e⟩
  | v, .bin o l r, ⟨a, x, y, h1, h2, h3, h4⟩ => ⟨a, x, y, h1, e _ _ h2, h3.te e, h4.te e⟩
theorem TreeH.at_ {K : PySem.W.Frag} {H : Hp} : ∀ {v : V} {t : Tr}, TreeH H v t → TreeAt K H v t
  | v, .name x, ⟨a, h1, h2⟩ => ⟨a, h1, SqT.of h2⟩
  | v, .const b, ⟨a, h1, h2⟩ => ⟨a, h1, SqT.of h2⟩
  | v, .neg t, ⟨a, x, h1, h2, h3⟩ => ⟨a, x, h1, SqT.of h2, h3.at_⟩
  | v, .bin o l r, ⟨a, x, y, h1, h2, h3, h4⟩ => ⟨a, x, y, h1, SqT.of h2, h3.at_, h4.at_⟩
def Tr.hgt : Tr → Nat
  | .neg t => t.hgt + 1
  | .bin _ l r => max l.hgt r.hgt + 1
  | _ => 1
theorem item1 {z : Str} {v : Nat} (h : v < (tl z).length) : ∃ c : Nat, (tl z)[v]? = some c := ⟨_, List.getElem?_eq_getElem h⟩
section
variable {P : Program} {w : World} {K : PySem.W.Frag} {mg : Str → Option Value} {base : Heap}
def spWordL : Sp := fun vs H Q _ => ∃ (p a : Addr), vs = [.ref p] ∧ PoolOk p a H ∧ ∀ (x : Str) (H' : Hp), x.length ≤ 14 → Px p a H H' → Q (.str x) H'
theorem sc_law_word : FnScope ["pool", "heads", "rest", "word", "k"] ["pool"] (defScope s_law_word) := ⟨rfl, rfl, rfl, by decide +kernel, rfl, by decide +kernel, by decide +kernel⟩
theorem ok_law_word (D : Dfd K mg "_law_word" s_law_word ["pool"]) (T : TxtW mg) (C : Has P w K mg base 2 "_law_draw" ["pool", "many"] spDrawX) : Has P w K mg base 3 "_law_word" ["pool"] spWordL := by
  obtain ⟨f_law_draw, d_law_draw, G_law_draw, g_law_draw, k_law_draw, b_law_draw⟩ := C
  refine D.has fun f fd F => F.ok sc_law_word (fun vs H Q E h => ?_) (fun cdv A outer s H vs Q E hr h => ?_)
  · obtain ⟨_, _, rfl, _⟩ := h
    rfl
  · obtain ⟨p, a, rfl, hp, q⟩ := h
    refine ⟨_, (pss_cons (ps_set (i := 1) sc_law_word.nd rfl (.inl rfl) pe_str)
    (pss_cons (ps_set (i := 2) sc_law_word.nd rfl (.inl rfl) pe_str)
    (pss_cons (ps_set (i := 3) sc_law_word.nd rfl (.inl rfl) (pe_ix ix_str (pv 1) (pe_call G_law_draw (hr.mono (by omega)) (by rfl) g_law_draw k_law_draw b_law_draw .nil pass0 (pa_cons (pv 0) (pa_cons pe_int pa_nil))) (fun _ _ => rfl)))
    (pss_cons (ps_for PassesOwn.never rfl (pi_range1 rfl T.range (pa_cons (pe_ix ix_list (pe_lst (pa_cons pe_int (pa_cons pe_int (pa_cons pe_int (pa_cons pe_int (pa_cons pe_int (pa_cons pe_int (pa_cons pe_int (pa_cons pe_int pa_nil))))))))) (pe_call G_law_draw (hr.mono (by omega)) (by rfl) g_law_draw k_law_draw b_law_draw .nil pass0 (pa_cons (pv 0) (pa_cons pe_int pa_nil))) (fun _ _ => rfl)) pa_nil)) (pg_name (i := 4) sc_law_word.nd rfl (.inl rfl))
      (pss_one (ps_set (i := 3) sc_law_word.nd rfl (.inl rfl) (pe_op op_add_str (pv 3) (pe_ix ix_str (pv 2) (pe_call G_law_draw (hr.mono (by omega)) (by rfl) g_law_draw k_law_draw b_law_draw .nil pass0 (pa_cons (pv 0) (pa_cons pe_int pa_nil))) (fun _ _ => rfl))))))
    (pss_cons (ps_if (pt_cmpR op_in_seq (pv 3) (pe_lst (pa_cons pe_str (pa_cons pe_str (pa_cons pe_str (pa_cons pe_str (pa_cons pe_str (pa_cons pe_str (pa_cons pe_str (pa_cons pe_str (pa_cons pe_str (pa_cons pe_str (pa_cons pe_str pa_nil)))))))))))) (by rfl))
      (pss_one (ps_set (i := 3) sc_law_word.nd rfl (.inl rfl) (pe_op op_add_str (pv 3) pe_str)))
      pss_nil)
    (pss_one (ps_ret (pv 3)))))))), ?_⟩
    have l26 : (tl sAL).length = 26 := by decide +kernel
    have l37 : (tl sAN).length = 37 := by decide +kernel
    refine ⟨_, rfl, _, rfl, p, a, 26, rfl, by decide, by decide, hp, fun v H1 hv X1 _ => ?_⟩
    obtain ⟨c, hc⟩ := item1 (z := sAL) (v := v) (by rw [l26]; omega)
    refine ⟨sAL, _, c, rfl, rfl, by decide, atI_nat hc, ?_⟩
    refine ⟨(by show 8 ≤ sizeLine; decide), fun l nl => ⟨_, rfl, p, a, 8, rfl, by decide, by decide, (X1.new nl).pool, fun v2 H2 hv2 X2 k2 => ?_⟩⟩
    have hl2 : H2 l = some (.lst [.int 0, .int 0, .int 1, .int 1, .int 2, .int 3, .int 5, .int 12]) := by rw [k2 _ (X1.pool.ne nl)]; exact upd_same
    have hit : ∃ n : Nat, ([.int 0, .int 0, .int 1, .int 1, .int 2, .int 3, .int 5, .int 12] : List V)[v2]? = some (.int (n : Int)) ∧ n ≤ 12 := by
      have h8 : v2 < 8 := by omega
      match v2, h8 with
      | 0, _ => exact ⟨0, rfl, by decide⟩
      | 1, _ => exact ⟨0, rfl, by decide⟩
      | 2, _ => exact ⟨1, rfl, by decide⟩
      | 3, _ => exact ⟨1, rfl, by decide⟩
      | 4, _ => exact ⟨2, rfl, by decide⟩
      | 5, _ => exact ⟨3, rfl, by decide⟩
      | 6, _ => exact ⟨5, rfl, by decide⟩
      | 7, _ => exact ⟨12, rfl, by decide⟩
      | n + 8, h => omega
    obtain ⟨n, hn, hn12⟩ := hit
    have X3 := (X1.new nl).trans X2
    have app1 : ∀ (x y : Str), (x ++ y).length = x.length + y.length := fun x y => by rw [len_tl, tl_append, List.length_append, ← len_tl, ← len_tl]
    refine ⟨_, _, _, _, rfl, rfl, SqL.of hl2, atI_nat hn, _, rfl, by omega, by omega, for_range (n := ((n : Nat) : Int).toNat)
      (fun i σ H' => Px p a H H' ∧ ∃ (W : Str) (z : Option V), W.length = i + 1 ∧ σ = [some (.ref p), some (.str sAL), some (.str sAN), some (.str W), z]) ⟨X3, _, _, rfl, rfl⟩ ?_ ?_⟩
    · rintro i σ H3 hi ⟨X4, W, z, hWl, rfl⟩
      refine ⟨_, rfl, _, rfl, _, rfl, p, a, 37, rfl, by decide, by decide, X4.pool, fun v3 H4 hv3 X5 _ => ?_⟩
      obtain ⟨d, hd⟩ := item1 (z := sAN) (v := v3) (by rw [l37]; omega)
      refine ⟨sAN, _, d, rfl, rfl, by decide, atI_nat hd, _, _, rfl, rfl, ?_, X4.trans X5, _, some (.int (0 + (i : Int))), ?_, rfl⟩
      · rw [hWl]
        show _ + 1 ≤ sizeLine
        exact sz_of (by omega)
      · rw [app1, hWl]; rfl
    · rintro σ H3 ⟨X4, W, z, hWl, rfl⟩
      have hWl' : W.length ≤ 13 := by omega
      refine ⟨_, rfl, (by show 11 ≤ sizeLine; decide), fun l2 nl2 => ⟨l2, _, rfl, .inl (SqL.of upd_same), rfl, flat_map (fun _ => rfl) (["cell", "pin", "module", "gate", "part", "reg", "edge", "out", "setup", "hold", "start"] : List Str), _, rfl, ite2 (fun c1 => ?_) (fun c1 => ?_)⟩⟩
      · have u1 : ("_" : Str).length = 1 := rfl
        exact ⟨_, rfl, _, _, rfl, rfl, sz_of (by omega), _, rfl, q (W ++ "_") _ (by rw [app1, u1]; omega) (X4.new nl2)⟩
      · exact ⟨_, rfl, q W _ (by omega) (X4.new nl2)⟩
def spDiff : Sp := fun vs H Q _ => ∃ (p a : Addr) (m : Nat), vs = [.ref p, .int (m : Nat)] ∧ m ≤ 10 ∧ PoolOk p a H ∧ ∀ (L : Addr) (ns : List Str) (H' : Hp), Px p a H H' → H L = none → H' L = some (.lst (ns.map V.str)) → ns.Nodup → ns.length = m → (∀ x ∈ ns, x.length ≤ 30) → Q (.ref L) H'
theorem sc_law_different : FnScope ["pool", "many", "names", "k", "name"] ["pool", "many"] (defScope s_law_different) := ⟨rfl, rfl, rfl, by decide +kernel, rfl, by decide +kernel, by decide +kernel⟩
theorem ok_law_different (D : Dfd K mg "_law_different" s_law_different ["pool", "many"]) (T : TxtW mg) (C : Has P w K mg base 3 "_law_word" ["pool"] spWordL) : Has P w K mg base 4 "_law_different" ["pool", "many"] spDiff := by
  obtain ⟨f_law_word, d_law_word, G_law_word, g_law_word, k_law_word, b_law_word⟩ := C
  refine D.has fun f fd F => F.ok sc_law_different (fun vs H Q E h => ?_) (fun cdv A outer s H vs Q E hr h => ?_)
  · obtain ⟨_, _, _, rfl, _⟩ := h
    rfl
  · obtain ⟨p, a, m, rfl, hm, hp, q⟩ := h
    refine ⟨_, (pss_cons (ps_set (i := 2) sc_law_different.nd rfl (.inl rfl) (pe_lst pa_nil))
    (pss_cons (ps_for PassesOwn.never rfl (pi_range1 rfl T.range (pa_cons (pv 1) pa_nil)) (pg_name (i := 3) sc_law_different.nd rfl (.inl rfl))
      (pss_cons (ps_set (i := 4) sc_law_different.nd rfl (.inl rfl) (pe_call G_law_word (hr.mono (by omega)) (by rfl) g_law_word k_law_word b_law_word .nil pass0 (pa_cons (pv 0) pa_nil)))
      (pss_cons (ps_while PassesOwn.never (pt_cmpR op_in_seq (pv 4) (pv 2) (by rfl))
        (pss_one (ps_set (i := 4) sc_law_different.nd rfl (.inl rfl) (pe_op op_add_str (pv 4) pe_str))))
      (pss_one (ps_expr (pe_bm PySem.F.plainAttrs_list PySem.F.slot_list_append PySem.F.type_list_append mt_append (pv 2) (pa_cons (pv 4) pa_nil)))))))
    (pss_one (ps_ret (pv 2))))), ?_⟩
    refine ⟨(by show 0 ≤ sizeLine; decide), fun L nL => ⟨_, rfl, _, rfl, by omega, by omega, for_range (n := ((m : Nat) : Int).toNat)
      (fun i σ H' => Px p a H H' ∧ ∃ (ns : List Str) (y3 y4 : Option V), H' L = some (.lst (ns.map V.str)) ∧ ns.Nodup ∧ ns.length = i ∧ (∀ x ∈ ns, x.length ≤ 14 + i) ∧ σ = [some (.ref p), some (.int (m : Nat)), some (.ref L), y3, y4])
      ⟨(Px.refl hp).new nL, [], _, _, upd_same, List.nodup_nil, rfl, (fun _ h => nomatch h), rfl⟩ ?_ ?_⟩⟩
    · rintro i σ H1 hi ⟨X1, ns, y3, y4, hL, nd, hl, hx, rfl⟩
      have hi' : i < 10 := by omega
      have app1 : ∀ (x y : Str), (x ++ y).length = x.length + y.length := fun x y => by rw [len_tl, tl_append, List.length_append, ← len_tl, ← len_tl]
      have u1 : ("_" : Str).length = 1 := rfl
      refine ⟨_, rfl, p, a, rfl, X1.pool, fun x0 H2 hx0 X2 => ?_⟩
      have hL2 : H2 L = some (.lst (ns.map V.str)) := X2.at_ (X1.seen nL hL)
      refine ⟨fun μ σ H' => H' = H2 ∧ ∃ y : Str, y.length ≤ 15 + i ∧ 15 + i - y.length = μ ∧ σ = [some (.ref p), some (.int (m : Nat)), some (.ref L), some (.int (0 + (i : Int))), some (.str y)], ⟨_, rfl, x0, by omega, rfl, rfl⟩, ?_⟩
      rintro μ σ H' ⟨rfl, y, hy, hμ, rfl⟩
      refine ⟨_, rfl, _, rfl, L, _, rfl, .inl (SqL.of hL2), rfl, flat_map (fun _ => rfl) ns, _, rfl, ?_⟩
      show if (if false = true then !inV (.str y) (ns.map V.str) else inV (.str y) (ns.map V.str)) = true then _ else _
      rw [if_neg Bool.false_ne_true, inV_sL]
      refine ite2 (fun c1 => ?_) (fun c1 => ?_)
      · have hin : y ∈ ns := of_decide_eq_true c1
        have hy2 := hx y hin
        refine ⟨fun σ' H'' => H'' = H' ∧ ∃ y' : Str, y'.length ≤ 15 + i ∧ 15 + i - y'.length < μ ∧ σ' = [some (.ref p), some (.int (m : Nat)), some (.ref L), some (.int (0 + (i : Int))), some (.str y')], fun σ' H'' ⟨h1, y', h2, h3, h4⟩ => ⟨_, h3, h1, y', h2, rfl, h4⟩, ?_⟩
        refine ⟨_, rfl, _, _, rfl, rfl, sz_of (by omega), rfl, y ++ "_", by rw [app1, u1]; omega, by rw [app1, u1]; omega, rfl⟩
      · have hno : y ∉ ns := fun z => c1 (decide_eq_true z)
        refine ⟨_, rfl, .inl ⟨rfl, _, SqL.of hL2⟩, _, rfl, L, _, _, rfl, rfl, hL2, sz_lt (by rw [List.length_map]; omega), (X1.trans X2).mut nL, ns ++ [y], _, _, by rw [upd_same, List.map_append]; rfl, ?_, by rw [List.length_append, hl]; rfl, ?_, rfl⟩
        · exact List.nodup_append.mpr ⟨nd, by simp, fun a ha b hb => by rw [List.mem_singleton.mp hb]; exact fun z => hno (z ▸ ha)⟩
        · intro x h
          rcases List.mem_append.mp h with z | z
          · have := hx x z; omega
          · rw [List.mem_singleton.mp z]; omega
    · rintro σ H1 ⟨X1, ns, y3, y4, hL, nd, hl, hx, rfl⟩
      exact ⟨_, rfl, q L ns H1 X1 nL hL nd (by omega) fun x h => by have := hx x h; omega⟩
end
end G
namespace G
open PySem PySem.Spec PyProof.Rows L2 Evl TL
section
variable {P : Program} {w : World} {K : PySem.W.Frag} {mg : Str → Option Value} {base : Heap}
def spTreeN : Nat → Sp
  | 0 => fun _ _ _ _ => False
  | d + 1 => fun vs H Q _ => ∃ (p a L : Addr) (ns : List Str), vs = [.ref p, .int (d : Nat), .ref L] ∧ PoolOk p a H ∧ hid p H L = some (.lst (ns.map V.str)) ∧ 0 < ns.length ∧ ns.length ≤ 10 ∧
    ∀ (v : V) (t : Tr) (H' : Hp), Px p a H H' → TreeH H' v t → t.post.length < 2 ^ (d + 1) → t.hgt ≤ d + 1 → (∀ x, Tr.name x ∈ t.post → x ∈ ns) → Q v H'
theorem hone (d : Nat) : 1 < 2 ^ (d + 1) := by
  rw [Nat.pow_succ]
  have : 0 < 2 ^ d := Nat.pow_pos (by decide)
  omega
theorem sc_law_tree : FnScope ["pool", "deep", "names", "kind", "tag"] ["pool", "deep", "names"] (defScope s_law_tree) := ⟨rfl, rfl, rfl, by decide +kernel, rfl, by decide +kernel, by decide +kernel⟩
theorem fn_law_tree {f : Addr} {fd : FuncData} (F : Fun K "_law_tree" "_law_tree" s_law_tree f fd) (g_law_tree : mg "_law_tree" = some (.ref f)) (b_law_tree : Binds K fd ["pool", "deep", "names"] []) (T : TxtW mg) (C1 : Has P w K mg base 2 "_law_draw" ["pool", "many"] spDrawX) :
    ∀ n, FnOk P w K mg base CX0 (n + 2) f fd ["pool", "deep", "names"] (spTreeN n)
  | 0 => ⟨fun _ _ _ _ h => h.elim, fun _ _ _ _ _ _ _ _ _ _ _ _ _ h => h.elim⟩
  | d + 1 => by
    have G_law_tree := fn_law_tree F g_law_tree b_law_tree T C1 d
    have k_law_tree := F.kp
    obtain ⟨f_law_draw, d_law_draw, G_law_draw, g_law_draw, k_law_draw, b_law_draw⟩ := C1
    refine F.ok sc_law_tree (fun vs H Q E h => ?_) (fun cdv A outer s H vs Q E hr h => ?_)
    · obtain ⟨p, a, L, ns, rfl, _⟩ := h
      rfl
    · obtain ⟨p, a, L, ns, rfl, hp, hL, hn0, hn10, q⟩ := h
      refine ⟨_, (pss_cons (ps_set (i := 3) sc_law_tree.nd rfl (.inl rfl) (pe_call G_law_draw (hr.mono (by omega)) (by rfl) g_law_draw k_law_draw b_law_draw .nil pass0 (pa_cons (pv 0) (pa_cons pe_int pa_nil))))
    (pss_cut (ps_if (PW.pt (pw_or (pt_cmpR op_eq (pv 1) pe_int (nomark _)) (pw_or1 (pt_cmpR op_lt (pv 3) pe_int (nomark _)))))
      (pss_cons (ps_if (pt_cmpR op_eq (pe_call G_law_draw (hr.mono (by omega)) (by rfl) g_law_draw k_law_draw b_law_draw .nil pass0 (pa_cons (pv 0) (pa_cons pe_int pa_nil))) pe_int (nomark _))
        (pss_one (ps_ret (pe_tup (pa_cons pe_str (pa_cons (pe_cmpR op_eq (pe_call G_law_draw (hr.mono (by omega)) (by rfl) g_law_draw k_law_draw b_law_draw .nil pass0 (pa_cons (pv 0) (pa_cons pe_int pa_nil))) pe_int (nomark _)) pa_nil)))))
        pss_nil)
      (pss_one (ps_ret (pe_tup (pa_cons pe_str (pa_cons (pe_ix ix_list (pv 2) (pe_call G_law_draw (hr.mono (by omega)) (by rfl) g_law_draw k_law_draw b_law_draw .nil pass0 (pa_cons (pv 0) (pa_cons (pe_callB call_len_seq (by rfl) T.len (by decide +kernel) (pa_cons (pv 2) pa_nil)) pa_nil))) (fun _ _ => rfl)) pa_nil))))))
      pss_nil)
    (pss_cons (ps_if (pt_cmpR op_eq (pv 3) pe_int (nomark _))
      (pss_one (ps_ret (pe_tup (pa_cons pe_str (pa_cons (pe_call G_law_tree (hr.mono (by omega)) (by rfl) g_law_tree k_law_tree b_law_tree .nil pass0 (pa_cons (pv 0) (pa_cons (pe_op op_sub (pv 1) pe_int) (pa_cons (pv 2) pa_nil)))) pa_nil)))))
      pss_nil)
    (pss_cons (ps_set (i := 4) sc_law_tree.nd rfl (.inl rfl) (pe_ix ix_list (pe_lst (pa_cons pe_str (pa_cons pe_str (pa_cons pe_str pa_nil)))) (pe_call G_law_draw (hr.mono (by omega)) (by rfl) g_law_draw k_law_draw b_law_draw .nil pass0 (pa_cons (pv 0) (pa_cons pe_int pa_nil))) (fun _ _ => rfl)))
    (pss_one (ps_ret (pe_tup (pa_cons (pv 4) (pa_cons (pe_call G_law_tree (hr.mono (by omega)) (by rfl) g_law_tree k_law_tree b_law_tree .nil pass0 (pa_cons (pv 0) (pa_cons (pe_op op_sub (pv 1) pe_int) (pa_cons (pv 2) pa_nil)))) (pa_cons (pe_call G_law_tree (hr.mono (by omega)) (by rfl) g_law_tree k_law_tree b_law_tree .nil pass0 (pa_cons (pv 0) (pa_cons (pe_op op_sub (pv 1) pe_int) (pa_cons (pv 2) pa_nil)))) pa_nil)))))))))), ?_⟩
      refine ⟨_, rfl, p, a, 8, rfl, by decide, by decide, hp, fun kind H1 hk X1 _ => ?_⟩
      refine ⟨fun σ H' => H' = H1 ∧ d ≠ 0 ∧ σ = [some (.ref p), some (.int (d : Nat)), some (.ref L), some (.int (kind : Nat)), none], ?_, ?_⟩
      · refine ⟨_, rfl, rfl, _, rfl, ite2 (fun c1 => ?_) (fun c1 => ⟨_, rfl, _, _, rfl, rfl, _, rfl, ite2 (fun c2 => ?_) (fun c2 => ?_)⟩)⟩
        · refine iteT ?_
          refine ⟨_, rfl, p, a, 6, rfl, by decide, by decide, X1.pool, fun v H2 hv X2 _ => ⟨rfl, _, rfl, ite2 (fun c3 => ?_) (fun c3 => ?_)⟩⟩
          · refine ⟨_, rfl, p, a, 2, rfl, by decide, by decide, X2.pool, fun v2 H3 hv2 X3 _ => ⟨rfl, (by show 2 ≤ sizeLine; decide), fun l nl => ?_⟩⟩
            exact q (.ref l) (.const _) _ ((X1.trans (X2.trans X3)).new nl) ⟨l, rfl, upd_same⟩ (hone d) (Nat.le_add_left _ _) (fun x hx => by simp [Tr.post] at hx)
          · have hL2 := (X1.trans X2).at_ hL
            refine ⟨_, rfl, _, rfl, _, rfl, _, _, rfl, .inl (SqL.of hL2), p, a, ns.length, by rw [List.length_map]; rfl, by omega, by omega, X2.pool, fun v2 H3 hv2 X3 _ => ?_⟩
            have hL3 := (X1.trans (X2.trans X3)).at_ hL
            have hv2' : v2 < ns.length := by omega
            refine ⟨_, _, _, _, rfl, rfl, SqL.of hL3, atI_nat (j := v2) (by rw [List.getElem?_map, List.getElem?_eq_getElem hv2']; rfl), (by show 2 ≤ sizeLine; decide), fun l nl => ?_⟩
            exact q (.ref l) (.name ns[v2]) _ ((X1.trans (X2.trans X3)).new nl) ⟨l, rfl, upd_same⟩ (hone d) (Nat.le_add_left _ _) (fun x hx => by simp [Tr.post] at hx; rw [hx]; exact List.getElem_mem hv2')
        · refine ⟨_, rfl, p, a, 6, rfl, by decide, by decide, X1.pool, fun v H2 hv X2 _ => ⟨rfl, _, rfl, ite2 (fun c3 => ?_) (fun c3 => ?_)⟩⟩
          · refine ⟨_, rfl, p, a, 2, rfl, by decide, by decide, X2.pool, fun v2 H3 hv2 X3 _ => ⟨rfl, (by show 2 ≤ sizeLine; decide), fun l nl => ?_⟩⟩
            exact q (.ref l) (.const _) _ ((X1.trans (X2.trans X3)).new nl) ⟨l, rfl, upd_same⟩ (hone d) (Nat.le_add_left _ _) (fun x hx => by simp [Tr.post] at hx)
          · have hL2 := (X1.trans X2).at_ hL
            refine ⟨_, rfl, _, rfl, _, rfl, _, _, rfl, .inl (SqL.of hL2), p, a, ns.length, by rw [List.length_map]; rfl, by omega, by omega, X2.pool, fun v2 H3 hv2 X3 _ => ?_⟩
            have hL3 := (X1.trans (X2.trans X3)).at_ hL
            have hv2' : v2 < ns.length := by omega
            refine ⟨_, _, _, _, rfl, rfl, SqL.of hL3, atI_nat (j := v2) (by rw [List.getElem?_map, List.getElem?_eq_getElem hv2']; rfl), (by show 2 ≤ sizeLine; decide), fun l nl => ?_⟩
            exact q (.ref l) (.name ns[v2]) _ ((X1.trans (X2.trans X3)).new nl) ⟨l, rfl, upd_same⟩ (hone d) (Nat.le_add_left _ _) (fun x hx => by simp [Tr.post] at hx; rw [hx]; exact List.getElem_mem hv2')
        · exact ⟨rfl, fun z => c1 (by rw [z]; rfl), rfl⟩
      rintro σ H' ⟨rfl, hd0, rfl⟩
      obtain ⟨e, rfl⟩ : ∃ e, d = e + 1 := ⟨d - 1, by omega⟩
      have eN : ((e + 1 : Nat) : Int) - 1 = (e : Nat) := by omega
      have hL1 := X1.get hL
      have epow : 2 ^ (e + 1 + 1) = 2 * 2 ^ (e + 1) := by rw [Nat.pow_succ, Nat.mul_comm]
      have hpos : 0 < 2 ^ (e + 1) := Nat.pow_pos (by decide)
      refine ⟨_, rfl, rfl, _, rfl, ite2 (fun c1 => ?_) (fun c1 => ?_)⟩
      · refine ⟨_, rfl, _, rfl, _, _, rfl, rfl, _, rfl, p, a, L, ns, congrArg (fun z => [V.ref p, V.int z, V.ref L]) eN, X1.pool, hL1, hn0, hn10, fun v1 t1 H2 X2 h2 l2 g2 m2 => ⟨(by show 2 ≤ sizeLine; decide), fun l nl => ?_⟩⟩
        refine q (.ref l) (.neg t1) _ ((X1.trans X2).new nl) ⟨l, v1, rfl, upd_same, h2.te (.of (Ex.new nl))⟩ ?_ (Nat.succ_le_succ g2) (fun x hx => ?_)
        · show (t1.post ++ [_]).length < _
          rw [List.length_append, List.length_singleton]; omega
        · rcases List.mem_append.mp (show _ ∈ t1.post ++ [_] from hx) with z | z
          · exact m2 x z
          · cases List.mem_singleton.mp z
      · refine ⟨(by show 3 ≤ sizeLine; decide), fun l2 nl2 => ?_⟩
        have X2 := X1.new (o := .lst [.str "and", .str "xor", .str "or"]) nl2
        have hl2 : upd H' l2 (.lst [.str "and", .str "xor", .str "or"]) l2 = some (.lst [.str "and", .str "xor", .str "or"]) := upd_same
        have hl2p : hid p (upd H' l2 (.lst [.str "and", .str "xor", .str "or"])) l2 = some (.lst [.str "and", .str "xor", .str "or"]) := by rw [hid_ne (X1.pool.ne nl2)]; exact upd_same
        generalize upd H' l2 (.lst [.str "and", .str "xor", .str "or"]) = H2 at *
        refine ⟨_, rfl, p, a, 3, rfl, by decide, by decide, X2.pool, fun v H3 hv X3 _ => ?_⟩
        have hl3 := X3.at_ hl2p
        obtain ⟨o, ho⟩ : ∃ o : Op, ([.str "and", .str "xor", .str "or"] : List V)[v]? = some (.str o.s) := by
          have h3 : v < 3 := by omega
          match v, h3 with
          | 0, _ => exact ⟨.and, rfl⟩
          | 1, _ => exact ⟨.xor, rfl⟩
          | 2, _ => exact ⟨.or, rfl⟩
          | n + 3, h => exact absurd h (by omega)
        have X13 := X2.trans X3
        refine ⟨_, _, _, _, rfl, rfl, SqL.of hl3, atI_nat (j := v) ho, ?_⟩
        refine ⟨_, rfl, _, rfl, _, rfl, _, _, rfl, rfl, _, rfl, p, a, L, ns, congrArg (fun z => [V.ref p, V.int z, V.ref L]) eN, X3.pool, X13.get hL, hn0, hn10, fun v1 t1 H4 X4 h4 l4 g4 m4 => ?_⟩
        refine ⟨_, rfl, _, rfl, _, _, rfl, rfl, _, rfl, p, a, L, ns, congrArg (fun z => [V.ref p, V.int z, V.ref L]) eN, X4.pool, (X13.trans X4).get hL, hn0, hn10, fun v2 t2 H5 X5 h5 l5 g5 m5 => ⟨(by show 3 ≤ sizeLine; decide), fun l nl => ?_⟩⟩
        refine q (.ref l) (.bin o t1 t2) _ ((X13.trans (X4.trans X5)).new nl) ⟨l, v1, v2, rfl, upd_same, (h4.te (.px X5)).te (.of (Ex.new nl)), h5.te (.of (Ex.new nl))⟩ ?_ ?_ (fun x hx => ?_)
        · show (t1.post ++ t2.post ++ [_]).length < _
          rw [List.length_append, List.length_append, List.length_singleton]; omega
        · show max t1.hgt t2.hgt + 1 ≤ _
          omega
        · rcases List.mem_append.mp (show _ ∈ t1.post ++ t2.post ++ [_] from hx) with z | z
          · rcases List.mem_append.mp z with z | z
            · exact m4 x z
            · exact m5 x z
          · cases List.mem_singleton.mp z
def spEval : Nat → Sp
  | 0 => fun _ _ _ _ => False
  | n + 1 => fun vs H Q _ => ∃ (v : V) (t : Tr) (k : Addr) (es : List (Key × V)) (f : Str → Bool), vs = [v, .ref k] ∧ TreeH H v t ∧ H k = some (.dK es) ∧ (∀ x, Tr.name x ∈ t.post → valV es (.inr x) = some (.bl (f x))) ∧ t.hgt ≤ n + 1 ∧ Q (.bl (t.ev f)) H
theorem sc_law_eval : FnScope ["tree", "known", "first", "second"] ["tree", "known"] (defScope s_law_eval) := ⟨rfl, rfl, rfl, by decide +kernel, rfl, by decide +kernel, by decide +kernel⟩
theorem fn_law_eval {f : Addr} {fd : FuncData} (F : Fun K "_law_eval" "_law_eval" s_law_eval f fd) (g_law_eval : mg "_law_eval" = some (.ref f)) (b_law_eval : Binds K fd ["tree", "known"] []) :
    ∀ n, FnOk P w K mg base CX0 (n + 2) f fd ["tree", "known"] (spEval n)
  | 0 => ⟨fun _ _ _ _ h => h.elim, fun _ _ _ _ _ _ _ _ _ _ _ _ _ h => h.elim⟩
  | d + 1 => by
    have G_law_eval := fn_law_eval F g_law_eval b_law_eval d
    have k_law_eval := F.kp
    refine F.ok sc_law_eval (fun vs H Q E h => ?_) (fun cdv A outer s H vs Q E hr h => ?_)
    · obtain ⟨v, t, k, es, fv, rfl, _⟩ := h
      rfl
    · obtain ⟨v, t, k, es, fv, rfl, ht, hk, hes, hh, q⟩ := h
      refine ⟨_, (pss_cons (ps_if (pt_cmpR op_eq (pe_ix ix_tup (pv 0) pe_int (fun _ _ => rfl)) pe_str (nomark _))
      (pss_one (ps_ret (pe_dget (hu_of hr) (pv 1) (pe_ix ix_tup (pv 0) pe_int (fun _ _ => rfl)) (fun _ _ => rfl))))
      pss_nil)
    (pss_cons (ps_if (pt_cmpR op_eq (pe_ix ix_tup (pv 0) pe_int (fun _ _ => rfl)) pe_str (nomark _))
      (pss_one (ps_ret (pe_ix ix_tup (pv 0) pe_int (fun _ _ => rfl))))
      pss_nil)
    (pss_cons (ps_set (i := 2) sc_law_eval.nd rfl (.inl rfl) (pe_call G_law_eval (hr.mono (by omega)) (by rfl) g_law_eval k_law_eval b_law_eval .nil pass0 (pa_cons (pe_ix ix_tup (pv 0) pe_int (fun _ _ => rfl)) (pa_cons (pv 1) pa_nil))))
    (pss_cons (ps_if (pt_cmpR op_eq (pe_ix ix_tup (pv 0) pe_int (fun _ _ => rfl)) pe_str (nomark _))
      (pss_one (ps_ret (pe_not (pv 2))))
      pss_nil)
    (pss_cons (ps_set (i := 3) sc_law_eval.nd rfl (.inl rfl) (pe_call G_law_eval (hr.mono (by omega)) (by rfl) g_law_eval k_law_eval b_law_eval .nil pass0 (pa_cons (pe_ix ix_tup (pv 0) pe_int (fun _ _ => rfl)) (pa_cons (pv 1) pa_nil))))
    (pss_cons (ps_if (pt_cmpR op_eq (pe_ix ix_tup (pv 0) pe_int (fun _ _ => rfl)) pe_str (nomark _))
      (pss_one (ps_ret (pe_and (pv 2) (pe_one (pv 3)))))
      pss_nil)
    (pss_cons (ps_if (pt_cmpR op_eq (pe_ix ix_tup (pv 0) pe_int (fun _ _ => rfl)) pe_str (nomark _))
      (pss_one (ps_ret (pe_or (pv 2) (pe_one (pv 3)))))
      pss_nil)
    (pss_one (ps_ret (pe_cmpR op_ne (pv 2) (pv 3) (nomark _))))))))))), ?_⟩
      have nA : ∀ z : Str, V.str z = V.str z := fun _ => rfl
      cases t with
      | name x =>
        obtain ⟨a, rfl, h1⟩ := ht
        have hs := SqT.of (K := K) h1
        have hget : DGet H k (.str x) (some (.bl (fv x))) := by
          have := DGet.k (k := Sum.inr x) hk
          rw [hes x (by simp [Tr.post])] at this
          exact this
        refine ⟨_, rfl, _, _, _, _, rfl, rfl, hs, atI_nat (j := 0) rfl, rfl, _, rfl, ite2 (fun _ => ?_) (fun c => absurd (decide_eq_true (nA "name")) c)⟩
        exact ⟨_, rfl, _, rfl, _, _, _, _, rfl, rfl, hs, atI_nat (j := 1) rfl, k, _, rfl, hget, q⟩
      | const b =>
        obtain ⟨a, rfl, h1⟩ := ht
        have hs := SqT.of (K := K) h1
        refine ⟨_, rfl, _, _, _, _, rfl, rfl, hs, atI_nat (j := 0) rfl, rfl, _, rfl, ite2 (fun c => absurd (V.str.inj (of_decide_eq_true c)) tagNe.1) (fun _ => ?_)⟩
        refine ⟨_, rfl, _, _, _, _, rfl, rfl, hs, atI_nat (j := 0) rfl, rfl, _, rfl, ite2 (fun _ => ?_) (fun c => absurd (decide_eq_true (nA "const")) c)⟩
        exact ⟨_, rfl, _, _, _, _, rfl, rfl, hs, atI_nat (j := 1) rfl, q⟩
      | neg u =>
        obtain ⟨a, x, rfl, h1, hu⟩ := ht
        have hs := SqT.of (K := K) h1
        have hu1 : u.hgt ≤ d := Nat.le_of_succ_le_succ hh
        obtain ⟨e, rfl⟩ : ∃ e, d = e + 1 := by
          have : 1 ≤ u.hgt := by cases u <;> simp [Tr.hgt]
          exact ⟨d - 1, by omega⟩
        refine ⟨_, rfl, _, _, _, _, rfl, rfl, hs, atI_nat (j := 0) rfl, rfl, _, rfl, ite2 (fun c => absurd (V.str.inj (of_decide_eq_true c)) tagNe.2.1) (fun _ => ?_)⟩
        refine ⟨_, rfl, _, _, _, _, rfl, rfl, hs, atI_nat (j := 0) rfl, rfl, _, rfl, ite2 (fun c => absurd (V.str.inj (of_decide_eq_true c)) tagNe.2.2) (fun _ => ?_)⟩
        refine ⟨_, rfl, _, _, _, _, rfl, rfl, hs, atI_nat (j := 1) rfl, _, rfl, x, u, k, es, fv, rfl, hu, hk, (fun y hy => hes y (List.mem_append_left _ hy)), hu1, ?_⟩
        refine ⟨_, rfl, _, _, _, _, rfl, rfl, hs, atI_nat (j := 0) rfl, rfl, _, rfl, ite2 (fun _ => ?_) (fun c => absurd (decide_eq_true (nA "not")) c)⟩
        exact ⟨_, rfl, _, rfl, q⟩
      | bin o l r =>
        obtain ⟨a, x, y, rfl, h1, hl, hrr⟩ := ht
        have hs := SqT.of (K := K) h1
        have hh' : max l.hgt r.hgt ≤ d := Nat.le_of_succ_le_succ hh
        have hl1 : l.hgt ≤ d := Nat.le_trans (Nat.le_max_left _ _) hh'
        have hr1 : r.hgt ≤ d := Nat.le_trans (Nat.le_max_right _ _) hh'
        obtain ⟨e, rfl⟩ : ∃ e, d = e + 1 := by
          have : 1 ≤ l.hgt := by cases l <;> simp [Tr.hgt]
          exact ⟨d - 1, by omega⟩
        refine ⟨_, rfl, _, _, _, _, rfl, rfl, hs, atI_nat (j := 0) rfl, rfl, _, rfl, ite2 (fun c => absurd (V.str.inj (of_decide_eq_true c)) o.ne.1) (fun _ => ?_)⟩
        refine ⟨_, rfl, _, _, _, _, rfl, rfl, hs, atI_nat (j := 0) rfl, rfl, _, rfl, ite2 (fun c => absurd (V.str.inj (of_decide_eq_true c)) o.ne.2.1) (fun _ => ?_)⟩
        refine ⟨_, rfl, _, _, _, _, rfl, rfl, hs, atI_nat (j := 1) rfl, _, rfl, x, l, k, es, fv, rfl, hl, hk, (fun y hy => hes y (List.mem_append_left _ (List.mem_append_left _ hy))), hl1, ?_⟩
        refine ⟨_, rfl, _, _, _, _, rfl, rfl, hs, atI_nat (j := 0) rfl, rfl, _, rfl, ite2 (fun c => absurd (V.str.inj (of_decide_eq_true c)) o.ne.2.2) (fun _ => ?_)⟩
        refine ⟨_, rfl, _, _, _, _, rfl, rfl, hs, atI_nat (j := 2) rfl, _, rfl, y, r, k, es, fv, rfl, hrr, hk, (fun y hy => hes y (List.mem_append_left _ (List.mem_append_right _ hy))), hr1, ?_⟩
        refine ⟨_, rfl, _, _, _, _, rfl, rfl, hs, atI_nat (j := 0) rfl, rfl, _, rfl, ite2 (fun c => ?_) (fun c0 => ?_)⟩
        · have e : o = .and := by
            cases o
            · rfl
            · exact absurd (V.str.inj (of_decide_eq_true c)) opNe.1
            · exact absurd (V.str.inj (of_decide_eq_true c)) opNe.2.1
          subst e
          have q' : Q (.bl (l.ev fv && r.ev fv)) H := q
          refine ⟨_, rfl, _, rfl, ite2 (fun e1 => ⟨_, rfl, ?_⟩) (fun e1 => ?_)⟩
          · rw [e1] at q'; exact q'
          · rw [(Bool.not_eq_true _).mp e1] at q'; exact q'
        refine ⟨_, rfl, _, _, _, _, rfl, rfl, hs, atI_nat (j := 0) rfl, rfl, _, rfl, ite2 (fun c => ?_) (fun c => ?_)⟩
        · have e : o = .or := by
            cases o
            · exact absurd (decide_eq_true rfl) c0
            · exact absurd (V.str.inj (of_decide_eq_true c)) opNe.2.2.symm
            · rfl
          subst e
          have q' : Q (.bl (l.ev fv || r.ev fv)) H := q
          refine ⟨_, rfl, _, rfl, ite2 (fun e1 => ?_) (fun e1 => ⟨_, rfl, ?_⟩)⟩
          · rw [e1] at q'; exact q'
          · rw [(Bool.not_eq_true _).mp e1] at q'; exact q'
        · have e : o = .xor := by
            cases o
            · exact absurd (decide_eq_true rfl) c0
            · rfl
            · exact absurd (decide_eq_true rfl) c
          subst e
          have q' : Q (.bl (l.ev fv != r.ev fv)) H := q
          have eb : (!decide (V.bl (l.ev fv) = V.bl (r.ev fv))) = (l.ev fv != r.ev fv) := by
            cases l.ev fv <;> cases r.ev fv <;> rfl
          refine ⟨_, rfl, _, rfl, rfl, ?_⟩
          rw [← eb] at q'
          exact q'
theorem x1 {b : Bool} {A B : Prop} (h : b = true) (a : A) : if b = true then A else B := by rw [if_pos h]; exact a
theorem x0 {b : Bool} {A B : Prop} (h : b = false) (a : B) : if b = true then A else B := by rw [if_neg (by rw [h]; decide)]; exact a
def spTold : Sp := fun vs H Q _ => ∃ (v : V) (t : Tr) (a : Addr) (ns us : List Str), vs = [v, .ref a] ∧ TreeAt K H v t ∧ SqT K H a (ns.map V.str) ∧ ns.length ≤ 60 ∧ t.post.length ≤ 10000 ∧ (∀ x, Tr.name x ∈ t.post → x ∈ us ∧ x.length ≤ 1000) ∧ us.length < 60 ∧
  (((6 < ns.length ∨ ¬ ns.Nodup) ∧ ∀ H', Ex H H' → Q (.int 2) H') ∨ (ns.length ≤ 6 ∧ ns.Nodup ∧ (∃ x, Tr.name x ∈ t.post ∧ x ∉ ns) ∧ ∀ H', Ex H H' → Q (.int 1) H'))
theorem sc_law_told : FnScope ["tree", "names", "e"] ["tree", "names"] (defScope s_law_told) := ⟨rfl, rfl, rfl, by decide +kernel, rfl, by decide +kernel, by decide +kernel⟩
theorem ok_law_told {B U D_DeckError S : Addr} (D : Dfd K mg "_law_told" s_law_told ["tree", "names"]) (T : TxtW mg) (g_UnknownName : mg "UnknownName" = some (.ref U)) (g_DeckError : mg "DeckError" = some (.ref D_DeckError)) (g_BadArgument : mg "BadArgument" = some (.ref B)) (g_SignoffError : mg "SignoffError" = some (.ref S))
    (iB : ExcC K B) (iU : ExcC K U) (bu : PySem.W.kitOne K (.ref B) (.ref U) = some false) (bb : PySem.W.kitOne K (.ref B) (.ref B) = some true) (bd : PySem.W.kitOne K (.ref B) (.ref D_DeckError) = some false)
    (uu : PySem.W.kitOne K (.ref U) (.ref U) = some true) (ub : PySem.W.kitOne K (.ref U) (.ref B) = some false) (ud : PySem.W.kitOne K (.ref U) (.ref D_DeckError) = some true)
    (hitB : PySem.W.exmOne K (.ref B) (.ref S) = some true) (hitU : PySem.W.exmOne K (.ref U) (.ref S) = some true)
    (C : HasX P w K mg base 4 "table_of" ["tree", "names"] (spTable (K := K) B U)) : Has P w K mg base 5 "_law_told" ["tree", "names"] (spTold (K := K)) := by
  obtain ⟨f_table_of, d_table_of, G_table_of, g_table_of, k_table_of, b_table_of⟩ := C
  refine D.has fun f fd F => F.ok sc_law_told (fun vs H Q E h => ?_) (fun cdv A outer s H vs Q E hr h => ?_)
  · obtain ⟨v, t, a, ns, us, rfl, _⟩ := h
    rfl
  · obtain ⟨v, t, a, ns, us, rfl, ht, ha, hnl, htl, hnm, hul, q⟩ := h
    refine ⟨_, (pss_cons (ps_try_as (c := .ref S) (i := 2) rfl rfl sc_law_told.nd rfl rfl ⟨rfl, by decide, .inl g_SignoffError⟩ takes0
      (fun W pn xe tk hp => (pss_one (ps_expr (pe_callS G_table_of (hr.mono (by omega)) rfl g_table_of k_table_of b_table_of (fun σ => passAt tk σ) (pa_cons (pv 0) (pa_cons (pv 1) pa_nil))))))
      (fun a oe cls dd pn hz hf => (pss_cons (ps_if (PW.pt (pw_and (pt_val (pe_isE hz hf (fun D hz1 ic => pe_callB (call_isE ic hz1 hf) (by rfl) T.isinstance (by decide +kernel) (pa_cons (pv 2) (pa_cons (gRef rfl g_UnknownName) pa_nil))))) (pw_and (pt_val (pe_isE hz hf (fun D hz1 ic => pe_callB (call_isE ic hz1 hf) (by rfl) T.isinstance (by decide +kernel) (pa_cons (pv 2) (pa_cons (gRef rfl g_DeckError) pa_nil))))) (pw_and1 (pt_not (pt_val (pe_isE hz hf (fun D hz1 ic => pe_callB (call_isE ic hz1 hf) (by rfl) T.isinstance (by decide +kernel) (pa_cons (pv 2) (pa_cons (gRef rfl g_BadArgument) pa_nil))))))))))
          (pss_one (ps_ret pe_int))
          pss_nil)
        (pss_one (ps_ret (pe_op op_mul pe_int (pe_callTy call_int1 (by rfl) T.int (by decide +kernel) (pa_cons (pe_and (pe_isE hz hf (fun D hz1 ic => pe_callB (call_isE ic hz1 hf) (by rfl) T.isinstance (by decide +kernel) (pa_cons (pv 2) (pa_cons (gRef rfl g_BadArgument) pa_nil)))) (pe_one (pe_not (pe_isE hz hf (fun D hz1 ic => pe_callB (call_isE ic hz1 hf) (by rfl) T.isinstance (by decide +kernel) (pa_cons (pv 2) (pa_cons (gRef rfl g_DeckError) pa_nil))))))) pa_nil))))))))
    (pss_one (ps_ret (pe_un un_neg pe_int)))), ?_⟩
    rcases q with ⟨bad, q⟩ | ⟨l6, hnd, miss, q⟩
    · refine ⟨_, rfl, _, rfl, v, t, a, ns, us, rfl, ht, ha, hnl, htl, hnm, hul, (fun _ H1 E1 => ⟨true, hitB, fun _ ea na => ?_, fun q => nomatch q⟩), (fun h6 hd _ => absurd bad (fun z => z.elim (fun y => absurd y (by omega)) fun y => y hd)), (fun h6 hd _ => absurd bad (fun z => z.elim (fun y => absurd y (by omega)) fun y => y hd))⟩
      refine ⟨B, ⟨rfl, rfl, iB⟩, _, rfl, .ref U, .ref U, false, rfl, (fun u hu => hu), bu, false, rfl, x0 rfl (x0 rfl ?_)⟩
      refine ⟨B, ⟨rfl, rfl, iB⟩, _, rfl, .ref B, .ref B, true, rfl, (fun u hu => hu), bb, true, rfl, x1 rfl ?_⟩
      refine ⟨B, ⟨rfl, rfl, iB⟩, _, rfl, .ref D_DeckError, .ref D_DeckError, false, rfl, (fun u hu => hu), bd, false, rfl, .inr ⟨true, rfl, _, _, rfl, rfl, ?_, q H1 E1⟩⟩
      exact .inl ⟨by decide, by decide⟩
    · refine ⟨_, rfl, _, rfl, v, t, a, ns, us, rfl, ht, ha, hnl, htl, hnm, hul, (fun bad => absurd bad (fun z => z.elim (fun y => absurd y (by omega)) fun y => y hnd)), (fun _ _ _ H1 E1 => ⟨true, hitU, fun _ ea na => ?_, fun q => nomatch q⟩), (fun _ _ hall => absurd miss (fun ⟨x, h1, h2⟩ => h2 (hall x h1)))⟩
      refine ⟨U, ⟨rfl, rfl, iU⟩, _, rfl, .ref U, .ref U, true, rfl, (fun u hu => hu), uu, true, rfl, x1 rfl ?_⟩
      refine ⟨U, ⟨rfl, rfl, iU⟩, _, rfl, .ref D_DeckError, .ref D_DeckError, true, rfl, (fun u hu => hu), ud, true, rfl, x1 rfl ?_⟩
      exact ⟨U, ⟨rfl, rfl, iU⟩, _, rfl, .ref B, .ref B, false, rfl, (fun u hu => hu), ub, false, rfl, x1 rfl (q H1 E1)⟩
end
end G
namespace G
open PySem PySem.Spec PyProof.Rows L2 Evl TL
theorem bits_pow (m : Nat) : PySem.Builtin.Int.intBits ((2 ^ m : Nat) : Int) = m + 1 := by
  unfold PySem.Builtin.Int.intBits
  have hp : 0 < 2 ^ m := Nat.pow_pos (by decide)
  rw [if_neg (by intro e; have := eq_of_beq e; omega), Int.natAbs_natCast, Nat.log2_two_pow]
def spTreeA : Sp := fun vs H Q E => ∃ d, d ≤ 5 ∧ spTreeN (d + 1) vs H Q E
theorem pow7E : ∀ {m : Nat}, m ≤ 6 → ([.int 1, .int 2, .int 4, .int 8, .int 16, .int 32, .int 64] : List V)[m]? = some (.int ((2 ^ m : Nat) : Int))
  | 0, _ => rfl
  | 1, _ => rfl
  | 2, _ => rfl
  | 3, _ => rfl
  | 4, _ => rfl
  | 5, _ => rfl
  | 6, _ => rfl
  | n + 7, h => absurd h (by omega)
theorem cut1 {ns : List Str} (h : 0 < ns.length) : cutV (ns.map V.str) none (some 1) = (ns.take 1).map V.str := by
  rw [show (some (1 : Int)) = some ((1 : Nat) : Int) from rfl, cutV_head (by rw [List.length_map]; omega), List.map_take]
theorem sum_le30 : ∀ {l : List Str}, (∀ x ∈ l, x.length ≤ 30) → (l.map (·.length)).sum ≤ 30 * l.length
  | [], _ => Nat.le_refl _
  | x :: l, h => by
    have h1 := h x List.mem_cons_self
    have h2 := sum_le30 fun y hy => h y (List.mem_cons_of_mem _ hy)
    rw [List.map_cons, List.sum_cons, List.length_cons]; omega
theorem mem_sum : ∀ {l : List Str} {x : Str}, x ∈ l → x.length ≤ (l.map (·.length)).sum
  | y :: l, x, h => by
    rw [List.map_cons, List.sum_cons]
    rcases List.mem_cons.mp h with z | z
    · rw [z]; omega
    · have := mem_sum z; omega
theorem dup1 {ns : List Str} (h : 0 < ns.length) : ¬ (ns ++ ns.take 1).Nodup := by
  cases ns with
  | nil => cases h
  | cons x l =>
    intro d
    have := (List.nodup_append.mp d).2.2 x List.mem_cons_self x (by simp)
    exact this rfl
theorem Px.toEx {p a : Addr} {H H' : Hp} (x : Px p a H H') {b : Addr} {o : HO} (n : b ≠ p) (h : H b = some o) : H' b = some o := x.at_ (by rw [hid_ne n]; exact h)
section
variable {P : Program} {w : World} {K : PySem.W.Frag} {mg : Str → Option Value} {base : Heap}
theorem fn_law_treeA {f : Addr} {fd : FuncData} (h : ∀ n, FnOk P w K mg base CX0 (n + 2) f fd ["pool", "deep", "names"] (spTreeN n)) : FnOk P w K mg base CX0 8 f fd ["pool", "deep", "names"] spTreeA :=
  ⟨fun vs H Q E z => by obtain ⟨d, _, z⟩ := z; exact (h (d + 1)).len vs H Q E z, fun A outer s H args us vs Q E hr he hb hv z => by
    obtain ⟨d, hd, z⟩ := z
    exact ((h (d + 1)).mono (show d + 1 + 2 ≤ 8 by omega)).run A outer s H args us vs Q E hr he hb hv z⟩
def spLaw (K : PySem.W.Frag) : Sp := fun vs H Q _ => ∃ (a : Addr) (ns : List Int), vs = [.ref a] ∧ SqL K H a (ns.map V.int) ∧ ns.length ≤ 63 ∧ ∀ H', Q (.bl true) H'
def spInputs : Sp := fun vs H Q _ => ∃ (t : Addr) (bs : List Bool) (m : Nat), vs = [.ref t] ∧ H t = some (.tup (bs.map V.bl)) ∧ bs.length = 2 ^ m ∧ Q (.int m) H
theorem sc_inputs_of : FnScope ["table"] ["table"] (defScope s_inputs_of) := ⟨rfl, rfl, rfl, by decide +kernel, rfl, by decide +kernel, by decide +kernel⟩
theorem ok_inputs_of (D : Dfd K mg "inputs_of" s_inputs_of ["table"]) (T : TxtW mg) : Has P w K mg base 1 "inputs_of" ["table"] spInputs := by
  refine D.has fun f fd F => F.ok sc_inputs_of (fun vs H Q E h => ?_) (fun cdv A outer s H vs Q E hr h => ?_)
  · obtain ⟨t, bs, m, rfl, _⟩ := h
    rfl
  · obtain ⟨t, bs, m, rfl, ht, hl, q⟩ := h
    refine ⟨_, (pss_one (ps_ret (pe_op op_sub (pe_bits (pe_callB call_len_seq (by rfl) T.len (by decide +kernel) (pa_cons (pv 0) pa_nil))) pe_int))), ?_⟩
    refine ⟨_, rfl, _, _, rfl, .inr (SqT.of ht), _, rfl, _, _, rfl, rfl, ?_⟩
    have e : ((Builtin.Int.intBits (((bs.map V.bl).length : Nat) : Int) : Nat) : Int) - 1 = (m : Int) := by
      rw [List.length_map, hl, bits_pow]; omega
    show Q (.int _) H
    rw [e]
    exact q
theorem bits_at {i m k : Nat} (h : k < m) : (bitsOf i m)[k]? = some (i.testBit k) := by
  unfold bitsOf
  rw [List.getElem?_map, List.getElem?_range h]; rfl
theorem col_bits {i m : Nat} (h : i < 2 ^ m) : colN (fun k => (bitsOf i m).getD k false) m = i := by
  refine Nat.eq_of_testBit_eq fun r => ?_
  rw [colN_bit]
  by_cases hr : r < m
  · rw [decide_eq_true hr, List.getD_eq_getElem?_getD, bits_at hr]; rfl
  · rw [decide_eq_false hr]
    rw [Nat.testBit_lt_two_pow (Nat.lt_of_lt_of_le h (Nat.pow_le_pow_right (by decide) (Nat.le_of_not_lt hr)))]; rfl
theorem bits_len (i m : Nat) : (bitsOf i m).length = m := by unfold bitsOf; rw [List.length_map, List.length_range]
theorem rep_tb {H : Hp} {a : Addr} {bs : List Bool} (h : H a = some (.tup (bs.map V.bl))) : Rep H (.ref a) (.tup (bs.map D.bl)) := by
  have := rep_map (H := H) (f := V.bl) (g := D.bl) (l := bs) fun x => .bl _
  exact .tup h this.1 this.2
theorem okD_tb {bs : List Bool} (h : bs.length ≤ 1000) : okD 1 (.tup (bs.map D.bl)) := ⟨by rw [List.length_map]; omega, fun d hd => by obtain ⟨z, _, rfl⟩ := List.mem_map.mp hd; trivial⟩
theorem sc_law : FnScope ["script", "pool", "turn", "names", "tree", "many", "due", "index", "known", "bits", "k", "table", "more", "wrong", "away"] ["script"] (defScope s_law) := ⟨rfl, rfl, rfl, by decide +kernel, rfl, by decide +kernel, by decide +kernel⟩
theorem fn_law {B U : Addr} {f : Addr} {fd : FuncData} (F : Fun K "law" "law" s_law f fd) (T : TxtW mg)
    (C1 : Has P w K mg base 1 "_law_pool" ["script"] (spPool K)) (C2 : Has P w K mg base 2 "_law_draw" ["pool", "many"] spDrawX) (C3 : Has P w K mg base 4 "_law_different" ["pool", "many"] spDiff) (C4 : Has P w K mg base 8 "_law_tree" ["pool", "deep", "names"] spTreeA)
    (C5 : Has P w K mg base 1 "_law_bits" ["index", "many"] spBits) (C6 : Has P w K mg base 8 "_law_eval" ["tree", "known"] (spEval 6)) (C7 : HasX P w K mg base 4 "table_of" ["tree", "names"] (spTable (K := K) B U)) (C8 : Has P w K mg base 1 "inputs_of" ["table"] spInputs)
    (C9 : Has P w K mg base 2 "_law_same" ["actual", "due"] (spSame 2)) (C10 : Has P w K mg base 1 "look_up" ["table", "bits"] spLookT) (C11 : Has P w K mg base 5 "_law_told" ["tree", "names"] (spTold (K := K))) : FnOk P w K mg base CX0 9 f fd ["script"] (spLaw K) := by
  obtain ⟨f_law_pool, d_law_pool, G_law_pool, g_law_pool, k_law_pool, b_law_pool⟩ := C1
  obtain ⟨f_law_draw, d_law_draw, G_law_draw, g_law_draw, k_law_draw, b_law_draw⟩ := C2
  obtain ⟨f_law_different, d_law_different, G_law_different, g_law_different, k_law_different, b_law_different⟩ := C3
  obtain ⟨f_law_tree, d_law_tree, G_law_tree, g_law_tree, k_law_tree, b_law_tree⟩ := C4
  obtain ⟨f_law_bits, d_law_bits, G_law_bits, g_law_bits, k_law_bits, b_law_bits⟩ := C5
  obtain ⟨f_law_eval, d_law_eval, G_law_eval, g_law_eval, k_law_eval, b_law_eval⟩ := C6
  obtain ⟨f_table_of, d_table_of, G_table_of, g_table_of, k_table_of, b_table_of⟩ := C7
  obtain ⟨f_inputs_of, d_inputs_of, G_inputs_of, g_inputs_of, k_inputs_of, b_inputs_of⟩ := C8
  obtain ⟨f_law_same, d_law_same, G_law_same, g_law_same, k_law_same, b_law_same⟩ := C9
  obtain ⟨f_look_up, d_look_up, G_look_up, g_look_up, k_look_up, b_look_up⟩ := C10
  obtain ⟨f_law_told, d_law_told, G_law_told, g_law_told, k_law_told, b_law_told⟩ := C11
  refine F.ok sc_law (fun vs H Q E h => ?_) (fun cdv A outer s H vs Q E hr h => ?_)
  · obtain ⟨a, ns, rfl, _⟩ := h
    rfl
  · obtain ⟨sa, ss, rfl, hs, hn, q⟩ := h
    refine ⟨_, (pss_cons (ps_set (i := 1) sc_law.nd rfl (.inl rfl) (pe_call G_law_pool (hr.mono (by omega)) (by rfl) g_law_pool k_law_pool b_law_pool .nil pass0 (pa_cons (pv 0) pa_nil)))
    (pss_cons (ps_for PassesOwn.never rfl (pi_range1 rfl T.range (pa_cons pe_int pa_nil)) (pg_name (i := 2) sc_law.nd rfl (.inl rfl))
      (pss_cons (ps_set (i := 3) sc_law.nd rfl (.inl rfl) (pe_call G_law_different (hr.mono (by omega)) (by rfl) g_law_different k_law_different b_law_different .nil pass0 (pa_cons (pv 1) (pa_cons (pe_op op_add pe_int (pe_call G_law_draw (hr.mono (by omega)) (by rfl) g_law_draw k_law_draw b_law_draw .nil pass0 (pa_cons (pv 1) (pa_cons pe_int pa_nil)))) pa_nil))))
      (pss_cons (ps_set (i := 4) sc_law.nd rfl (.inl rfl) (pe_call G_law_tree (hr.mono (by omega)) (by rfl) g_law_tree k_law_tree b_law_tree .nil pass0 (pa_cons (pv 1) (pa_cons (pe_call G_law_draw (hr.mono (by omega)) (by rfl) g_law_draw k_law_draw b_law_draw .nil pass0 (pa_cons (pv 1) (pa_cons pe_int pa_nil))) (pa_cons (pv 3) pa_nil)))))
      (pss_cons (ps_set (i := 5) sc_law.nd rfl (.inl rfl) (pe_callB call_len_seq (by rfl) T.len (by decide +kernel) (pa_cons (pv 3) pa_nil)))
      (pss_cons (ps_set (i := 6) sc_law.nd rfl (.inl rfl) (pe_lst pa_nil))
      (pss_cons (ps_for PassesOwn.never rfl (pi_range1 rfl T.range (pa_cons (pe_ix ix_list (pe_lst (pa_cons pe_int (pa_cons pe_int (pa_cons pe_int (pa_cons pe_int (pa_cons pe_int (pa_cons pe_int (pa_cons pe_int pa_nil)))))))) (pv 5) (fun _ _ => rfl)) pa_nil)) (pg_name (i := 7) sc_law.nd rfl (.inl rfl))
        (pss_cons (ps_set (i := 8) sc_law.nd rfl (.inl rfl) pe_dnewK)
        (pss_cons (ps_set (i := 9) sc_law.nd rfl (.inl rfl) (pe_call G_law_bits (hr.mono (by omega)) (by rfl) g_law_bits k_law_bits b_law_bits .nil pass0 (pa_cons (pv 7) (pa_cons (pv 5) pa_nil))))
        (pss_cons (ps_for PassesOwn.never rfl (pi_range1 rfl T.range (pa_cons (pv 5) pa_nil)) (pg_name (i := 10) sc_law.nd rfl (.inl rfl))
          (pss_one (ps_asg (pe_ix ix_tup (pv 9) (pv 10) (fun _ _ => rfl)) (pg_sub (pv 8) (pe_ix ix_list (pv 3) (pv 10) (fun _ _ => rfl)) (set_dict (hu_of hr))))))
        (pss_one (ps_expr (pe_bm PySem.F.plainAttrs_list PySem.F.slot_list_append PySem.F.type_list_append mt_append (pv 6) (pa_cons (pe_call G_law_eval (hr.mono (by omega)) (by rfl) g_law_eval k_law_eval b_law_eval .nil pass0 (pa_cons (pv 4) (pa_cons (pv 8) pa_nil))) pa_nil))))))))
      (pss_cons (ps_set (i := 11) sc_law.nd rfl (.inl rfl) (pe_call G_table_of (hr.mono (by omega)) (by rfl) g_table_of k_table_of b_table_of .nil passX0 (pa_cons (pv 4) (pa_cons (pe_callTy call_tuple_of (by rfl) T.tuple (by decide +kernel) (pa_cons (pv 3) pa_nil)) pa_nil))))
      (pss_cons (ps_if (PW.pt (pw_or (pt_not (pt_val (pe_call G_law_same (hr.mono (by omega)) (by rfl) g_law_same k_law_same b_law_same .nil pass0 (pa_cons (pv 11) (pa_cons (pe_callTy call_tuple_of (by rfl) T.tuple (by decide +kernel) (pa_cons (pv 6) pa_nil)) pa_nil))))) (pw_or1 (pt_not (pt_val (pe_call G_law_same (hr.mono (by omega)) (by rfl) g_law_same k_law_same b_law_same .nil pass0 (pa_cons (pe_call G_inputs_of (hr.mono (by omega)) (by rfl) g_inputs_of k_inputs_of b_inputs_of .nil pass0 (pa_cons (pv 11) pa_nil)) (pa_cons (pv 5) pa_nil))))))))
        (pss_one (ps_ret pe_bl))
        pss_nil)
      (pss_cons (ps_for PassesOwn.never rfl (pi_range1 rfl T.range (pa_cons (pe_callB call_len_seq (by rfl) T.len (by decide +kernel) (pa_cons (pv 6) pa_nil)) pa_nil)) (pg_name (i := 7) sc_law.nd rfl (.inl rfl))
        (pss_one (ps_if (pt_not (pt_val (pe_call G_law_same (hr.mono (by omega)) (by rfl) g_law_same k_law_same b_law_same .nil pass0 (pa_cons (pe_call G_look_up (hr.mono (by omega)) (by rfl) g_look_up k_look_up b_look_up .nil pass0 (pa_cons (pe_callTy call_tuple_of (by rfl) T.tuple (by decide +kernel) (pa_cons (pv 6) pa_nil)) (pa_cons (pe_call G_law_bits (hr.mono (by omega)) (by rfl) g_law_bits k_law_bits b_law_bits .nil pass0 (pa_cons (pv 7) (pa_cons (pv 5) pa_nil))) pa_nil))) (pa_cons (pe_ix ix_list (pv 6) (pv 7) (fun _ _ => rfl)) pa_nil)))))
          (pss_one (ps_ret pe_bl))
          pss_nil)))
      (pss_cons (ps_set (i := 12) sc_law.nd rfl (.inl rfl) (pe_call G_law_different (hr.mono (by omega)) (by rfl) g_law_different k_law_different b_law_different .nil pass0 (pa_cons (pv 1) (pa_cons pe_int pa_nil))))
      (pss_cons (ps_for PassesOwn.never rfl (pi_list (pe_lst (pa_cons (pe_callTy call_tuple_of (by rfl) T.tuple (by decide +kernel) (pa_cons (pe_op op_cat (pv 3) (pe_slice sl_list (pv 3) po_none (po_some pe_int))) pa_nil)) (pa_cons (pe_callTy call_tuple_of (by rfl) T.tuple (by decide +kernel) (pa_cons (pv 12) pa_nil)) (pa_cons (pe_callTy call_tuple_of (by rfl) T.tuple (by decide +kernel) (pa_cons (pe_op op_cat (pv 12) (pv 3)) pa_nil)) pa_nil))))) (pg_name (i := 13) sc_law.nd rfl (.inl rfl))
        (pss_one (ps_if (pt_cmpR op_ne (pe_call G_law_told (hr.mono (by omega)) (by rfl) g_law_told k_law_told b_law_told .nil pass0 (pa_cons (pv 4) (pa_cons (pv 13) pa_nil))) pe_int (nomark _))
          (pss_one (ps_ret pe_bl))
          pss_nil)))
      (pss_cons (ps_set (i := 14) sc_law.nd rfl (.inl rfl) (pe_tup (pa_cons pe_str (pa_cons (pv 4) (pa_cons (pe_tup (pa_cons pe_str (pa_cons (pe_op op_add_str (pe_join pe_str (pv 3)) pe_str) pa_nil))) pa_nil)))))
      (pss_one (ps_if (PW.pt (pw_or (pt_cmpR op_ne (pe_call G_law_told (hr.mono (by omega)) (by rfl) g_law_told k_law_told b_law_told .nil pass0 (pa_cons (pv 14) (pa_cons (pe_callTy call_tuple_of (by rfl) T.tuple (by decide +kernel) (pa_cons (pv 3) pa_nil)) pa_nil))) pe_int (nomark _)) (pw_or1 (pt_cmpR op_ne (pe_call G_law_told (hr.mono (by omega)) (by rfl) g_law_told k_law_told b_law_told .nil pass0 (pa_cons (pv 14) (pa_cons (pe_callTy call_tuple_of (by rfl) T.tuple (by decide +kernel) (pa_cons (pe_op op_cat (pv 3) (pe_slice sl_list (pv 3) po_none (po_some pe_int))) pa_nil)) pa_nil))) pe_int (nomark _)))))
        (pss_one (ps_ret pe_bl))
        pss_nil))))))))))))))
    (pss_one (ps_ret (pe_and (pe_call G_law_same (hr.mono (by omega)) (by rfl) g_law_same k_law_same b_law_same .nil pass0 (pa_cons (pe_call G_table_of (hr.mono (by omega)) (by rfl) g_table_of k_table_of b_table_of .nil passX0 (pa_cons (pe_tup (pa_cons pe_str (pa_cons pe_bl pa_nil))) (pa_cons (pe_tup pa_nil) pa_nil))) (pa_cons (pe_tup (pa_cons pe_bl pa_nil)) pa_nil))) (pe_one (pe_call G_law_same (hr.mono (by omega)) (by rfl) g_law_same k_law_same b_law_same .nil pass0 (pa_cons (pe_call G_inputs_of (hr.mono (by omega)) (by rfl) g_inputs_of k_inputs_of b_inputs_of .nil pass0 (pa_cons (pe_tup (pa_cons pe_bl pa_nil)) pa_nil)) (pa_cons pe_int pa_nil))))))))), ?_⟩
    refine ⟨_, rfl, sa, ss, rfl, hs, by omega, fun p a H0 hp _ _ => ?_⟩
    refine ⟨4, rfl, by decide, by decide, for_range (n := 4) (fun i σ H' => Px p a H0 H' ∧ ∃ y2 y3 y4 y5 y6 y7 y8 y9 y10 y11 y12 y13 y14 : Option V, σ = [some (.ref sa), some (.ref p), y2, y3, y4, y5, y6, y7, y8, y9, y10, y11, y12, y13, y14]) ⟨Px.refl hp, _, _, _, _, _, _, _, _, _, _, _, _, _, rfl⟩ ?_ ?_⟩
    · rintro turn σ H0a ht ⟨X0, y2, y3, y4, y5, y6, y7, y8, y9, y10, y11, y12, y13, y14, rfl⟩
      -- the names
      refine ⟨_, rfl, _, rfl, p, a, 6, rfl, by decide, by decide, X0.pool, fun nv H1 hnv X1 _ => ⟨_, _, rfl, rfl, p, a, 1 + nv, congrArg (fun z => [V.ref p, V.int z]) (by omega), by omega, X1.pool, fun L ns H2 X2 nL hL nd hl hx => ?_⟩⟩
      have X02 := X0.trans (X1.trans X2)
      have nLp : L ≠ p := (X1.pool.ne nL)
      have hLp : hid p H2 L = some (.lst (ns.map V.str)) := X2.seen nL hL
      -- the tree
      refine ⟨_, rfl, _, rfl, p, a, 6, rfl, by decide, by decide, X2.pool, fun td H3 htd X3 _ => ⟨_, rfl, td, by omega, p, a, L, ns, rfl, X3.pool, X3.get hLp, by omega, by omega, fun tv t H4 X4 hT lT gT mT => ?_⟩⟩
      have X04 := X02.trans (X3.trans X4)
      have hL4 : H4 L = some (.lst (ns.map V.str)) := X4.at_ (X3.get hLp)
      have hp6 : ns.length ≤ 6 := by omega
      have hp0 : 0 < ns.length := by omega
      have p64 : 2 ^ ns.length ≤ 64 := Nat.le_trans (Nat.pow_le_pow_right (by decide) hp6) (by decide)
      have lT' : t.post.length ≤ 64 := by
        have : 2 ^ (td + 1) ≤ 64 := Nat.le_trans (Nat.pow_le_pow_right (by decide) (by omega : td + 1 ≤ 6)) (by decide)
        omega
      refine ⟨_, rfl, _, _, rfl, .inl (SqL.of hL4), (by show 0 ≤ sizeLine; decide), fun DL nDL => ?_⟩
      have E5 : Ex H4 (upd H4 DL (.lst [])) := Ex.new nDL
      have hD5 : upd H4 DL (.lst []) DL = some (.lst []) := upd_same
      generalize upd H4 DL (.lst []) = H5 at *
      refine ⟨(by show 7 ≤ sizeLine; decide), fun l7 n7 => ?_⟩
      have E6 : Ex H5 (upd H5 l7 (.lst [.int 1, .int 2, .int 4, .int 8, .int 16, .int 32, .int 64])) := Ex.new n7
      have h76 : upd H5 l7 (.lst [.int 1, .int 2, .int 4, .int 8, .int 16, .int 32, .int 64]) l7 = some (.lst [.int 1, .int 2, .int 4, .int 8, .int 16, .int 32, .int 64]) := upd_same
      generalize upd H5 l7 (.lst [.int 1, .int 2, .int 4, .int 8, .int 16, .int 32, .int 64]) = H6 at *
      have E46 := E5.trans E6
      have i0 : (0 : Int) ≤ ((2 ^ ns.length : Nat) : Int) := Int.natCast_nonneg _
      have i64 : ((2 ^ ns.length : Nat) : Int) ≤ 64 := Int.ofNat_le.mpr p64
      have hnl : (((ns.map V.str).length : Nat) : Int) = ((ns.length : Nat) : Int) := by rw [List.length_map]
      refine ⟨_, rfl, _, _, _, _, rfl, rfl, SqL.of h76, at_of (j := ns.length) hnl (pow7E hp6), _, rfl, by omega, by omega, for_range (n := ((2 ^ ns.length : Nat) : Int).toNat)
        (fun i σ H' => Ex H4 H' ∧ H' DL = some (.lst (((List.range i).map fun r => t.ev (asg ns r)).map V.bl)) ∧ ∃ y7 y8 y9 y10 : Option V, σ = [some (.ref sa), some (.ref p), some (.int (0 + (turn : Int))), some (.ref L), some tv, some (.int (ns.length : Nat)), some (.ref DL), y7, y8, y9, y10, y11, y12, y13, y14])
        ⟨E46, E6 _ _ hD5, _, _, _, _, by rw [← hnl]; rfl⟩ ?_ ?_⟩
      · rintro i σ H7 hi ⟨E7, hD7, y7, y8, y9, y10, rfl⟩
        rw [Int.toNat_natCast] at hi
        refine fun Dk nDk => ⟨_, rfl, _, rfl, i, ns.length, congrArg (fun z => [V.int z, V.int (ns.length : Nat)]) (Int.zero_add _), by omega, fun bt H9 nbt E9 hbt => ?_⟩
        have nDk9 : H9 Dk = some (.dK []) := E9 _ _ upd_same
        have E79 : Ex H7 H9 := (Ex.new nDk).trans E9
        have hLq : ∀ {H' : Hp}, Ex H7 H' → H' L = some (.lst (ns.map V.str)) := fun e => e _ _ (E7 _ _ hL4)
        refine ⟨_, rfl, _, rfl, by omega, by omega, for_range (n := ((ns.length : Nat) : Int).toNat)
          (fun k σ H' => Ex H7 H' ∧ H' bt = some (.tup ((bitsOf i ns.length).map V.bl)) ∧ ∃ (es : List (Key × V)) (y10 : Option V), H' Dk = some (.dK es) ∧ es.length ≤ k ∧ (∀ x : Str, valV es (.inr x) = if x ∈ ns.take k then some (.bl (i.testBit (ns.idxOf x))) else none) ∧
            σ = [some (.ref sa), some (.ref p), some (.int (0 + (turn : Int))), some (.ref L), some tv, some (.int (ns.length : Nat)), some (.ref DL), some (.int (0 + (i : Int))), some (.ref Dk), some (.ref bt), y10, y11, y12, y13, y14])
          ⟨E79, hbt, [], _, nDk9, Nat.le_refl _, (fun x => by rw [List.take_zero]; rfl), rfl⟩ ?_ ?_⟩
        · rintro k σ H10 hk ⟨E10, hb10, es, z10, hk10, hel, hv, rfl⟩
          rw [Int.toNat_natCast] at hk
          obtain ⟨nm, hnk⟩ : ∃ nm, ns[k]? = some nm := ⟨_, List.getElem?_eq_getElem hk⟩
          have nbD : bt ≠ Dk := fun z => by rw [z, hk10] at hb10; cases hb10
          refine ⟨_, rfl, _, rfl, _, _, _, _, rfl, rfl, SqT.of hb10, at_of (j := k) (Int.zero_add _) (by rw [List.getElem?_map, bits_at hk]; rfl), _, rfl, _, rfl, _, rfl, _, _, _, _, rfl, rfl, SqL.of (hLq E10), at_of (j := k) (Int.zero_add _) (by rw [List.getElem?_map, hnk]; rfl), Dk, _, rfl, .inl ⟨es, .inr nm, hk10, rfl, sz_lt (by omega), rfl⟩, E10.mut nDk, (upd_ne nbD).trans hb10, _, _, upd_same, Nat.le_trans (length_putK _ _ _) (Nat.succ_le_succ hel), fun x => ?_, rfl⟩
          rw [valV_put, hv x, take_snoc1 hnk]
          have ej : ns.idxOf nm = k := by
            rw [← (List.getElem?_eq_some_iff.mp hnk).2]
            exact nd.idxOf_getElem k hk
          by_cases hx : x = nm
          · subst hx
            rw [if_pos rfl, ej]
            simp
          · rw [if_neg fun z => hx (Sum.inr.inj z)]
            simp [hx]
        · rintro σ H10 ⟨E10, hb10, es, z10, hk10, hel, hv, rfl⟩
          rw [Int.toNat_natCast, List.take_length] at hv
          have hD10 := E10 _ _ hD7
          refine ⟨_, rfl, .inl ⟨rfl, _, SqL.of hD10⟩, _, rfl, _, rfl, tv, t, Dk, es, asg ns i, rfl, hT.te (.of (E7.trans E10)), hk10, (fun x hx => by rw [hv x, if_pos (mT x hx)]; rfl), (show t.hgt ≤ 6 by omega), DL, _, _, rfl, rfl, hD10, sz_lt (by rw [List.length_map, List.length_map, List.length_range]; omega), (E7.trans E10).mut nDL, ?_, _, _, _, _, rfl⟩
          rw [upd_same, List.range_succ, List.map_append, List.map_append]; rfl
      · rintro σ H7 ⟨E7, hD7, y7, y8, y9, y10, rfl⟩
        rw [Int.toNat_natCast] at hD7
        have hD7 : H7 DL = some (.lst ((tabT ns t).map V.bl)) := hD7
        have tl : (tabT ns t).length = 2 ^ ns.length := by unfold tabT; rw [List.length_map, List.length_range]
        have hL7 := E7 _ _ hL4
        refine ⟨_, rfl, _, rfl, L, _, rfl, .inl ⟨SqL.of hL7, fun nt nnt => ?_⟩⟩
        have E8 : Ex H7 (upd H7 nt (.tup (ns.map V.str))) := Ex.new nnt
        have hnt : upd H7 nt (.tup (ns.map V.str)) nt = some (.tup (ns.map V.str)) := upd_same
        generalize upd H7 nt (.tup (ns.map V.str)) = H8 at *
        refine ⟨tv, t, nt, ns, ns, rfl, (hT.te (.of (E7.trans E8))).at_, SqT.of hnt, by omega, by omega, (fun x h => ⟨mT x h, by have := hx x (mT x h); omega⟩), by omega, (fun bad => absurd bad fun z => z.elim (fun y => absurd y (by omega)) fun y => y nd), (fun _ _ ⟨x, h1, h2⟩ => absurd (mT x h1) h2), fun _ _ _ tb H9 E9 htb => ?_⟩
        have E79 := E8.trans E9
        have hD9 := E79 _ _ hD7
        refine ⟨_, rfl, _, rfl, DL, _, rfl, .inl ⟨SqL.of hD9, fun dt ndt => ?_⟩⟩
        have E10 : Ex H9 (upd H9 dt (.tup ((tabT ns t).map V.bl))) := Ex.new ndt
        have hdt : upd H9 dt (.tup ((tabT ns t).map V.bl)) dt = some (.tup ((tabT ns t).map V.bl)) := upd_same
        generalize upd H9 dt (.tup ((tabT ns t).map V.bl)) = H10 at *
        refine ⟨.ref tb, .ref dt, .tup ((tabT ns t).map D.bl), rfl, rep_tb (E10 _ _ htb), rep_tb hdt, okD_tb (by omega), true, rfl, x0 rfl ?_⟩
        refine ⟨_, rfl, tb, tabT ns t, ns.length, rfl, E10 _ _ htb, tl, _, rfl, .int (ns.length : Nat), .int (ns.length : Nat), .int (ns.length : Nat), rfl, .int _, .int _, trivial, true, rfl, x0 rfl ?_⟩
        have E710 := E79.trans E10
        have hD10 := E710 _ _ hD7
        have htb10 := E10 _ _ htb
        have i2 : (0 : Int) ≤ (((tabT ns t).length : Nat) : Int) := Int.natCast_nonneg _
        have i3 : (((tabT ns t).length : Nat) : Int) ≤ 64 := by rw [tl]; exact i64
        have i4 : ((((tabT ns t).map V.bl).length : Nat) : Int) = (((tabT ns t).length : Nat) : Int) := by rw [List.length_map]
        refine ⟨_, rfl, _, _, rfl, .inl (SqL.of hD10), _, rfl, by omega, by omega, for_range (n := ((((tabT ns t).map V.bl).length : Nat) : Int).toNat)
          (fun i σ H' => Ex H10 H' ∧ ∃ y7 y8 y9 y10 : Option V, σ = [some (.ref sa), some (.ref p), some (.int (0 + (turn : Int))), some (.ref L), some tv, some (.int (ns.length : Nat)), some (.ref DL), y7, y8, y9, y10, some (.ref tb), y12, y13, y14])
          ⟨.refl _, _, _, _, _, rfl⟩ ?_ ?_⟩
        · rintro i σ H11 hi ⟨E11, z7, z8, z9, z10, rfl⟩
          rw [i4, Int.toNat_natCast, tl] at hi
          have hD11 := E11 _ _ hD10
          refine ⟨_, rfl, DL, _, rfl, .inl ⟨SqL.of hD11, fun dt2 nd2 => ?_⟩⟩
          have E12 : Ex H11 (upd H11 dt2 (.tup ((tabT ns t).map V.bl))) := Ex.new nd2
          have hdt2 : upd H11 dt2 (.tup ((tabT ns t).map V.bl)) dt2 = some (.tup ((tabT ns t).map V.bl)) := upd_same
          generalize upd H11 dt2 (.tup ((tabT ns t).map V.bl)) = H12 at *
          refine ⟨_, rfl, _, rfl, i, ns.length, congrArg (fun z => [V.int z, V.int (ns.length : Nat)]) (Int.zero_add _), by omega, fun bt H13 nbt E13 hbt => ?_⟩
          refine ⟨dt2, bt, tabT ns t, bitsOf i ns.length, rfl, E13 _ _ hdt2, hbt, by rw [bits_len]; omega, by rw [bits_len]; exact tl, fun H14 E14 => ?_⟩
          have E1014 := E11.trans (E12.trans (E13.trans E14))
          have hlt : i < (tabT ns t).length := by rw [tl]; exact hi
          have elk : lookT (tabT ns t) (bitsOf i ns.length) = (tabT ns t)[i] := by
            unfold lookT
            rw [bits_len, col_bits hi, List.getD_eq_getElem?_getD, List.getElem?_eq_getElem hlt]; rfl
          refine ⟨_, rfl, _, rfl, _, _, _, _, rfl, rfl, SqL.of (E1014 _ _ hD10), at_of (j := i) (Int.zero_add _) (by rw [List.getElem?_map, List.getElem?_eq_getElem hlt]; rfl), .bl _, .bl _, .bl (tabT ns t)[i], rfl, by rw [elk]; exact .bl _, .bl _, trivial, true, rfl, x0 rfl ⟨E1014, _, _, _, _, rfl⟩⟩
        · rintro σ H11 ⟨E11, z7, z8, z9, z10, rfl⟩
          have E411 : Ex H4 H11 := E7.trans (E710.trans E11)
          have X011 := X04.more E411
          have hLp11 : hid p H11 L = some (.lst (ns.map V.str)) := by
            rw [hid_ne nLp]; exact E411 _ _ hL4
          refine ⟨_, rfl, p, a, 7, rfl, by omega, X011.pool, fun M ms H12 X12 nM hM ndm hlm hxm => ?_⟩
          have hL12 : H12 L = some (.lst (ns.map V.str)) := X12.at_ hLp11
          have hT12 : TreeH H12 tv t := (hT.te (.of E411)).te (.px X12)
          have X012 := X011.trans X12
          have hl7 : ms.length = 7 := hlm
          have bl0 : ∀ {m n : Nat}, m ≤ 60 → n ≤ 60 → m + n ≤ sizeLine := fun h1 h2 => sz_of (by omega)
          -- the three wrong lists
          refine ⟨_, rfl, _, rfl, _, rfl, L, _, rfl, SqL.of hL12, fun c nc => ?_⟩
          rw [cut1 hp0]
          have F1 : Ex H12 (upd H12 c (.lst ((ns.take 1).map V.str))) := Ex.new nc
          have hc : upd H12 c (.lst ((ns.take 1).map V.str)) c = some (.lst ((ns.take 1).map V.str)) := upd_same
          generalize upd H12 c (.lst ((ns.take 1).map V.str)) = G1 at *
          refine ⟨L, c, _, _, rfl, rfl, F1 _ _ hL12, hc, bl0 (by rw [List.length_map]; omega) (by rw [List.length_map, List.length_take]; omega), fun e ne => ⟨e, _, rfl, .inl ⟨SqL.of upd_same, fun t1 nt1 => ?_⟩⟩⟩
          rw [← List.map_append] at nt1 ⊢
          have F2 : Ex G1 (upd (upd G1 e (.lst ((ns ++ ns.take 1).map V.str))) t1 (.tup ((ns ++ ns.take 1).map V.str))) := (Ex.new ne).trans (Ex.new nt1)
          have ht1 : upd (upd G1 e (.lst ((ns ++ ns.take 1).map V.str))) t1 (.tup ((ns ++ ns.take 1).map V.str)) t1 = some (.tup ((ns ++ ns.take 1).map V.str)) := upd_same
          generalize upd (upd G1 e (.lst ((ns ++ ns.take 1).map V.str))) t1 (.tup ((ns ++ ns.take 1).map V.str)) = G2 at *
          have F02 := F1.trans F2
          refine ⟨_, rfl, M, _, rfl, .inl ⟨SqL.of (F02 _ _ hM), fun t2 nt2 => ?_⟩⟩
          have F3 : Ex G2 (upd G2 t2 (.tup (ms.map V.str))) := Ex.new nt2
          have ht2 : upd G2 t2 (.tup (ms.map V.str)) t2 = some (.tup (ms.map V.str)) := upd_same
          generalize upd G2 t2 (.tup (ms.map V.str)) = G3 at *
          have F03 := F02.trans F3
          refine ⟨_, rfl, _, rfl, M, L, _, _, rfl, rfl, F03 _ _ hM, F03 _ _ hL12, bl0 (by rw [List.length_map]; omega) (by rw [List.length_map]; omega), fun e2 ne2 => ⟨e2, _, rfl, .inl ⟨SqL.of upd_same, fun t3 nt3 => ?_⟩⟩⟩
          rw [← List.map_append] at nt3 ⊢
          have F4 : Ex G3 (upd (upd G3 e2 (.lst ((ms ++ ns).map V.str))) t3 (.tup ((ms ++ ns).map V.str))) := (Ex.new ne2).trans (Ex.new nt3)
          have ht3 : upd (upd G3 e2 (.lst ((ms ++ ns).map V.str))) t3 (.tup ((ms ++ ns).map V.str)) t3 = some (.tup ((ms ++ ns).map V.str)) := upd_same
          generalize upd (upd G3 e2 (.lst ((ms ++ ns).map V.str))) t3 (.tup ((ms ++ ns).map V.str)) = G4 at *
          have F04 := F03.trans F4
          refine ⟨(by show 3 ≤ sizeLine; decide), fun W nW => ⟨W, rfl, ⟨_, SqL.of upd_same⟩, for_list (K := K) (a := W) (xs := [.ref t1, .ref t2, .ref t3])
            (fun j σ H' => Ex (upd G4 W (.lst [.ref t1, .ref t2, .ref t3])) H' ∧ ∃ y13 : Option V, σ = [some (.ref sa), some (.ref p), some (.int (0 + (turn : Int))), some (.ref L), some tv, some (.int (ns.length : Nat)), some (.ref DL), z7, z8, z9, z10, some (.ref tb), some (.ref M), y13, y14])
            ⟨.refl _, _, rfl⟩ (fun j σ H' _ g => SqL.of (g.1 _ _ upd_same)) ?_ ?_⟩⟩
          · rintro j z σ H13 hz ⟨E13, y13, rfl⟩
            have EG : Ex G4 H13 := (Ex.new nW).trans E13
            obtain ⟨ti, ws, rfl, hti, hwl, bad⟩ : ∃ (ti : Addr) (ws : List Str), z = V.ref ti ∧ G4 ti = some (.tup (ws.map V.str)) ∧ ws.length ≤ 60 ∧ (6 < ws.length ∨ ¬ ws.Nodup) := by
              match j, hz with
              | 0, hz => cases hz; exact ⟨t1, _, rfl, (F3.trans F4) _ _ ht1, by rw [List.length_append, List.length_take]; omega, .inr (dup1 hp0)⟩
              | 1, hz => cases hz; exact ⟨t2, _, rfl, F4 _ _ ht2, by omega, .inl (by omega)⟩
              | 2, hz => cases hz; exact ⟨t3, _, rfl, ht3, by rw [List.length_append]; omega, .inl (by rw [List.length_append]; omega)⟩
            refine ⟨_, rfl, _, rfl, tv, t, ti, ws, ns, rfl, (hT12.te (.of (F04.trans EG))).at_, SqT.of (EG _ _ hti), hwl, by omega, (fun x h => ⟨mT x h, by have := hx x (mT x h); omega⟩), by omega, .inl ⟨bad, fun H14 E14 => ⟨rfl, _, rfl, x0 rfl ⟨E13.trans E14, _, rfl⟩⟩⟩⟩
          · rintro σ H13 ⟨E13, y13, rfl⟩
            have EG : Ex H12 H13 := F04.trans ((Ex.new nW).trans E13)
            have hL13 := EG _ _ hL12
            have hT13 := hT12.te (.of EG)
            have hsum := sum_le30 hx
            have hsl : (Txt.join "" ns).length ≤ 4 * ((ns.map (·.length)).sum + ns.length + 1) := len_join_le (show (ns.map (·.length)).sum + ns.length ≤ _ + 1 by omega) (by decide +kernel)
            have u1 : ("_" : Str).length = 1 := rfl
            have app1 : ∀ (x y : Str), (x ++ y).length = x.length + y.length := fun x y => by rw [len_tl, tl_append, List.length_append, ← len_tl, ← len_tl]
            have u0 : ("" : Str).length = 0 := rfl
            have hge : (ns.map (·.length)).sum ≤ (Txt.join "" ns).length := len_join_ge_sum _ _
            refine ⟨_, rfl, ⟨_, rfl⟩, _, rfl, _, L, ns, rfl, rfl, .inl (SqL.of hL13), by rw [u0]; omega, _, _, rfl, rfl, sz_of (by omega), (by show 2 ≤ sizeLine; decide), fun a2 na2 => ⟨(by show 3 ≤ sizeLine; decide), fun a1 na1 => ?_⟩⟩
            have hz : (Txt.join "" ns ++ "_" : Str).length = (Txt.join "" ns).length + 1 := by rw [app1, u1]
            generalize (Txt.join "" ns ++ "_" : Str) = zn at *
            have hno : zn ∉ ns := fun z => by have := mem_sum z; omega
            have A1 : Ex H13 (upd (upd H13 a2 (.tup [.str "name", .str zn])) a1 (.tup [.str "or", tv, .ref a2])) := (Ex.new na2).trans (Ex.new na1)
            have ha1 : upd (upd H13 a2 (.tup [.str "name", .str zn])) a1 (.tup [.str "or", tv, .ref a2]) a1 = some (.tup [.str "or", tv, .ref a2]) := upd_same
            have ha2 : upd (upd H13 a2 (.tup [.str "name", .str zn])) a1 (.tup [.str "or", tv, .ref a2]) a2 = some (.tup [.str "name", .str zn]) := (Ex.new na1) _ _ upd_same
            generalize upd (upd H13 a2 (.tup [.str "name", .str zn])) a1 (.tup [.str "or", tv, .ref a2]) = H14 at *
            have hL14 := A1 _ _ hL13
            have hT14 : TreeH H14 (.ref a1) (.bin .or t (.name zn)) := ⟨a1, tv, .ref a2, rfl, ha1, hT13.te (.of A1), a2, rfl, ha2⟩
            have hpost : (Tr.bin .or t (.name zn)).post.length ≤ 10000 := by
              show (t.post ++ [_] ++ [_]).length ≤ _
              rw [List.length_append, List.length_append, List.length_singleton, List.length_singleton]; omega
            have hnames : ∀ x, Tr.name x ∈ (Tr.bin .or t (.name zn)).post → x ∈ zn :: ns ∧ x.length ≤ 1000 := fun x h => by
              rcases List.mem_append.mp (show _ ∈ t.post ++ [Tr.name zn] ++ [_] from h) with z | z
              · rcases List.mem_append.mp z with z | z
                · have := hx x (mT x z)
                  exact ⟨List.mem_cons_of_mem _ (mT x z), by omega⟩
                · cases List.mem_singleton.mp z
                  exact ⟨List.mem_cons_self, by omega⟩
              · cases List.mem_singleton.mp z
            have hin : Tr.name zn ∈ (Tr.bin .or t (.name zn)).post := by
              show _ ∈ t.post ++ [Tr.name zn] ++ [_]
              simp
            refine ⟨_, rfl, _, rfl, L, _, rfl, .inl ⟨SqL.of hL14, fun t4 n4 => ?_⟩⟩
            have A2 : Ex H14 (upd H14 t4 (.tup (ns.map V.str))) := Ex.new n4
            have ht4 : upd H14 t4 (.tup (ns.map V.str)) t4 = some (.tup (ns.map V.str)) := upd_same
            generalize upd H14 t4 (.tup (ns.map V.str)) = H15 at *
            refine ⟨.ref a1, _, t4, ns, zn :: ns, rfl, (hT14.te (.of A2)).at_, SqT.of ht4, by omega, hpost, hnames, by rw [List.length_cons]; omega, .inr ⟨hp6, nd, ⟨zn, hin, hno⟩, fun H16 A3 => ?_⟩⟩
            have A13 := A2.trans A3
            refine ⟨rfl, _, rfl, x0 rfl ?_⟩
            have hL16 := A13 _ _ hL14
            refine ⟨_, rfl, _, rfl, _, rfl, _, rfl, L, _, rfl, SqL.of hL16, fun c2 nc2 => ?_⟩
            rw [cut1 hp0]
            have B1 : Ex H16 (upd H16 c2 (.lst ((ns.take 1).map V.str))) := Ex.new nc2
            have hc2 : upd H16 c2 (.lst ((ns.take 1).map V.str)) c2 = some (.lst ((ns.take 1).map V.str)) := upd_same
            generalize upd H16 c2 (.lst ((ns.take 1).map V.str)) = J1 at *
            refine ⟨L, c2, _, _, rfl, rfl, B1 _ _ hL16, hc2, bl0 (by rw [List.length_map]; omega) (by rw [List.length_map, List.length_take]; omega), fun e3 ne3 => ⟨e3, _, rfl, .inl ⟨SqL.of upd_same, fun t5 nt5 => ?_⟩⟩⟩
            rw [← List.map_append] at nt5 ⊢
            have B2 : Ex J1 (upd (upd J1 e3 (.lst ((ns ++ ns.take 1).map V.str))) t5 (.tup ((ns ++ ns.take 1).map V.str))) := (Ex.new ne3).trans (Ex.new nt5)
            have ht5 : upd (upd J1 e3 (.lst ((ns ++ ns.take 1).map V.str))) t5 (.tup ((ns ++ ns.take 1).map V.str)) t5 = some (.tup ((ns ++ ns.take 1).map V.str)) := upd_same
            generalize upd (upd J1 e3 (.lst ((ns ++ ns.take 1).map V.str))) t5 (.tup ((ns ++ ns.take 1).map V.str)) = J2 at *
            have B02 := B1.trans B2
            refine ⟨.ref a1, _, t5, ns ++ ns.take 1, zn :: ns, rfl, (hT14.te (.of (A13.trans B02))).at_, SqT.of ht5, by rw [List.length_append, List.length_take]; omega, hpost, hnames, by rw [List.length_cons]; omega, .inl ⟨.inr (dup1 hp0), fun J3 B3 => ⟨rfl, _, rfl, x0 rfl ?_⟩⟩⟩
            exact ⟨X012.more (EG.trans (A1.trans (A13.trans (B02.trans B3)))), _, _, _, _, _, _, _, _, _, _, _, _, _, rfl⟩
    · rintro σ H1 ⟨X0, y2, y3, y4, y5, y6, y7, y8, y9, y10, y11, y12, y13, y14, rfl⟩
      refine ⟨(by show 2 ≤ sizeLine; decide), fun c nc => ⟨(by show 0 ≤ sizeLine; decide), fun e ne => ?_⟩⟩
      have hc : upd (upd H1 c (.tup [.str "const", .bl true])) e (.tup []) c = some (.tup [.str "const", .bl true]) := (Ex.new ne) _ _ upd_same
      refine ⟨.ref c, .const true, e, [], [], rfl, ⟨c, rfl, SqT.of hc⟩, SqT.of upd_same, by decide, (by show 1 ≤ 10000; decide), (fun x h => by simp [Tr.post] at h), by decide, (fun bad => absurd bad fun z => z.elim (fun y => absurd y (by decide)) fun y => y List.nodup_nil), (fun _ _ ⟨x, h1, _⟩ => by simp [Tr.post] at h1), fun _ _ _ tb H2 E2 htb => ?_⟩
      refine ⟨(by show 1 ≤ sizeLine; decide), fun u nu => ⟨.ref tb, .ref u, .tup ([true].map D.bl), rfl, rep_tb (bs := [true]) ((Ex.new nu) _ _ htb), rep_tb (bs := [true]) upd_same, okD_tb (by decide), true, rfl, x1 rfl ?_⟩⟩
      refine ⟨(by show 1 ≤ sizeLine; decide), fun u2 nu2 => ⟨u2, [false], 0, rfl, upd_same, rfl, .int 0, .int 0, .int 0, rfl, .int _, .int _, trivial, q _⟩⟩
end
end G
namespace G
open PySem PySem.Spec PyProof.Rows L2
/-- the defs and the built-in names as the top has left them -/
structure All (K : PySem.W.Frag) (mg : Str → Option Value) : Prop where
  d_names_in : Dfd K mg "names_in" s_names_in ["tree"]
  d_operands : Dfd K mg "operands" s_operands ["tree"]
  d_postorder : Dfd K mg "postorder" s_postorder ["tree"]
  d_table_of : Dfd K mg "table_of" s_table_of ["tree", "names"]
  d_inputs_of : Dfd K mg "inputs_of" s_inputs_of ["table"]
  d_look_up : Dfd K mg "look_up" s_look_up ["table", "bits"]
  d_mask : Dfd K mg "_mask" s_mask ["tree", "names", "rows"]
  d_column : Dfd K mg "_column" s_column ["k", "rows"]
  d_combined : Dfd K mg "_combined" s_combined ["kind", "left", "right"]
  d_law_pool : Dfd K mg "_law_pool" s_law_pool ["script"]
  d_law_spread : Dfd K mg "_law_spread" s_law_spread ["cell"]
  d_law_draw : Dfd K mg "_law_draw" s_law_draw ["pool", "many"]
  d_law_same : Dfd K mg "_law_same" s_law_same ["actual", "due"]
  d_law_word : Dfd K mg "_law_word" s_law_word ["pool"]
  d_law_tree : Dfd K mg "_law_tree" s_law_tree ["pool", "deep", "names"]
  d_law_eval : Dfd K mg "_law_eval" s_law_eval ["tree", "known"]
  d_law_bits : Dfd K mg "_law_bits" s_law_bits ["index", "many"]
  d_law_told : Dfd K mg "_law_told" s_law_told ["tree", "names"]
  d_law_different : Dfd K mg "_law_different" s_law_different ["pool", "many"]
  z_sorted : mg "sorted" = none
  z_len : mg "len" = none
  z_set : mg "set" = none
  z_tuple : mg "tuple" = none
  z_range : mg "range" = none
  z_sum : mg "sum" = none
  z_enumerate : mg "enumerate" = none
  z_int : mg "int" = none
  z_list : mg "list" = none
  z_isinstance : mg "isinstance" = none
  z_bool : mg "bool" = none
  z_str : mg "str" = none
  z_ValueError : mg "ValueError" = none
  c_MOST_INPUTS : ∃ t, mg "MOST_INPUTS" = some (.int 6 t)
  i_BadArgument : ∃ C : Addr, ExcI K mg "BadArgument" C ∧ IsK K mg C "UnknownName" false ∧ IsK K mg C "DeckError" false ∧ IsK K mg C "BadArgument" true ∧ CatchK K mg C "SignoffError"
  i_UnknownName : ∃ C : Addr, ExcI K mg "UnknownName" C ∧ IsK K mg C "UnknownName" true ∧ IsK K mg C "DeckError" true ∧ IsK K mg C "BadArgument" false ∧ CatchK K mg C "SignoffError"
end G
namespace G
open PySem PySem.Spec PyProof.Rows L2
theorem glue {P : Program} {w : World} {K : PySem.W.Frag} {mg : Str → Option Value} {base : Heap} (A : All K mg) {f : Addr} {fd : FuncData} (F : Fun K "law" "law" s_law f fd) : FnOk P w K mg base CX0 9 f fd ["script"] (spLaw K) := by
  have TL : TxtL mg := ⟨A.z_int, A.z_len, A.z_list, A.z_range⟩
  have TS : TxtS mg := ⟨A.z_isinstance, A.z_tuple, A.z_list, A.z_len, A.z_range, A.z_bool, A.z_int, A.z_str⟩
  have TE : TxtE mg := ⟨A.z_len, A.z_range, A.z_enumerate, A.z_sum, A.z_tuple, A.z_set, A.z_sorted⟩
  have TW : TxtW mg := ⟨A.z_len, A.z_range, A.z_tuple, A.z_int, A.z_isinstance⟩
  obtain ⟨B, UB, bu, bd, bb, b4⟩ := A.i_BadArgument
  obtain ⟨U, UU, uu, ud, ub, u4⟩ := A.i_UnknownName
  obtain ⟨S, gS, hS⟩ := id b4
  obtain ⟨D, gD, hD⟩ := id bd
  have hd := drawX (P := P) (w := w) (base := base) (ok_law_draw A.d_law_draw TL (ok_law_spread A.d_law_spread TL))
  have hb := ok_law_bits (P := P) (w := w) (base := base) A.d_law_bits TS
  have hp := ok_postorder (P := P) (w := w) (base := base) A.d_postorder (ok_operands A.d_operands)
  have ht := ok_table_of A.d_table_of UB.u UU.u TE A.c_MOST_INPUTS (ok_names_in A.d_names_in TE hp) (ok_mask A.d_mask TE (ok_column A.d_column TE) (ok_combined A.d_combined) hp)
  obtain ⟨ff, df, Ff, gf, bf⟩ := A.d_law_tree
  obtain ⟨fe, de, Fe, ge, be⟩ := A.d_law_eval
  exact fn_law F TW (ok_law_pool A.d_law_pool TL) hd (ok_law_different A.d_law_different TW (ok_law_word A.d_law_word TW hd)) ⟨ff, df, fn_law_treeA (fn_law_tree Ff gf bf TW hd), gf, Ff.kp, bf⟩
    hb ⟨fe, de, fn_law_eval Fe ge be 6, ge, Fe.kp, be⟩ ht (ok_inputs_of A.d_inputs_of TW) (ok_law_same A.d_law_same TS 2) (ok_look_upT A.d_look_up TE)
    (ok_law_told A.d_law_told TW UU.u.gC gD UB.u.gC gS UB.isc UU.isc (bu.at_ UU.u.gC) (bb.at_ UB.u.gC) (bd.at_ gD) (uu.at_ UU.u.gC) (ub.at_ UB.u.gC) (ud.at_ gD) hS (u4.at_ gS) ht)
end G
namespace G
open PySem PySem.Spec PyProof.Rows L2
theorem all_mk {l : PySem.W.OpenLaw} {w : World} {K : PySem.W.Frag} {h : Heap} {mg : Str → Option Value} {fa f0 f1 f2 f3 f4 f5 f6 f7 f8 f9 f10 f11 f12 f13 f14 f15 f16 f17 f18 f19 : Addr} (X : K.In h) (G : h.Ns mainGlobals mg) (hfa : mg "law" = some (.ref fa))
    {od0 an0 od1 an1 od2 an2 od3 an3 od4 an4 od5 an5 od6 an6 od7 an7 od8 an8 od9 an9 od10 an10 od11 an11 od12 an12 od13 an13 od14 an14 od15 an15 od16 an16 od17 an17 od18 an18 od19 an19 : Option Addr} {sl0 sl1 sl2 sl3 sl4 sl5 sl6 sl7 sl8 sl9 sl10 sl11 sl12 sl13 sl14 sl15 sl16 sl17 sl18 sl19 : Array (Option Value)} {oc0 kv0 dc0 pm0 cd0 ct0 oc1 kv1 dc1 pm1 cd1 ct1 oc2 kv2 dc2 pm2 cd2 ct2 oc3 kv3 dc3 pm3 cd3 ct3 oc4 kv4 dc4 pm4 cd4 ct4 oc5 kv5 dc5 pm5 cd5 ct5 oc6 kv6 dc6 pm6 cd6 ct6 oc7 kv7 dc7 pm7 cd7 ct7 oc8 kv8 dc8 pm8 cd8 ct8 oc9 kv9 dc9 pm9 cd9 ct9 oc10 kv10 dc10 pm10 cd10 ct10 oc11 kv11 dc11 pm11 cd11 ct11 oc12 kv12 dc12 pm12 cd12 ct12 oc13 kv13 dc13 pm13 cd13 ct13 oc14 kv14 dc14 pm14 cd14 ct14 oc15 kv15 dc15 pm15 cd15 ct15 oc16 kv16 dc16 pm16 cd16 ct16 oc17 kv17 dc17 pm17 cd17 ct17 oc18 kv18 dc18 pm18 cd18 ct18 oc19 kv19 dc19 pm19 cd19 ct19 : Value}
    (a0 : PySem.W.nsIn K mainGlobals "names_in" = some (some (.ref f0))) (l0 : K.lookup f0 = some ⟨oc0, od0, .func (PySem.W.fnOf "names_in" "names_in" (defArgs s_names_in) (defBody s_names_in) (defScope s_names_in) .none kv0 dc0 pm0 an0 cd0 ct0), sl0⟩) (c0 : PySem.W.codeIn K cd0 "names_in" = true) (k0 : PySem.W.keepIn K (.ref f0) = true)
    (a1 : PySem.W.nsIn K mainGlobals "operands" = some (some (.ref f1))) (l1 : K.lookup f1 = some ⟨oc1, od1, .func (PySem.W.fnOf "operands" "operands" (defArgs s_operands) (defBody s_operands) (defScope s_operands) .none kv1 dc1 pm1 an1 cd1 ct1), sl1⟩) (c1 : PySem.W.codeIn K cd1 "operands" = true) (k1 : PySem.W.keepIn K (.ref f1) = true)
    (a2 : PySem.W.nsIn K mainGlobals "postorder" = some (some (.ref f2))) (l2 : K.lookup f2 = some ⟨oc2, od2, .func (PySem.W.fnOf "postorder" "postorder" (defArgs s_postorder) (defBody s_postorder) (defScope s_postorder) .none kv2 dc2 pm2 an2 cd2 ct2), sl2⟩) (c2 : PySem.W.codeIn K cd2 "postorder" = true) (k2 : PySem.W.keepIn K (.ref f2) = true)
    (a3 : PySem.W.nsIn K mainGlobals "table_of" = some (some (.ref f3))) (l3 : K.lookup f3 = some ⟨oc3, od3, .func (PySem.W.fnOf "table_of" "table_of" (defArgs s_table_of) (defBody s_table_of) (defScope s_table_of) .none kv3 dc3 pm3 an3 cd3 ct3), sl3⟩) (c3 : PySem.W.codeIn K cd3 "table_of" = true) (k3 : PySem.W.keepIn K (.ref f3) = true)
    (a4 : PySem.W.nsIn K mainGlobals "inputs_of" = some (some (.ref f4))) (l4 : K.lookup f4 = some ⟨oc4, od4, .func (PySem.W.fnOf "inputs_of" "inputs_of" (defArgs s_inputs_of) (defBody s_inputs_of) (defScope s_inputs_of) .none kv4 dc4 pm4 an4 cd4 ct4), sl4⟩) (c4 : PySem.W.codeIn K cd4 "inputs_of" = true) (k4 : PySem.W.keepIn K (.ref f4) = true)
    (a5 : PySem.W.nsIn K mainGlobals "look_up" = some (some (.ref f5))) (l5 : K.lookup f5 = some ⟨oc5, od5, .func (PySem.W.fnOf "look_up" "look_up" (defArgs s_look_up) (defBody s_look_up) (defScope s_look_up) .none kv5 dc5 pm5 an5 cd5 ct5), sl5⟩) (c5 : PySem.W.codeIn K cd5 "look_up" = true) (k5 : PySem.W.keepIn K (.ref f5) = true)
    (a6 : PySem.W.nsIn K mainGlobals "_mask" = some (some (.ref f6))) (l6 : K.lookup f6 = some ⟨oc6, od6, .func (PySem.W.fnOf "_mask" "_mask" (defArgs s_mask) (defBody s_mask) (defScope s_mask) .none kv6 dc6 pm6 an6 cd6 ct6), sl6⟩) (c6 : PySem.W.codeIn K cd6 "_mask" = true) (k6 : PySem.W.keepIn K (.ref f6) = true)
    (a7 : PySem.W.nsIn K mainGlobals "_column" = some (some (.ref f7))) (l7 : K.lookup f7 = some ⟨oc7, od7, .func (PySem.W.fnOf "_column" "_column" (defArgs s_column) (defBody s_column) (defScope s_column) .none kv7 dc7 pm7 an7 cd7 ct7), sl7⟩) (c7 : PySem.W.codeIn K cd7 "_column" = true) (k7 : PySem.W.keepIn K (.ref f7) = true)
    (a8 : PySem.W.nsIn K mainGlobals "_combined" = some (some (.ref f8))) (l8 : K.lookup f8 = some ⟨oc8, od8, .func (PySem.W.fnOf "_combined" "_combined" (defArgs s_combined) (defBody s_combined) (defScope s_combined) .none kv8 dc8 pm8 an8 cd8 ct8), sl8⟩) (c8 : PySem.W.codeIn K cd8 "_combined" = true) (k8 : PySem.W.keepIn K (.ref f8) = true)
    (a9 : PySem.W.nsIn K mainGlobals "_law_pool" = some (some (.ref f9))) (l9 : K.lookup f9 = some ⟨oc9, od9, .func (PySem.W.fnOf "_law_pool" "_law_pool" (defArgs s_law_pool) (defBody s_law_pool) (defScope s_law_pool) .none kv9 dc9 pm9 an9 cd9 ct9), sl9⟩) (c9 : PySem.W.codeIn K cd9 "_law_pool" = true) (k9 : PySem.W.keepIn K (.ref f9) = true)
    (a10 : PySem.W.nsIn K mainGlobals "_law_spread" = some (some (.ref f10))) (l10 : K.lookup f10 = some ⟨oc10, od10, .func (PySem.W.fnOf "_law_spread" "_law_spread" (defArgs s_law_spread) (defBody s_law_spread) (defScope s_law_spread) .none kv10 dc10 pm10 an10 cd10 ct10), sl10⟩) (c10 : PySem.W.codeIn K cd10 "_law_spread" = true) (k10 : PySem.W.keepIn K (.ref f10) = true)
    (a11 : PySem.W.nsIn K mainGlobals "_law_draw" = some (some (.ref f11))) (l11 : K.lookup f11 = some ⟨oc11, od11, .func (PySem.W.fnOf "_law_draw" "_law_draw" (defArgs s_law_draw) (defBody s_law_draw) (defScope s_law_draw) .none kv11 dc11 pm11 an11 cd11 ct11), sl11⟩) (c11 : PySem.W.codeIn K cd11 "_law_draw" = true) (k11 : PySem.W.keepIn K (.ref f11) = true)
    (a12 : PySem.W.nsIn K mainGlobals "_law_same" = some (some (.ref f12))) (l12 : K.lookup f12 = some ⟨oc12, od12, .func (PySem.W.fnOf "_law_same" "_law_same" (defArgs s_law_same) (defBody s_law_same) (defScope s_law_same) .none kv12 dc12 pm12 an12 cd12 ct12), sl12⟩) (c12 : PySem.W.codeIn K cd12 "_law_same" = true) (k12 : PySem.W.keepIn K (.ref f12) = true)
    (a13 : PySem.W.nsIn K mainGlobals "_law_word" = some (some (.ref f13))) (l13 : K.lookup f13 = some ⟨oc13, od13, .func (PySem.W.fnOf "_law_word" "_law_word" (defArgs s_law_word) (defBody s_law_word) (defScope s_law_word) .none kv13 dc13 pm13 an13 cd13 ct13), sl13⟩) (c13 : PySem.W.codeIn K cd13 "_law_word" = true) (k13 : PySem.W.keepIn K (.ref f13) = true)
    (a14 : PySem.W.nsIn K mainGlobals "_law_tree" = some (some (.ref f14))) (l14 : K.lookup f14 = some ⟨oc14, od14, .func (PySem.W.fnOf "_law_tree" "_law_tree" (defArgs s_law_tree) (defBody s_law_tree) (defScope s_law_tree) .none kv14 dc14 pm14 an14 cd14 ct14), sl14⟩) (c14 : PySem.W.codeIn K cd14 "_law_tree" = true) (k14 : PySem.W.keepIn K (.ref f14) = true)
    (a15 : PySem.W.nsIn K mainGlobals "_law_eval" = some (some (.ref f15))) (l15 : K.lookup f15 = some ⟨oc15, od15, .func (PySem.W.fnOf "_law_eval" "_law_eval" (defArgs s_law_eval) (defBody s_law_eval) (defScope s_law_eval) .none kv15 dc15 pm15 an15 cd15 ct15), sl15⟩) (c15 : PySem.W.codeIn K cd15 "_law_eval" = true) (k15 : PySem.W.keepIn K (.ref f15) = true)
    (a16 : PySem.W.nsIn K mainGlobals "_law_bits" = some (some (.ref f16))) (l16 : K.lookup f16 = some ⟨oc16, od16, .func (PySem.W.fnOf "_law_bits" "_law_bits" (defArgs s_law_bits) (defBody s_law_bits) (defScope s_law_bits) .none kv16 dc16 pm16 an16 cd16 ct16), sl16⟩) (c16 : PySem.W.codeIn K cd16 "_law_bits" = true) (k16 : PySem.W.keepIn K (.ref f16) = true)
    (a17 : PySem.W.nsIn K mainGlobals "_law_told" = some (some (.ref f17))) (l17 : K.lookup f17 = some ⟨oc17, od17, .func (PySem.W.fnOf "_law_told" "_law_told" (defArgs s_law_told) (defBody s_law_told) (defScope s_law_told) .none kv17 dc17 pm17 an17 cd17 ct17), sl17⟩) (c17 : PySem.W.codeIn K cd17 "_law_told" = true) (k17 : PySem.W.keepIn K (.ref f17) = true)
    (a18 : PySem.W.nsIn K mainGlobals "_law_different" = some (some (.ref f18))) (l18 : K.lookup f18 = some ⟨oc18, od18, .func (PySem.W.fnOf "_law_different" "_law_different" (defArgs s_law_different) (defBody s_law_different) (defScope s_law_different) .none kv18 dc18 pm18 an18 cd18 ct18), sl18⟩) (c18 : PySem.W.codeIn K cd18 "_law_different" = true) (k18 : PySem.W.keepIn K (.ref f18) = true)
    (a19 : PySem.W.nsIn K mainGlobals "law" = some (some (.ref f19))) (l19 : K.lookup f19 = some ⟨oc19, od19, .func (PySem.W.fnOf "law" "law" (defArgs s_law) (defBody s_law) (defScope s_law) .none kv19 dc19 pm19 an19 cd19 ct19), sl19⟩) (c19 : PySem.W.codeIn K cd19 "law" = true) (k19 : PySem.W.keepIn K (.ref f19) = true)
    {ct0 : Tok} (g0 : PySem.W.nsIn K mainGlobals "MOST_INPUTS" = some (some (.int 6 ct0)))
    {iC0 iD0_0 iD0_1 iD0_2 iD0_3 : Addr} (w0_0 : PySem.W.nsIn K mainGlobals "BadArgument" = some (some (.ref iC0))) (w0_1 : PySem.W.excIn K iC0 [.type "ValueError", .type "Exception", .type "BaseException", .type "object"] "ValueError.__new__" = true) (w0_2 : PySem.W.keepIn K (.ref iC0) = true) (w0_3 : PySem.W.subIn K (.ref iC0) (.type "BaseException") = some true) (w0_4 : PySem.W.typeIn K (.ref iC0) = some (.type "type")) (w0_5 : PySem.W.hasDictIn K iC0 = true) (w0_6 : PySem.W.subIn K (.ref iC0) (.ref iC0) = some true) (w0_7 : PySem.W.findIn K (.ref iC0) "__getattribute__" = some (some (.builtin "BaseException.__getattribute__"))) (w0_8 : PySem.W.findIn K (.ref iC0) "__getattr__" = some none) (w0_9 : PySem.W.findIn K (.ref iC0) "__class__" = some (some (.builtin "object.__class__"))) (w0_10 : PySem.W.specialIn K (.builtin "object.__class__") "__get__" = some (some (.builtin "getset_descriptor.__get__"))) (w0_11 : PySem.W.takesIn K (.builtin "object.__class__") = some true) (w0_12 : PySem.W.mroIn K iC0 (.type "object") = some true) (w0_13 : PySem.W.nsIn K mainGlobals "UnknownName" = some (some (.ref iD0_0))) (w0_14 : PySem.W.kitOne K (.ref iC0) (.ref iD0_0) = some false) (w0_15 : PySem.W.nsIn K mainGlobals "DeckError" = some (some (.ref iD0_1))) (w0_16 : PySem.W.kitOne K (.ref iC0) (.ref iD0_1) = some false) (w0_17 : PySem.W.nsIn K mainGlobals "BadArgument" = some (some (.ref iD0_2))) (w0_18 : PySem.W.kitOne K (.ref iC0) (.ref iD0_2) = some true) (w0_19 : PySem.W.nsIn K mainGlobals "SignoffError" = some (some (.ref iD0_3))) (w0_20 : PySem.W.subIn K (.ref iD0_3) (.type "BaseException") = some true) (w0_21 : PySem.W.hasDictIn K iD0_3 = true) (w0_22 : PySem.W.typeIn K (.ref iD0_3) = some (.type "type")) (w0_23 : PySem.W.subIn K (.ref iC0) (.ref iD0_3) = some true)
    {iC1 iD1_0 iD1_1 iD1_2 iD1_3 : Addr} (w1_0 : PySem.W.nsIn K mainGlobals "UnknownName" = some (some (.ref iC1))) (w1_1 : PySem.W.excIn K iC1 [.type "ValueError", .type "Exception", .type "BaseException", .type "object"] "ValueError.__new__" = true) (w1_2 : PySem.W.keepIn K (.ref iC1) = true) (w1_3 : PySem.W.subIn K (.ref iC1) (.type "BaseException") = some true) (w1_4 : PySem.W.typeIn K (.ref iC1) = some (.type "type")) (w1_5 : PySem.W.hasDictIn K iC1 = true) (w1_6 : PySem.W.subIn K (.ref iC1) (.ref iC1) = some true) (w1_7 : PySem.W.findIn K (.ref iC1) "__getattribute__" = some (some (.builtin "BaseException.__getattribute__"))) (w1_8 : PySem.W.findIn K (.ref iC1) "__getattr__" = some none) (w1_9 : PySem.W.findIn K (.ref iC1) "__class__" = some (some (.builtin "object.__class__"))) (w1_10 : PySem.W.specialIn K (.builtin "object.__class__") "__get__" = some (some (.builtin "getset_descriptor.__get__"))) (w1_11 : PySem.W.takesIn K (.builtin "object.__class__") = some true) (w1_12 : PySem.W.mroIn K iC1 (.type "object") = some true) (w1_13 : PySem.W.nsIn K mainGlobals "UnknownName" = some (some (.ref iD1_0))) (w1_14 : PySem.W.kitOne K (.ref iC1) (.ref iD1_0) = some true) (w1_15 : PySem.W.nsIn K mainGlobals "DeckError" = some (some (.ref iD1_1))) (w1_16 : PySem.W.kitOne K (.ref iC1) (.ref iD1_1) = some true) (w1_17 : PySem.W.nsIn K mainGlobals "BadArgument" = some (some (.ref iD1_2))) (w1_18 : PySem.W.kitOne K (.ref iC1) (.ref iD1_2) = some false) (w1_19 : PySem.W.nsIn K mainGlobals "SignoffError" = some (some (.ref iD1_3))) (w1_20 : PySem.W.subIn K (.ref iD1_3) (.type "BaseException") = some true) (w1_21 : PySem.W.hasDictIn K iD1_3 = true) (w1_22 : PySem.W.typeIn K (.ref iD1_3) = some (.type "type")) (w1_23 : PySem.W.subIn K (.ref iC1) (.ref iD1_3) = some true)
    (z0 : PySem.W.nsIn K mainGlobals "sorted" = some none) (z1 : PySem.W.nsIn K mainGlobals "len" = some none) (z2 : PySem.W.nsIn K mainGlobals "set" = some none) (z3 : PySem.W.nsIn K mainGlobals "tuple" = some none) (z4 : PySem.W.nsIn K mainGlobals "range" = some none) (z5 : PySem.W.nsIn K mainGlobals "sum" = some none) (z6 : PySem.W.nsIn K mainGlobals "enumerate" = some none) (z7 : PySem.W.nsIn K mainGlobals "int" = some none) (z8 : PySem.W.nsIn K mainGlobals "list" = some none) (z9 : PySem.W.nsIn K mainGlobals "isinstance" = some none) (z10 : PySem.W.nsIn K mainGlobals "bool" = some none) (z11 : PySem.W.nsIn K mainGlobals "str" = some none) (z12 : PySem.W.nsIn K mainGlobals "ValueError" = some none) :
    ∃ fd : FuncData, (∀ (s : Shared) (v : Value), BindsTo s fd ⟨[v], []⟩ [("script", v)]) ∧ ∀ base : Heap, K.In base → base.Ns mainGlobals mg → FnOk l.prog w K mg base CX0 9 fa fd ["script"] (spLaw K) := by
  have e := hfa.symm.trans (PySem.W.mg_of X G a19)
  cases e
  have F0 := fun_mk (st := s_names_in) l0 c0 k0
  have F1 := fun_mk (st := s_operands) l1 c1 k1
  have F2 := fun_mk (st := s_postorder) l2 c2 k2
  have F3 := fun_mk (st := s_table_of) l3 c3 k3
  have F4 := fun_mk (st := s_inputs_of) l4 c4 k4
  have F5 := fun_mk (st := s_look_up) l5 c5 k5
  have F6 := fun_mk (st := s_mask) l6 c6 k6
  have F7 := fun_mk (st := s_column) l7 c7 k7
  have F8 := fun_mk (st := s_combined) l8 c8 k8
  have F9 := fun_mk (st := s_law_pool) l9 c9 k9
  have F10 := fun_mk (st := s_law_spread) l10 c10 k10
  have F11 := fun_mk (st := s_law_draw) l11 c11 k11
  have F12 := fun_mk (st := s_law_same) l12 c12 k12
  have F13 := fun_mk (st := s_law_word) l13 c13 k13
  have F14 := fun_mk (st := s_law_tree) l14 c14 k14
  have F15 := fun_mk (st := s_law_eval) l15 c15 k15
  have F16 := fun_mk (st := s_law_bits) l16 c16 k16
  have F17 := fun_mk (st := s_law_told) l17 c17 k17
  have F18 := fun_mk (st := s_law_different) l18 c18 k18
  have F19 := fun_mk (st := s_law) l19 c19 k19
  have A : All K mg := ⟨⟨f0, _, F0, PySem.W.mg_of X G a0, F0.binds (ps := ["tree"]) fun _ _ _ _ _ _ us hl => match us, hl with | [_], _ => rfl⟩,
    ⟨f1, _, F1, PySem.W.mg_of X G a1, F1.binds (ps := ["tree"]) fun _ _ _ _ _ _ us hl => match us, hl with | [_], _ => rfl⟩,
    ⟨f2, _, F2, PySem.W.mg_of X G a2, F2.binds (ps := ["tree"]) fun _ _ _ _ _ _ us hl => match us, hl with | [_], _ => rfl⟩,
    ⟨f3, _, F3, PySem.W.mg_of X G a3, F3.binds (ps := ["tree", "names"]) fun _ _ _ _ _ _ us hl => match us, hl with | [_, _], _ => rfl⟩,
    ⟨f4, _, F4, PySem.W.mg_of X G a4, F4.binds (ps := ["table"]) fun _ _ _ _ _ _ us hl => match us, hl with | [_], _ => rfl⟩,
    ⟨f5, _, F5, PySem.W.mg_of X G a5, F5.binds (ps := ["table", "bits"]) fun _ _ _ _ _ _ us hl => match us, hl with | [_, _], _ => rfl⟩,
    ⟨f6, _, F6, PySem.W.mg_of X G a6, F6.binds (ps := ["tree", "names", "rows"]) fun _ _ _ _ _ _ us hl => match us, hl with | [_, _, _], _ => rfl⟩,
    ⟨f7, _, F7, PySem.W.mg_of X G a7, F7.binds (ps := ["k", "rows"]) fun _ _ _ _ _ _ us hl => match us, hl with | [_, _], _ => rfl⟩,
    ⟨f8, _, F8, PySem.W.mg_of X G a8, F8.binds (ps := ["kind", "left", "right"]) fun _ _ _ _ _ _ us hl => match us, hl with | [_, _, _], _ => rfl⟩,
    ⟨f9, _, F9, PySem.W.mg_of X G a9, F9.binds (ps := ["script"]) fun _ _ _ _ _ _ us hl => match us, hl with | [_], _ => rfl⟩,
    ⟨f10, _, F10, PySem.W.mg_of X G a10, F10.binds (ps := ["cell"]) fun _ _ _ _ _ _ us hl => match us, hl with | [_], _ => rfl⟩,
    ⟨f11, _, F11, PySem.W.mg_of X G a11, F11.binds (ps := ["pool", "many"]) fun _ _ _ _ _ _ us hl => match us, hl with | [_, _], _ => rfl⟩,
    ⟨f12, _, F12, PySem.W.mg_of X G a12, F12.binds (ps := ["actual", "due"]) fun _ _ _ _ _ _ us hl => match us, hl with | [_, _], _ => rfl⟩,
    ⟨f13, _, F13, PySem.W.mg_of X G a13, F13.binds (ps := ["pool"]) fun _ _ _ _ _ _ us hl => match us, hl with | [_], _ => rfl⟩,
    ⟨f14, _, F14, PySem.W.mg_of X G a14, F14.binds (ps := ["pool", "deep", "names"]) fun _ _ _ _ _ _ us hl => match us, hl with | [_, _, _], _ => rfl⟩,
    ⟨f15, _, F15, PySem.W.mg_of X G a15, F15.binds (ps := ["tree", "known"]) fun _ _ _ _ _ _ us hl => match us, hl with | [_, _], _ => rfl⟩,
    ⟨f16, _, F16, PySem.W.mg_of X G a16, F16.binds (ps := ["index", "many"]) fun _ _ _ _ _ _ us hl => match us, hl with | [_, _], _ => rfl⟩,
    ⟨f17, _, F17, PySem.W.mg_of X G a17, F17.binds (ps := ["tree", "names"]) fun _ _ _ _ _ _ us hl => match us, hl with | [_, _], _ => rfl⟩,
    ⟨f18, _, F18, PySem.W.mg_of X G a18, F18.binds (ps := ["pool", "many"]) fun _ _ _ _ _ _ us hl => match us, hl with | [_, _], _ => rfl⟩,
    PySem.W.mg_none_of X G z0,
    PySem.W.mg_none_of X G z1,
    PySem.W.mg_none_of X G z2,
    PySem.W.mg_none_of X G z3,
    PySem.W.mg_none_of X G z4,
    PySem.W.mg_none_of X G z5,
    PySem.W.mg_none_of X G z6,
    PySem.W.mg_none_of X G z7,
    PySem.W.mg_none_of X G z8,
    PySem.W.mg_none_of X G z9,
    PySem.W.mg_none_of X G z10,
    PySem.W.mg_none_of X G z11,
    PySem.W.mg_none_of X G z12,
    ⟨_, PySem.W.mg_of X G g0⟩,
    ⟨iC0, ⟨⟨PySem.W.mg_of X G w0_0, w0_1, w0_2, w0_3, w0_4⟩, w0_5, w0_6, ⟨w0_7, w0_8, w0_3, w0_5, w0_9, w0_10, w0_11, w0_12⟩⟩, ⟨iD0_0, PySem.W.mg_of X G w0_13, w0_14⟩, ⟨iD0_1, PySem.W.mg_of X G w0_15, w0_16⟩, ⟨iD0_2, PySem.W.mg_of X G w0_17, w0_18⟩, ⟨iD0_3, PySem.W.mg_of X G w0_19, PySem.W.exm_ref w0_20 w0_21 w0_22 w0_23⟩⟩,
    ⟨iC1, ⟨⟨PySem.W.mg_of X G w1_0, w1_1, w1_2, w1_3, w1_4⟩, w1_5, w1_6, ⟨w1_7, w1_8, w1_3, w1_5, w1_9, w1_10, w1_11, w1_12⟩⟩, ⟨iD1_0, PySem.W.mg_of X G w1_13, w1_14⟩, ⟨iD1_1, PySem.W.mg_of X G w1_15, w1_16⟩, ⟨iD1_2, PySem.W.mg_of X G w1_17, w1_18⟩, ⟨iD1_3, PySem.W.mg_of X G w1_19, PySem.W.exm_ref w1_20 w1_21 w1_22 w1_23⟩⟩⟩
  exact ⟨_, fun s v => .of_eq rfl, fun base _ _ => glue A F19⟩
end G
open PySem PySem.W PyProof.Rows
set_option maxRecDepth 100000 in
set_option maxHeartbeats 0 in
theorem PySem.Challenge.cw_signoff_k10_tables_of_expressions_holds : PySem.Challenge.rw_signoff_k10_tables_of_expressions.Holds := by
  w_on; o_law; k_head; (case hw => w_witness2)
  k_fill
  refine L2.walk_of (l := PySem.Challenge.rw_signoff_k10_tables_of_expressions) (n := 63) (k := 9) (x := "script") (CX := fun _ => L2.CX0) (sp := fun w => G.spLaw _) rfl (by decide) rfl ⟨rfl, by decide, by decide⟩ (fun w h Y => PySem.W.kIn_of Y) ?F (fun _ _ a ns hl _ hS => ⟨a, ns, rfl, hS, hl, fun _ => rfl⟩) (fun _ _ _ _ _ h => h)
  case F =>
    intro w mg fa h KX GN hmg
    refine' G.all_mk KX GN hmg ?a0 ?l0 ?c0 ?k0 ?a1 ?l1 ?c1 ?k1 ?a2 ?l2 ?c2 ?k2 ?a3 ?l3 ?c3 ?k3 ?a4 ?l4 ?c4 ?k4 ?a5 ?l5 ?c5 ?k5 ?a6 ?l6 ?c6 ?k6 ?a7 ?l7 ?c7 ?k7 ?a8 ?l8 ?c8 ?k8 ?a9 ?l9 ?c9 ?k9 ?a10 ?l10 ?c10 ?k10 ?a11 ?l11 ?c11 ?k11 ?a12 ?l12 ?c12 ?k12 ?a13 ?l13 ?c13 ?k13 ?a14 ?l14 ?c14 ?k14 ?a15 ?l15 ?c15 ?k15 ?a16 ?l16 ?c16 ?k16 ?a17 ?l17 ?c17 ?k17 ?a18 ?l18 ?c18 ?k18 ?a19 ?l19 ?c19 ?k19 ?cg0 ?xw0_0 ?xw0_1 ?xw0_2 ?xw0_3 ?xw0_4 ?xw0_5 ?xw0_6 ?xw0_7 ?xw0_8 ?xw0_9 ?xw0_10 ?xw0_11 ?xw0_12 ?xw0_13 ?xw0_14 ?xw0_15 ?xw0_16 ?xw0_17 ?xw0_18 ?xw0_19 ?xw0_20 ?xw0_21 ?xw0_22 ?xw0_23 ?xw1_0 ?xw1_1 ?xw1_2 ?xw1_3 ?xw1_4 ?xw1_5 ?xw1_6 ?xw1_7 ?xw1_8 ?xw1_9 ?xw1_10 ?xw1_11 ?xw1_12 ?xw1_13 ?xw1_14 ?xw1_15 ?xw1_16 ?xw1_17 ?xw1_18 ?xw1_19 ?xw1_20 ?xw1_21 ?xw1_22 ?xw1_23 ?z0 ?z1 ?z2 ?z3 ?z4 ?z5 ?z6 ?z7 ?z8 ?z9 ?z10 ?z11 ?z12
    (case a0 => k_is)
    (case l0 => k_is)
    (case c0 => k_is)
    (case k0 => k_is)
    (case a1 => k_is)
    (case l1 => k_is)
    (case c1 => k_is)
    (case k1 => k_is)
    (case a2 => k_is)
    (case l2 => k_is)
    (case c2 => k_is)
    (case k2 => k_is)
    (case a3 => k_is)
    (case l3 => k_is)
    (case c3 => k_is)
    (case k3 => k_is)
    (case a4 => k_is)
    (case l4 => k_is)
    (case c4 => k_is)
    (case k4 => k_is)
    (case a5 => k_is)
    (case l5 => k_is)
    (case c5 => k_is)
    (case k5 => k_is)
    (case a6 => k_is)
    (case l6 => k_is)
    (case c6 => k_is)
    (case k6 => k_is)
    (case a7 => k_is)
    (case l7 => k_is)
    (case c7 => k_is)
    (case k7 => k_is)
    (case a8 => k_is)
    (case l8 => k_is)
    (case c8 => k_is)
    (case k8 => k_is)
    (case a9 => k_is)
    (case l9 => k_is)
    (case c9 => k_is)
    (case k9 => k_is)
    (case a10 => k_is)
    (case l10 => k_is)
    (case c10 => k_is)
    (case k10 => k_is)
    (case a11 => k_is)
    (case l11 => k_is)
    (case c11 => k_is)
    (case k11 => k_is)
    (case a12 => k_is)
    (case l12 => k_is)
    (case c12 => k_is)
    (case k12 => k_is)
    (case a13 => k_is)
    (case l13 => k_is)
    (case c13 => k_is)
    (case k13 => k_is)
    (case a14 => k_is)
    (case l14 => k_is)
    (case c14 => k_is)
    (case k14 => k_is)
    (case a15 => k_is)
    (case l15 => k_is)
    (case c15 => k_is)
    (case k15 => k_is)
    (case a16 => k_is)
    (case l16 => k_is)
    (case c16 => k_is)
    (case k16 => k_is)
    (case a17 => k_is)
    (case l17 => k_is)
    (case c17 => k_is)
    (case k17 => k_is)
    (case a18 => k_is)
    (case l18 => k_is)
    (case c18 => k_is)
    (case k18 => k_is)
    (case a19 => k_is)
    (case l19 => k_is)
    (case c19 => k_is)
    (case k19 => k_is)
    (case cg0 => k_is)
    (case xw0_0 => first | k_exc | k_is | rfl)
    (case xw0_1 => first | k_exc | k_is | rfl)
    (case xw0_2 => first | k_exc | k_is | rfl)
    (case xw0_3 => first | k_exc | k_is | rfl)
    (case xw0_4 => first | k_exc | k_is | rfl)
    (case xw0_5 => first | k_exc | k_is | rfl)
    (case xw0_6 => first | k_exc | k_is | rfl)
    (case xw0_7 => first | k_exc | k_is | rfl)
    (case xw0_8 => first | k_exc | k_is | rfl)
    (case xw0_9 => first | k_exc | k_is | rfl)
    (case xw0_10 => first | k_exc | k_is | rfl)
    (case xw0_11 => first | k_exc | k_is | rfl)
    (case xw0_12 => first | k_exc | k_is | rfl)
    (case xw0_13 => first | k_exc | k_is | rfl)
    (case xw0_14 => first | k_exc | k_is | rfl)
    (case xw0_15 => first | k_exc | k_is | rfl)
    (case xw0_16 => first | k_exc | k_is | rfl)
    (case xw0_17 => first | k_exc | k_is | rfl)
    (case xw0_18 => first | k_exc | k_is | rfl)
    (case xw0_19 => first | k_exc | k_is | rfl)
    (case xw0_20 => first | k_exc | k_is | rfl)
    (case xw0_21 => first | k_exc | k_is | rfl)
    (case xw0_22 => first | k_exc | k_is | rfl)
    (case xw0_23 => first | k_exc | k_is | rfl)
    (case xw1_0 => first | k_exc | k_is | rfl)
    (case xw1_1 => first | k_exc | k_is | rfl)
    (case xw1_2 => first | k_exc | k_is | rfl)
    (case xw1_3 => first | k_exc | k_is | rfl)
    (case xw1_4 => first | k_exc | k_is | rfl)
    (case xw1_5 => first | k_exc | k_is | rfl)
    (case xw1_6 => first | k_exc | k_is | rfl)
    (case xw1_7 => first | k_exc | k_is | rfl)
    (case xw1_8 => first | k_exc | k_is | rfl)
    (case xw1_9 => first | k_exc | k_is | rfl)
    (case xw1_10 => first | k_exc | k_is | rfl)
    (case xw1_11 => first | k_exc | k_is | rfl)
    (case xw1_12 => first | k_exc | k_is | rfl)
    (case xw1_13 => first | k_exc | k_is | rfl)
    (case xw1_14 => first | k_exc | k_is | rfl)
    (case xw1_15 => first | k_exc | k_is | rfl)
    (case xw1_16 => first | k_exc | k_is | rfl)
    (case xw1_17 => first | k_exc | k_is | rfl)
    (case xw1_18 => first | k_exc | k_is | rfl)
    (case xw1_19 => first | k_exc | k_is | rfl)
    (case xw1_20 => first | k_exc | k_is | rfl)
    (case xw1_21 => first | k_exc | k_is | rfl)
    (case xw1_22 => first | k_exc | k_is | rfl)
    (case xw1_23 => first | k_exc | k_is | rfl)
    (case z0 => k_is)
    (case z1 => k_is)
    (case z2 => k_is)
    (case z3 => k_is)
    (case z4 => k_is)
    (case z5 => k_is)
    (case z6 => k_is)
    (case z7 => k_is)
    (case z8 => k_is)
    (case z9 => k_is)
    (case z10 => k_is)
    (case z11 => k_is)
    (case z12 => k_is)
#print axioms PySem.Challenge.cw_signoff_k10_tables_of_expressions_holds
