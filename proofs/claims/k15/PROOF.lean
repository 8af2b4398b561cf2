import PyProof.Rows.All
import Wide.All
import OpenK.AllK
import Wide.FinOn
import HandS.ForMost
import HandS.Evl
import HandS.Wide
import HandS.WideBits
import HandS.Flow
import HandS.IsInst
import HandS.TupAny
import HandS.Walk
import HandS.Zip
import HandS.Steps
import KE.GoesMore
import KE.GoesEnum
import KE.KEqSeq
import HandS.ForExc
import HandS.ExcIs
import HandS.Property
import HandS.Style
import HandS.Small
import HandS.CallSlots
import HandS.Defaults
import HandS.NoneIn
import HandS.Set
import HandS.Strs
import HandS.DictComp
import KE.GoesSet
import HandS.TupLe
import HandS.SetFor
import PySem.Challenge.RW_signoff_k15_diagrams_measured
set_option Elab.async false
set_option linter.all false
set_option maxRecDepth 100000
set_option maxHeartbeats 4000000
set_option Elab.async false
set_option linter.all false
set_option maxRecDepth 100000
set_option maxHeartbeats 4000000
namespace G
open PySem PySem.Spec PyProof.Rows L2 Evl
/-! ## defs by name -/
def Dfd (K : PySem.W.Frag) (mg : Str → Option Value) (x : Str) (st : Stmt) (ps : List Str) : Prop := ∃ (f : Addr) (fd : FuncData), Fun K x x st f fd ∧ mg x = some (.ref f) ∧ Binds K fd ps []
def Has (P : Program) (w : World) (K : PySem.W.Frag) (mg : Str → Option Value) (base : Heap) (k : Nat) (x : Str) (ps : List Str) (sp : Sp) : Prop :=
  ∃ (f : Addr) (fd : FuncData), FnOk P w K mg base CX0 k f fd ps sp ∧ mg x = some (.ref f) ∧ PySem.W.keepIn K (.ref f) = true ∧ Binds K fd ps []
section
variable {P : Program} {w : World} {K : PySem.W.Frag} {mg : Str → Option Value} {base : Heap}
theorem Dfd.has {x : Str} {st : Stmt} {ps : List Str} {k : Nat} {sp : Sp} (d : Dfd K mg x st ps) (h : ∀ f fd, Fun K x x st f fd → FnOk P w K mg base CX0 k f fd ps sp) : Has P w K mg base k x ps sp := by
  obtain ⟨f, fd, F, g, b⟩ := d
  exact ⟨f, fd, h f fd F, g, F.kp, b⟩
theorem Has.mono {x : Str} {ps : List Str} {j k : Nat} {sp : Sp} (h : Has P w K mg base j x ps sp) (l : j ≤ k) : Has P w K mg base k x ps sp := by
  obtain ⟨f, fd, F, g⟩ := h
  exact ⟨f, fd, F.mono l, g⟩
theorem Has.imp {x : Str} {ps : List Str} {k : Nat} {sp sp' : Sp} (h : Has P w K mg base k x ps sp) (i : ∀ vs H Q E, sp' vs H Q E → sp vs H Q E) : Has P w K mg base k x ps sp' := by
  obtain ⟨f, fd, F, g⟩ := h
  exact ⟨f, fd, F.imp i, g⟩
end
/-! ## heaps -/
theorem sq_ex {K : PySem.W.Frag} {H H' : Hp} {a : Addr} {xs : List V} (e : Ex H H') (h : SqL K H a xs) : SqL K H' a xs := ex_l e h
/-- the heap without what stands at p -/
def hid (p : Addr) (H : Hp) : Hp := fun b => if b = p then none else H b
theorem hid_self {p : Addr} {H : Hp} : hid p H p = none := by unfold hid; rw [if_pos rfl]
theorem hid_ne {p b : Addr} {H : Hp} (h : b ≠ p) : hid p H b = H b := by unfold hid; rw [if_neg h]
theorem hid_get {p b : Addr} {H : Hp} {o : HO} (h : hid p H b = some o) : H b = some o := by
  by_cases e : b = p
  · subst e; rw [hid_self] at h; cases h
  · rw [hid_ne e] at h; exact h
theorem hid_neq {p b : Addr} {H : Hp} {o : HO} (h : hid p H b = some o) : b ≠ p := by
  intro e; subst e; rw [hid_self] at h; cases h
theorem hid_ex {p : Addr} {H : Hp} : Ex (hid p H) H := fun _ _ h => hid_get h
theorem hid_upd {p : Addr} {H : Hp} {o : HO} : hid p (upd H p o) = hid p H := by
  funext b
  by_cases e : b = p
  · subst e; rw [hid_self, hid_self]
  · rw [hid_ne e, hid_ne e, upd_ne e]
theorem hid_upd_ne {p q : Addr} {H : Hp} {o : HO} (h : q ≠ p) : hid p (upd H q o) = upd (hid p H) q o := by
  funext b
  by_cases e2 : b = q
  · subst e2; rw [hid_ne h, upd_same, upd_same]
  · rw [upd_ne e2]
    by_cases e : b = p
    · subst e; rw [hid_self, hid_self]
    · rw [hid_ne e, hid_ne e, upd_ne e2]
theorem hid_none {p b : Addr} {H : Hp} (h : H b = none) : hid p H b = none := by
  unfold hid; split
  · rfl
  · exact h
/-! ## the pool of draws: the list at p, the script's copy at a -/
def PoolOk (p a : Addr) (H : Hp) : Prop := ∃ (ns : List Int) (i : Nat) (c k s : Int), H p = some (.lst [.ref a, .int i, .int c, .int k, .int s]) ∧ hid p H a = some (.lst (ns.map V.int)) ∧ ns.length ≤ 1000
/-- from H to H' all but the pool is kept, and the pool is a pool -/
structure Px (p a : Addr) (H H' : Hp) : Prop where
  was : PoolOk p a H
  pool : PoolOk p a H'
  ex : Ex (hid p H) (hid p H')
section
variable {p a : Addr} {H H1 H2 H' : Hp}
theorem Px.refl (h : PoolOk p a H) : Px p a H H := ⟨h, h, Ex.refl _⟩
theorem Px.trans (x : Px p a H H1) (y : Px p a H1 H2) : Px p a H H2 := ⟨x.was, y.pool, x.ex.trans y.ex⟩
theorem PoolOk.ne {b : Addr} (h : PoolOk p a H) (n : H b = none) : b ≠ p := by
  obtain ⟨_, _, _, _, _, e, _⟩ := h
  exact (ne_of_none e n).symm
theorem PoolOk.ne2 {b : Addr} (h : PoolOk p a H) (n : H b = none) : a ≠ b := by
  obtain ⟨_, _, _, _, _, _, e, _⟩ := h
  exact ne_of_none (hid_get e) n
theorem PoolOk.kept (h : PoolOk p a H) (e : Ex H H') : PoolOk p a H' := by
  obtain ⟨ns, i, c, k, s, h1, h2, h3⟩ := h
  exact ⟨ns, i, c, k, s, e _ _ h1, by rw [hid_ne (hid_neq h2)]; exact e _ _ (hid_get h2), h3⟩
theorem Px.ofEx (h : PoolOk p a H) (e : Ex H H') : Px p a H H' := ⟨h, h.kept e, fun b o hb => by rw [hid_ne (hid_neq hb)]; exact e _ _ (hid_get hb)⟩
theorem Px.more (x : Px p a H H1) (e : Ex H1 H2) : Px p a H H2 := x.trans (Px.ofEx x.pool e)
theorem Px.draw {o : HO} (w : PoolOk p a H) (h : PoolOk p a (upd H p o)) : Px p a H (upd H p o) := ⟨w, h, by rw [hid_upd]; exact Ex.refl _⟩
theorem Px.new (x : Px p a H H1) {l : Addr} {o : HO} (n : H1 l = none) : Px p a H (upd H1 l o) := x.more (Ex.new n)
/-- what H has is kept -/
theorem Px.get (x : Px p a H H1) {b : Addr} {o : HO} (h : hid p H b = some o) : hid p H1 b = some o := x.ex _ _ h
theorem Px.at_ (x : Px p a H H1) {b : Addr} {o : HO} (h : hid p H b = some o) : H1 b = some o := hid_get (x.ex _ _ h)
theorem Px.free (x : Px p a H H1) {b : Addr} (n : H1 b = none) : H b = none := by
  cases e : H b with
  | none => rfl
  | some o =>
    have hb : b ≠ p := x.pool.ne n
    have := x.ex b o (by rw [hid_ne hb]; exact e)
    rw [hid_get this] at n; cases n
/-- an object that H does not have may change -/
theorem Px.mut (x : Px p a H H1) {l : Addr} {o : HO} (n : H l = none) : Px p a H (upd H1 l o) := by
  have hl : l ≠ p := x.was.ne n
  have ha : a ≠ l := x.was.ne2 n
  refine ⟨x.was, ?_, ?_⟩
  · obtain ⟨ns, i, c, k, s, h1, h2, h3⟩ := x.pool
    exact ⟨ns, i, c, k, s, by rw [upd_ne hl.symm]; exact h1, by rw [hid_upd_ne hl, upd_ne ha]; exact h2, h3⟩
  · rw [hid_upd_ne hl]; exact Ex.mut x.ex (hid_none n)
/-- a fresh object stands apart from the pool -/
theorem Px.seen (x : Px p a H H1) {l : Addr} {o : HO} (n : H l = none) (e : H1 l = some o) : hid p H1 l = some o := by
  rw [hid_ne (x.was.ne n)]; exact e
end
end G
namespace G
open PySem PySem.Spec PyProof.Rows L2 Evl
/-! ## comprehensions whose elements are plain values -/
theorem given_all {n : Nat} {v : Nat → V} : given n (fun _ => true) v = (List.range n).map v := by
  unfold given
  rw [List.filter_eq_self.mpr (fun _ _ => rfl)]
section
variable {lo : Int} {n j : Nat} {tt : TT} {te : TE} {vs : List Nat} {σ : L2.St} {H1 : Hp} {D : Addr} {Qd : Hp → Prop} {K : PySem.W.Frag} {a : Addr} {xs : List V}
theorem lc_turn {f : Nat → Bool} {v : Nat → V} {i : Nat} {H : Hp} {σ2 : L2.St} (e : H = upd H1 D (.lst (given i f v))) (hi : i < 100000) (ht : Ans tt σ2 H (f i)) (he : f i = true → Val te σ2 H (v i)) :
    tt σ2 H fun b H3 => if b = true then te σ2 H3 fun y H4 => ∃ acc, H4 D = some (.lst acc) ∧ acc.length < sizeLine ∧ (upd H4 D (.lst (acc ++ [y]))) = upd H1 D (.lst (given (i + 1) f v)) else H3 = upd H1 D (.lst (given (i + 1) f v)) := by
  refine ht _ ?_
  subst e
  cases hf : f i with
  | true =>
    refine iteT (he hf _ ⟨_, upd_same, sz_lt (by have := given_len i f v; omega), ?_⟩)
    rw [given_yes hf, upd_upd]
  | false =>
    refine iteF ?_
    rw [given_no hf]
theorem lcR (f : Nat → Bool) (v : Nat → V) (hn : n ≤ 100000) (hw : ∀ x, wipe ((wipe σ vs).set j (some x)) vs = wipe σ vs)
    (ht : ∀ (i : Nat) (H : Hp), i < n → H = upd H1 D (.lst (given i f v)) → Ans tt ((wipe σ vs).set j (some (.int (lo + i)))) H (f i))
    (he : ∀ (i : Nat) (H : Hp), i < n → H = upd H1 D (.lst (given i f v)) → f i = true → Val te ((wipe σ vs).set j (some (.int (lo + i)))) H (v i)) (q : Qd (upd H1 D (.lst (given n f v)))) :
    ∃ W : Nat → Nat → Hp → Prop, (∃ m, W 0 m (upd H1 D (.lst []))) ∧ ∀ i m H, W i m H →
      ((Itr lo n).stop i H ∧ Qd H) ∨ ((Itr lo n).go i H ∧ ∃ Nx : Hp → Prop, (∀ H', Nx H' → ∃ m', m' < m ∧ W (i + 1) m' H') ∧ ∀ x H', (Itr lo n).yld i H x H' → gName j x (wipe σ vs) H' fun σ2 H2 => wipe σ2 vs = wipe σ vs ∧ tt σ2 H2 fun b H3 =>
        if b = true then te σ2 H3 fun y H4 => ∃ acc, H4 D = some (.lst acc) ∧ acc.length < sizeLine ∧ Nx (upd H4 D (.lst (acc ++ [y]))) else Nx H3) :=
  lc_range (fun i H => H = upd H1 D (.lst (given i f v))) rfl (fun i H hi e => ⟨hw _, lc_turn e (by omega) (ht i H hi e) (he i H hi e)⟩) (fun H e => by rw [e]; exact q)
theorem lcRv (v : Nat → V) (hn : n ≤ 100000) (hw : ∀ x, wipe ((wipe σ vs).set j (some x)) vs = wipe σ vs)
    (he : ∀ (i : Nat) (H : Hp), i < n → H = upd H1 D (.lst (given i (fun _ => true) v)) → Val te ((wipe σ vs).set j (some (.int (lo + i)))) H (v i)) (q : Qd (upd H1 D (.lst ((List.range n).map v)))) :
    ∃ W : Nat → Nat → Hp → Prop, (∃ m, W 0 m (upd H1 D (.lst []))) ∧ ∀ i m H, W i m H →
      ((Itr lo n).stop i H ∧ Qd H) ∨ ((Itr lo n).go i H ∧ ∃ Nx : Hp → Prop, (∀ H', Nx H' → ∃ m', m' < m ∧ W (i + 1) m' H') ∧ ∀ x H', (Itr lo n).yld i H x H' → gName j x (wipe σ vs) H' fun σ2 H2 => wipe σ2 vs = wipe σ vs ∧ tYes σ2 H2 fun b H3 =>
        if b = true then te σ2 H3 fun y H4 => ∃ acc, H4 D = some (.lst acc) ∧ acc.length < sizeLine ∧ Nx (upd H4 D (.lst (acc ++ [y]))) else Nx H3) :=
  lcR (fun _ => true) v hn hw (fun _ _ _ _ => fun _ q => q) (fun i H hi e _ => he i H hi e) (by rw [given_all]; exact q)
theorem lcL (f : Nat → Bool) (v : Nat → V) (hx : SqL K H1 a xs) (hD : H1 D = none) (hn : xs.length ≤ 100000) (hw : ∀ x, wipe ((wipe σ vs).set j (some x)) vs = wipe σ vs)
    (ht : ∀ (i : Nat) (x : V) (H : Hp), xs[i]? = some x → H = upd H1 D (.lst (given i f v)) → Ans tt ((wipe σ vs).set j (some x)) H (f i))
    (he : ∀ (i : Nat) (x : V) (H : Hp), xs[i]? = some x → H = upd H1 D (.lst (given i f v)) → f i = true → Val te ((wipe σ vs).set j (some x)) H (v i)) (q : Qd (upd H1 D (.lst (given xs.length f v)))) :
    ∃ W : Nat → Nat → Hp → Prop, (∃ m, W 0 m (upd H1 D (.lst []))) ∧ ∀ i m H, W i m H →
      ((Itl K a).stop i H ∧ Qd H) ∨ ((Itl K a).go i H ∧ ∃ Nx : Hp → Prop, (∀ H', Nx H' → ∃ m', m' < m ∧ W (i + 1) m' H') ∧ ∀ x H', (Itl K a).yld i H x H' → gName j x (wipe σ vs) H' fun σ2 H2 => wipe σ2 vs = wipe σ vs ∧ tt σ2 H2 fun b H3 =>
        if b = true then te σ2 H3 fun y H4 => ∃ acc, H4 D = some (.lst acc) ∧ acc.length < sizeLine ∧ Nx (upd H4 D (.lst (acc ++ [y]))) else Nx H3) :=
  lc_list (fun i H => H = upd H1 D (.lst (given i f v))) rfl (fun i H hi e => by rw [e]; exact ex_l (Ex.new hD) hx) (fun i x H hi e => ⟨hw _, lc_turn e (by have := (List.getElem?_eq_some_iff.mp hi).1; omega) (ht i x H hi e) (he i x H hi e)⟩) (fun H e => by rw [e]; exact q)
theorem lcT (f : Nat → Bool) (v : Nat → V) (hx : SqT K H1 a xs) (hD : H1 D = none) (hn : xs.length ≤ 100000) (hw : ∀ x, wipe ((wipe σ vs).set j (some x)) vs = wipe σ vs)
    (ht : ∀ (i : Nat) (x : V) (H : Hp), xs[i]? = some x → H = upd H1 D (.lst (given i f v)) → Ans tt ((wipe σ vs).set j (some x)) H (f i))
    (he : ∀ (i : Nat) (x : V) (H : Hp), xs[i]? = some x → H = upd H1 D (.lst (given i f v)) → f i = true → Val te ((wipe σ vs).set j (some x)) H (v i)) (q : Qd (upd H1 D (.lst (given xs.length f v)))) :
    ∃ W : Nat → Nat → Hp → Prop, (∃ m, W 0 m (upd H1 D (.lst []))) ∧ ∀ i m H, W i m H →
      ((Itt K a).stop i H ∧ Qd H) ∨ ((Itt K a).go i H ∧ ∃ Nx : Hp → Prop, (∀ H', Nx H' → ∃ m', m' < m ∧ W (i + 1) m' H') ∧ ∀ x H', (Itt K a).yld i H x H' → gName j x (wipe σ vs) H' fun σ2 H2 => wipe σ2 vs = wipe σ vs ∧ tt σ2 H2 fun b H3 =>
        if b = true then te σ2 H3 fun y H4 => ∃ acc, H4 D = some (.lst acc) ∧ acc.length < sizeLine ∧ Nx (upd H4 D (.lst (acc ++ [y]))) else Nx H3) :=
  lc_tup (fun i H => H = upd H1 D (.lst (given i f v))) rfl (fun i H hi e => by rw [e]; exact ex_t (Ex.new hD) hx) (fun i x H hi e => ⟨hw _, lc_turn e (by have := (List.getElem?_eq_some_iff.mp hi).1; omega) (ht i x H hi e) (he i x H hi e)⟩) (fun H e => by rw [e]; exact q)
theorem lcLm (g : V → V) (hx : SqL K H1 a xs) (hD : H1 D = none) (hn : xs.length ≤ 100000) (hw : ∀ x, wipe ((wipe σ vs).set j (some x)) vs = wipe σ vs)
    (he : ∀ (i : Nat) (x : V) (H : Hp), xs[i]? = some x → H = upd H1 D (.lst ((xs.take i).map g)) → Val te ((wipe σ vs).set j (some x)) H (g x)) (q : Qd (upd H1 D (.lst (xs.map g)))) :
    ∃ W : Nat → Nat → Hp → Prop, (∃ m, W 0 m (upd H1 D (.lst []))) ∧ ∀ i m H, W i m H →
      ((Itl K a).stop i H ∧ Qd H) ∨ ((Itl K a).go i H ∧ ∃ Nx : Hp → Prop, (∀ H', Nx H' → ∃ m', m' < m ∧ W (i + 1) m' H') ∧ ∀ x H', (Itl K a).yld i H x H' → gName j x (wipe σ vs) H' fun σ2 H2 => wipe σ2 vs = wipe σ vs ∧ tYes σ2 H2 fun b H3 =>
        if b = true then te σ2 H3 fun y H4 => ∃ acc, H4 D = some (.lst acc) ∧ acc.length < sizeLine ∧ Nx (upd H4 D (.lst (acc ++ [y]))) else Nx H3) :=
  lc_list (fun i H => H = upd H1 D (.lst ((xs.take i).map g))) (by rw [List.take_zero]; rfl) (fun i H hi e => by rw [e]; exact ex_l (Ex.new hD) hx)
    (fun i x H hi e => ⟨hw _, by
      refine iteT (B := H = upd H1 D (.lst ((xs.take (i + 1)).map g))) ?_
      refine he i x H hi e _ ?_
      subst e
      refine ⟨_, upd_same, sz_lt ?_, ?_⟩
      · rw [List.length_map, List.length_take]; have := (List.getElem?_eq_some_iff.mp hi).1; omega
      · rw [upd_upd, List.take_add_one, hi, List.map_append]; rfl⟩) (fun H e => by rw [e, List.take_length]; exact q)
theorem lcTm (g : V → V) (hx : SqT K H1 a xs) (hD : H1 D = none) (hn : xs.length ≤ 100000) (hw : ∀ x, wipe ((wipe σ vs).set j (some x)) vs = wipe σ vs)
    (he : ∀ (i : Nat) (x : V) (H : Hp), xs[i]? = some x → H = upd H1 D (.lst ((xs.take i).map g)) → Val te ((wipe σ vs).set j (some x)) H (g x)) (q : Qd (upd H1 D (.lst (xs.map g)))) :
    ∃ W : Nat → Nat → Hp → Prop, (∃ m, W 0 m (upd H1 D (.lst []))) ∧ ∀ i m H, W i m H →
      ((Itt K a).stop i H ∧ Qd H) ∨ ((Itt K a).go i H ∧ ∃ Nx : Hp → Prop, (∀ H', Nx H' → ∃ m', m' < m ∧ W (i + 1) m' H') ∧ ∀ x H', (Itt K a).yld i H x H' → gName j x (wipe σ vs) H' fun σ2 H2 => wipe σ2 vs = wipe σ vs ∧ tYes σ2 H2 fun b H3 =>
        if b = true then te σ2 H3 fun y H4 => ∃ acc, H4 D = some (.lst acc) ∧ acc.length < sizeLine ∧ Nx (upd H4 D (.lst (acc ++ [y]))) else Nx H3) :=
  lc_tup (fun i H => H = upd H1 D (.lst ((xs.take i).map g))) (by rw [List.take_zero]; rfl) (fun i H hi e => by rw [e]; exact ex_t (Ex.new hD) hx)
    (fun i x H hi e => ⟨hw _, by
      refine iteT (B := H = upd H1 D (.lst ((xs.take (i + 1)).map g))) ?_
      refine he i x H hi e _ ?_
      subst e
      refine ⟨_, upd_same, sz_lt ?_, ?_⟩
      · rw [List.length_map, List.length_take]; have := (List.getElem?_eq_some_iff.mp hi).1; omega
      · rw [upd_upd, List.take_add_one, hi, List.map_append]; rfl⟩) (fun H e => by rw [e, List.take_length]; exact q)
end
end G
namespace G
open PySem PySem.Spec PyProof.Rows L2 Evl
/-! ## rules within a comprehension's block: the written part by its letter -/
section
variable {X : Cx} {K : PySem.W.Frag}
theorem kIxT (h : X.K = K) : IxR X (rIxT K) := by subst h; exact ix_tup
theorem kIxL (h : X.K = K) : IxR X (rIxL K) := by subst h; exact ix_list
theorem kIx (h : X.K = K) : IxR X (rIx K) := by subst h; exact ix_seq
theorem kIn (h : X.K = K) : OpR X (compareOp .In) (rIn K false) := by subst h; exact op_in_seq
theorem kNotIn (h : X.K = K) : OpR X (compareOp .NotIn) (rIn K true) := by subst h; exact op_notIn_seq
theorem kLen (h : X.K = K) : CallR X (.builtin "len") (rLenS K) := by subst h; exact call_len_seq
theorem gStr {x s : Str} {t : Tok} {pos : Pos} (hg : Gl X x) (h : X.mg x = some (.str s t)) (hd : (x == ("__debug__" : Str)) = false := by decide) : PE X (.Name x pos) (tC (.str s)) := pe_glob (v := .str s) hg h ⟨t, rfl⟩ hd
theorem gInt {x : Str} {i : Int} {t : Tok} {pos : Pos} (hg : Gl X x) (h : X.mg x = some (.int i t)) (hd : (x == ("__debug__" : Str)) = false := by decide) : PE X (.Name x pos) (tC (.int i)) := pe_glob (v := .int i) hg h ⟨t, rfl⟩ hd
theorem gRef {x : Str} {a : Addr} {pos : Pos} (hg : Gl X x) (h : X.mg x = some (.ref a)) (hd : (x == ("__debug__" : Str)) = false := by decide) : PE X (.Name x pos) (tC (.ref a)) := pe_glob (v := .ref a) hg h rfl hd
theorem kSlL (h : X.K = K) : SlR X (rSlL K) := by subst h; exact sl_list
theorem kCatA (h : X.K = K) : OpR X (binaryOp .Add) (rCatA K) := by subst h; exact op_catA
theorem kAny (h : X.K = K) (hc : X.calm = true) : CallR X (.builtin "any") (rAny K) := by subst h; exact cr_any hc
theorem kAll (h : X.K = K) (hc : X.calm = true) : CallR X (.builtin "all") (rAll K) := by subst h; exact cr_all hc
theorem kLtT (h : X.K = K) (hu : X.A.units < cLine) : OpR X (compareOp .Lt) (rLtT K) := by subst h; exact op_ltT hu
theorem kPiT {e tg : Expr} {te : TE} (h : X.K = K) (he : PE X e te) : PI X tg e (iTup K te) := by subst h; exact pi_tup he
theorem kPiL {e tg : Expr} {te : TE} (h : X.K = K) (he : PE X e te) : PI X tg e (iList K te) := by subst h; exact pi_list he
theorem kSlA (h : X.K = K) : SlR X (rSlA K) := by subst h; exact sl_tupA
end
end G
namespace G
open PySem PySem.Spec PyProof.Rows L2 Evl
theorem dpAll_map {α : Type} {K : PySem.W.Frag} {H : Hp} {f : α → V} {g : α → PyData} (h : ∀ x, Dp K H (f x) (g x)) : ∀ l : List α, DpAll K H (l.map f) (l.map g)
  | [] => .nil
  | x :: r => .cons (h x) (dpAll_map h r)
theorem dp_ints {K : PySem.W.Frag} {H : Hp} {a : Addr} {ns : List Int} (h : SqL K H a (ns.map V.int)) : Dp K H (.ref a) (.list (ns.map PyData.int)) := .lst h (dpAll_map (fun i => .int i) ns)
theorem dp_nil {K : PySem.W.Frag} {H : Hp} {a : Addr} (h : SqL K H a []) : Dp K H (.ref a) (.list []) := .lst h .nil
theorem eqv_nil (l : List PyData) : PyData.eqv (.list l) (.list []) = l.isEmpty := by cases l <;> rfl
theorem shaped_nil : SeqAt.shaped (.list []) = true := by decide +kernel
end G
/-! enumerate over a tuple -/
namespace PySem
section
variable {prog : Program} {w : World} {A : Around} {E : Value → Shared → Prop} {s : Shared}
theorem G_tupOf {h : Heap} {a : Addr} {xs : Array Value} (p : PyProof.Rows.IsTup h a xs) : h.IsTuple a xs := p
set_option maxHeartbeats 2000000 in
theorem G_enumNew {v : Value} {o : Obj} {Hh : Heap → Prop} (B : Begins v o Hh) :
    Meets (Builtin.«enumerate.__new__» ⟨[.type "enumerate", v], []⟩) (fun _ R s => Hh s.heap ∧
      R (.ok (.ret (.ref (s.heap.push o).objs.size))) { s with heap := (s.heap.push o).push { cls := .type "enumerate", data := .fields #[.none, .bool false, .ref s.heap.objs.size, rawInt 0, .none, .none] } }) :=
  .of_wp fun pr wo ar rr sh hh => by
    obtain ⟨hp, gg, dd, tk, os⟩ := sh; obtain ⟨h1, h2⟩ := hh
    have sub0 := sub_enumerate
    have qq : ∀ {A' : Around} {E : Value → Shared → Prop} {Q : Value → Shared → Prop}, Q (.ref hp.objs.size) ⟨hp.push o, gg, dd, tk, os⟩ → wpAny (model pr wo) A' (pyIter v) Q E ⟨hp, gg, dd, tk, os⟩ :=
      fun z => B.iter pr wo _ _ ⟨hp, gg, dd, tk, os⟩ _ h1 z
    wp_walk using qq
    refine wpAny_stack_any fun _ => wpAny_pure ?_
    split
    · rename_i cc _ _ _ _ _
      cases (cc == Value.type "enumerate") <;> (wp_walk using qq; exact ⟨_, rfl, h2⟩)
    · wp_walk using qq
      exact ⟨_, rfl, h2⟩
theorem G_enumCall {v : Value} {o : Obj} {Hh : Heap → Prop} {Q : Value → Shared → Prop} (B : Begins v o Hh) (h1 : Hh s.heap)
    (k : ∀ h', IsEnum h' (s.heap.objs.size + 1) s.heap.objs.size 0 .none → h'.get? s.heap.objs.size = some o → (∀ b u, s.heap.get? b = some u → h'.get? b = some u) → Q (.ref (s.heap.objs.size + 1)) { s with heap := h' }) :
    wpAny (model prog w) A (call (.type "enumerate") [v]) Q E s := by
  refine callType_new F.called_enumerate (by decide) (F.typeCall_enumerate_1 _) (F.newCall_enumerate_1 _) (fun y => F.args_object_init_2 y _) F.entry_enumerate_new (G_enumNew B) ⟨h1, ?_⟩
  have hz : (s.heap.push o).objs.size = s.heap.objs.size + 1 := Heap.size_push ..
  show _ ∧ _
  rw [hz]
  have he : IsEnum ((s.heap.push o).push { cls := .type "enumerate", data := .fields #[.none, .bool false, .ref s.heap.objs.size, rawInt 0, .none, .none] }) (s.heap.objs.size + 1) s.heap.objs.size 0 .none := by
    have hs := Heap.get?_push_size (s.heap.push o) (o := { cls := .type "enumerate", data := .fields #[.none, .bool false, .ref s.heap.objs.size, rawInt 0, .none, .none] }) rfl
    rw [hz] at hs; exact hs
  exact ⟨⟨_, he, rfl⟩, k _ he (Heap.get?_push_of_some _ (Heap.get?_push_size _ B.free)) fun b u x => Heap.get?_push_of_some _ (Heap.get?_push_of_some _ x)⟩
end
end PySem
namespace G
open PySem PySem.Spec PyProof.Rows L2 Evl
/-- the tuple at a at each turn, each item in a new pair -/
def IteT (K : PySem.W.Frag) (a : Addr) : It :=
  ⟨fun i H => ∃ (xs : List V) (x : V), SqT K H a xs ∧ xs[i]? = some x,
   fun i H v H' => ∃ T x, v = .ref T ∧ H T = none ∧ H' = upd H T (.tup [.int (i : Nat), x]) ∧ ∀ xs, SqT K H a xs → xs[i]? = some x,
   fun i H => ∃ xs : List V, SqT K H a xs ∧ xs.length = i⟩
theorem turn_enumT {P : Program} {w : World} {K : PySem.W.Frag} {elts : List Expr} {kk : Nat} {tpos : Pos} (a e it : Addr) :
    Turn P w K (.Tuple elts kk tpos) (IteT K a) [e, it] e (fun i h => (∃ old, IsEnum h e it ((i : Nat) : Int) old) ∧ h.IsTupleIter it a i ∧ e ≠ it ∧ a ≠ it ∧ a ≠ e) where
  mem := by simp
  obj := fun i h st b hb => by
    obtain ⟨⟨old, he⟩, ⟨o, ho, hc, hd⟩, _⟩ := st
    have hb' : b = e ∨ b = it := by simpa using hb
    rcases hb' with z | z
    · rw [z]; exact ⟨_, he, fun v q => nomatch q⟩
    · rw [z]; exact ⟨o, ho, fun v q => by rw [hd] at q; cases q⟩
  keep := fun i h h' st k => by
    obtain ⟨⟨old, he⟩, hi, hne⟩ := st
    exact ⟨⟨old, k e (by simp) _ he⟩, hi.at fun o q => k it (by simp) o q, hne⟩
  item := by
    intro X hP hw hK hc i pins s σ H E I hf st hg
    subst hP hw hK
    obtain ⟨⟨old, he⟩, hit, hne, hai, hae⟩ := st
    obtain ⟨xs, x, hq, hx⟩ := hg
    obtain ⟨its, rv, p, hz⟩ := I.tuple hq
    obtain ⟨u, hu, ru⟩ := rv.get hx
    have hel : e < s.heap.objs.size := Heap.lt_size he
    have hil : it < s.heap.objs.size := by obtain ⟨_, q, _⟩ := hit; exact Heap.lt_size q
    have hh : X.A.handled = none := I.ok.hd hc
    refine wpAny_pyNext_enum_itemD (Draws.tuple (A := X.A.in1) hh it a hai its.toArray) he ⟨hit, p⟩ ?_ hne ?_ fun y h' tk hy ho hst hT hsz hk => ?_
    · have := (List.getElem?_eq_some_iff.mp hu).1
      simpa using this
    · intro hm
      have hm' : e = it ∨ e = a := by simpa using hm
      rcases hm' with z | z
      · exact hne z
      · exact hae z.symm
    · have ey : y = u := by
        have hy' : its[i]? = some y := by simpa using hy
        exact Option.some.inj (hy'.symm.trans hu)
      subst ey
      refine ⟨_, rfl, wpAny_letOwnedTupleGo_enum (s := { s with heap := h', toks := tk + 1 }) ho fun h'' he' sb => ?_⟩
      have hT2 : h''.get? s.heap.objs.size = some { cls := .type "tuple", data := .seq #[.int i tk, y] } := (sb.2 _ (Nat.ne_of_gt hel)).trans hT
      have new : ObjOk X.prog X.w (upd H s.heap.objs.size (.tup [.int (i : Nat), x])) h'' s.heap.objs.size (.tup [.int (i : Nat), x]) :=
        ⟨by show 2 ≤ sizeLine; decide, [.int i tk, y], .cons ⟨_, rfl⟩ (.cons ru .nil), ⟨_, hT2, rfl, _, rfl⟩⟩
      have I1 : Inv X pins σ (upd H s.heap.objs.size (.tup [.int (i : Nat), x])) { s with heap := h'', toks := tk + 1 } :=
        I.turnedNew (ch := [e, it]) (fun b ob hb q => (sb.2 b (fun z => hb (by simp [z]))).trans (hk b ob (fun z => hb (by simp [z])) (fun z => hb (by simp [z])) q)) hf (Nat.le_refl _) new
      refine ⟨.ref s.heap.objs.size, _, I1, rfl, ⟨_, x, rfl, I.hok.fresh (Nat.le_refl _), rfl, fun ys hy => by rw [I.tuple_inj hy hq]; exact hx⟩, ⟨⟨y, ?_⟩, hst.1.at fun o q => (sb.2 it (Ne.symm hne)).trans q, hne, hai, hae⟩, fun b hb => ?_⟩
      · have e1 : ((i + 1 : Nat) : Int) = (i : Int) + 1 := by omega
        rw [e1]; exact he'
      · have hb' : b < s.heap.objs.size := by
          have hb2 : b = e ∨ b = it := by simpa using hb
          rcases hb2 with z | z
          · rw [z]; exact hel
          · rw [z]; exact hil
        rw [upd_ne (Nat.ne_of_lt hb')]
        exact (hf b hb).1
  done := by
    intro X hP hw hK hc i pins s σ H E I hf st hg
    subst hP hw hK
    obtain ⟨⟨old, he⟩, hit, hne, hai, hae⟩ := st
    obtain ⟨xs, hq, hx⟩ := hg
    obtain ⟨its, rv, p, hz⟩ := I.tuple hq
    obtain ⟨f0, f1, f2, f3, f4, f5⟩ := hf it (by simp)
    have hl := rv.length
    have hh : X.A.handled = none := I.ok.hd hc
    have ei : its.toArray.size = i := by rw [List.size_toArray, ← hl]; exact hx
    have st2 : s.heap.IsTupleIter it a its.toArray.size ∧ s.heap.IsTuple a its.toArray := by rw [ei]; exact ⟨hit, p⟩
    exact wpAny_pyNext_enum_endD (Draws.tuple (A := X.A.in1) hh it a hai its.toArray) he st2 fun h' eb => ⟨rfl, I.turned (t' := s.toks) (fun b o hb q => eb b o hb q) f0 f1 f3 f4 f5⟩
  self := fun A i s Q E st h => by
    obtain ⟨⟨_, he⟩, _⟩ := st
    exact wpAny_pyIter_enum he h
def iEnumT (K : PySem.W.Frag) (ta : TA) : TI := fun σ H R => ta σ H fun vs H1 => ∃ a xs, vs = [.ref a] ∧ SqT K H1 a xs ∧ R (IteT K a) H1
theorem pi_enumT {X : Cx} {e : Expr} {ta : TA} {p pos tpos : Pos} {elts : List Expr} {kk : Nat} (hg : Gl X "enumerate") (hm : X.mg "enumerate" = none) (ha : PA X [e] ta) (hs : starEach [e] X.env = [(false, eval e X.env)] := by rfl) :
    PI X (.Tuple elts kk tpos) (.Call (.Name "enumerate" p) [e] [] pos) (iEnumT X.K ta) := by
  refine ⟨fun pins s σ H R I h => Call_ (ld_blt I hg hm boot_enumerate (PyProof.Rows.callWith_type1 (thn (ha.run pos pins s σ H _ I h) fun us s1 ⟨vs, H1, I1, r1, q1⟩ => ?_) hs rfl))⟩
  obtain ⟨a, xs, rfl, hq, q⟩ := q1
  cases r1 with
  | cons r rr =>
    cases rr
    cases r
    obtain ⟨its, rv, p', hz⟩ := I1.tuple hq
    have hal : a < s1.heap.objs.size := by obtain ⟨o, ho, _⟩ := p'; exact Heap.lt_size ho
    refine G_enumCall (begins_tuple a its.toArray) p' fun h' he hit hk => wpAny_pyIter_enum he ?_
    have I2 : Inv X pins σ H1 { s1 with heap := h' } := I1.kept (t' := s1.toks) hk
    refine ⟨s1.heap.objs.size + 1, [s1.heap.objs.size + 1, s1.heap.objs.size], _, _, H1, rfl, I2, turn_enumT a (s1.heap.objs.size + 1) s1.heap.objs.size,
      ⟨⟨.none, he⟩, ⟨_, hit, rfl, rfl⟩, Nat.succ_ne_self _, Nat.ne_of_lt hal, Nat.ne_of_lt (Nat.lt_succ_of_lt hal)⟩, fun b hb => ?_, q⟩
    have hb' : b = s1.heap.objs.size + 1 ∨ b = s1.heap.objs.size := by simpa using hb
    have hle : s1.heap.objs.size ≤ b := by
      rcases hb' with z | z
      · rw [z]; exact Nat.le_add_right _ _
      · rw [z]; exact Nat.le_refl _
    exact I1.fpOk hle (I1.hok.fresh hle)
theorem walk_enumT {K : PySem.W.Frag} {a : Addr} {xs : List V} : Walk (IteT K a) xs.length (fun H => SqT K H a xs) (YPair (fun i => some (.int (i : Nat))) (fun i => xs[i]?)) := by
  refine ⟨fun i _ hi q => ⟨xs, xs[i], q, by simp [hi]⟩, fun _ q => ⟨xs, q, rfl⟩, fun i H v H' _ q y => ?_⟩
  obtain ⟨T, x, h1, h2, h3, h4⟩ := y
  exact ⟨T, .int (i : Nat), x, h1, h2, h3, rfl, h4 xs q⟩
theorem kPiEnumT {X : Cx} {K : PySem.W.Frag} {e : Expr} {ta : TA} {p pos tpos : Pos} {elts : List Expr} {kk : Nat} (h : X.K = K) (hg : Gl X "enumerate") (hm : X.mg "enumerate" = none) (ha : PA X [e] ta) (hs : starEach [e] X.env = [(false, eval e X.env)] := by rfl) :
    PI X (.Tuple elts kk tpos) (.Call (.Name "enumerate" p) [e] [] pos) (iEnumT K ta) := by subst h; exact pi_enumT hg hm ha hs
end G
/-! t[a::2], t a tuple -/
namespace HT
open PySem PySem.Spec PyProof.Rows L2
section
variable {prog : Program} {w : World} {A : Around} {E : Value → Shared → Prop} {s : Shared}
theorem g_applied {sl : Addr} {vl vu vs : Value} {lo hi : Option Int} {st : Int} {n : Nat} {Q : Int × Int × Nat → Shared → Prop} (hs : s.heap.IsSliceOf sl vl vu vs) (pl : IsPart vl lo) (pu : IsPart vu hi) (ps : IsPart vs (some st)) (h0 : st ≠ 0)
    (h : Q ((Builtin.Slice.sliceAdjust lo hi st (n : Int)).1, st, Builtin.Slice.slicePlaces (Builtin.Slice.sliceAdjust lo hi st (n : Int)).1 (Builtin.Slice.sliceAdjust lo hi st (n : Int)).2 st) s) :
    wpAny (model prog w) A (Builtin.Slice.sliceApplied (.ref sl) (pure (n : Int))) Q E s := by
  obtain ⟨ob, hob, _, hd⟩ := id hs
  unfold Builtin.Slice.sliceApplied Builtin.Slice.sliceFields
  refine wpAny_bind (wpAny_bind (wpAny_field hob hd (x := vl) rfl (wpAny_bind (wpAny_field hob hd (x := vu) rfl (wpAny_bind (wpAny_field hob hd (x := vs) rfl (wpAny_pure ?_)))))))
  refine wpAny_bind (slicePart_ ps ?_)
  show wpAny _ _ (if (st == 0) = true then _ else _) _ _ s
  rw [if_neg (by intro q; exact h0 (eq_of_beq q))]
  exact wpAny_bind (slicePart_ pl (wpAny_bind (slicePart_ pu (wpAny_bind (wpAny_pure (wpAny_pure h))))))
def stepped (xs : List Value) (lo st : Int) (n : Nat) : List Value := (List.range n).filterMap fun (k : Nat) => xs.toArray[(lo + (k : Int) * st).toNat]?
theorem g_getStep {t sl : Addr} {its : List Value} {vl vu vs : Value} {lo hi : Option Int} {st : Int} {Q : Value → Shared → Prop} (ht : IsTup s.heap t its.toArray) (hs : s.heap.IsSliceOf sl vl vu vs) (pl : IsPart vl lo) (pu : IsPart vu hi) (ps : IsPart vs (some st)) (h0 : st ≠ 0) (h1 : st ≠ 1)
    (hz : (stepped its (Builtin.Slice.sliceAdjust lo hi st (its.toArray.size : Int)).1 st (Builtin.Slice.slicePlaces (Builtin.Slice.sliceAdjust lo hi st (its.toArray.size : Int)).1 (Builtin.Slice.sliceAdjust lo hi st (its.toArray.size : Int)).2 st)).length ≤ sizeLine)
    (h : Q (.ref s.heap.objs.size) { s with heap := s.heap.push { cls := .type "tuple", data := .seq (stepped its (Builtin.Slice.sliceAdjust lo hi st (its.toArray.size : Int)).1 st (Builtin.Slice.slicePlaces (Builtin.Slice.sliceAdjust lo hi st (its.toArray.size : Int)).1 (Builtin.Slice.sliceAdjust lo hi st (its.toArray.size : Int)).2 st)).toArray } }) :
    wpAny (model prog w) A (getItem (.ref t) (.ref sl)) Q E s := by
  have ok : sizeOk (.seq (stepped its (Builtin.Slice.sliceAdjust lo hi st (its.toArray.size : Int)).1 st (Builtin.Slice.slicePlaces (Builtin.Slice.sliceAdjust lo hi st (its.toArray.size : Int)).1 (Builtin.Slice.sliceAdjust lo hi st (its.toArray.size : Int)).2 st)).toArray) := by
    show (stepped its _ st _).toArray.size ≤ sizeLine
    rw [List.size_toArray]; exact hz
  obtain ⟨ob, hob, hc, hd⟩ := id hs
  have hTs : s.TypeIs (.ref sl) "slice" := ⟨ob, hob, hc⟩
  unfold getItem
  try with_reducible refine wpAny_holding ?_
  first | refine wpAny_bind (wpAny_pure ?_) | skip
  refine wpAny_bind (wpAny_sequenceKey ht.typeIs (by decide) ?_)
  refine wpAny_bind (wpAny_callSpecial?_slot (name := Str.ofString "__getitem__") ht.typeIs slot_tuple_getitem (wpAny_call_entry slot_tuple_getitem ht.typeIs entry_tuple_getitem ?_ (args_tuple_getitem _ _)))
  show wpAny _ _ (Builtin.Tuple.tupleItemsOf (.ref t) >>= _) _ _ s
  refine wpAny_bind (tupleItemsOf_ ht (wpAny_bind (wpAny_typeOf hTs ?_)))
  rw [if_pos (by decide)]
  refine wpAny_bind (g_applied hs pl pu ps h0 ?_)
  generalize (Builtin.Slice.sliceAdjust lo hi st (its.toArray.size : Int)).1 = l0 at *
  generalize Builtin.Slice.slicePlaces l0 (Builtin.Slice.sliceAdjust lo hi st (its.toArray.size : Int)).2 st = n0 at *
  have hno : ¬ ((l0 == 0 && st == 1 && n0 == its.toArray.size) = true) := by
    intro q
    rw [Bool.and_eq_true, Bool.and_eq_true] at q
    exact h1 (eq_of_beq q.1.2)
  show wpAny _ _ (if (l0 == 0 && st == 1 && n0 == its.toArray.size) = true then _ else _) _ _ s
  rw [if_neg hno]
  first
    | exact wpAny_bind (m := Builtin.Tuple.tupleExact _) (wpAny_newObj_type (wpAny_pure ⟨_, rfl, wpAny_pure h⟩) ok)
    | exact wpAny_bind (m := Builtin.Tuple.tupleExact _) (wpAny_newObj_type (wpAny_bind (wpAny_pure (wpAny_pure ⟨_, rfl, wpAny_pure h⟩))) ok)
    | exact wpAny_bind (wpAny_bind (m := Builtin.Tuple.tupleExact _) (wpAny_newObj_type (wpAny_pure (wpAny_pure ⟨_, rfl, wpAny_pure h⟩)) ok))
    | exact wpAny_bind (wpAny_bind (m := Builtin.Tuple.tupleExact _) (wpAny_newObj_type (wpAny_pure ⟨_, rfl, wpAny_pure h⟩) ok))
end
end HT
namespace G
open PySem PySem.Spec PyProof.Rows L2 Evl
/-- every second item from a on -/
def halfL {α : Type} (a : Nat) (xs : List α) : List α := (List.range ((xs.length - a + 1) / 2)).filterMap fun k => xs[a + 2 * k]?
theorem halfL_len {α : Type} (a : Nat) (xs : List α) : (halfL a xs).length ≤ xs.length + 1 := by
  unfold halfL
  refine Nat.le_trans (List.length_filterMap_le _ _) ?_
  rw [List.length_range]; omega
theorem vals_filterMap {f : Nat → Option V} {g : Nat → Option Value} : ∀ {l : List Nat}, (∀ k, k ∈ l → RelO (f k) (g k)) → Vals (l.filterMap f) (l.filterMap g)
  | [], _ => .nil
  | k :: r, h => by
    have hk := h k (List.mem_cons_self ..)
    have ih := vals_filterMap (l := r) fun j hj => h j (List.mem_cons_of_mem _ hj)
    rw [List.filterMap_cons, List.filterMap_cons]
    cases e : f k with
    | none =>
      cases e2 : g k with
      | none => exact ih
      | some u => rw [e, e2] at hk; exact hk.elim
    | some v =>
      cases e2 : g k with
      | none => rw [e, e2] at hk; exact hk.elim
      | some u => rw [e, e2] at hk; exact .cons hk ih
def tHalf (K : PySem.W.Frag) (a : Nat) (te : TE) : TE := fun σ H Q => te σ H fun x H1 => ∃ t xs, x = .ref t ∧ SqT K H1 t xs ∧ xs.length ≤ 100000 ∧ ∀ p, H1 p = none → Q (.ref p) (upd H1 p (.tup (halfL a xs)))
theorem half_places {a n : Nat} (h : a ≤ 1) : (Builtin.Slice.sliceAdjust (some (a : Int)) none 2 (n : Int)).1 = ((min a n : Nat) : Int) ∧
    Builtin.Slice.slicePlaces (Builtin.Slice.sliceAdjust (some (a : Int)) none 2 (n : Int)).1 (Builtin.Slice.sliceAdjust (some (a : Int)) none 2 (n : Int)).2 2 = (n - a + 1) / 2 := by
  have h2 : ¬ ((2 : Int) < 0) := by omega
  have h3 : (2 : Int) > 0 := by omega
  have ha : ¬ ((a : Int) < 0) := by omega
  have e : Builtin.Slice.sliceAdjust (some (a : Int)) none 2 (n : Int) = (((min a n : Nat) : Int), (n : Int)) := by
    unfold Builtin.Slice.sliceAdjust
    simp only [h2, if_false, ha]
    refine Prod.ext ?_ rfl
    show min (a : Int) (n : Int) = ((min a n : Nat) : Int)
    omega
  rw [e]
  refine ⟨rfl, ?_⟩
  show Builtin.Slice.slicePlaces ((min a n : Nat) : Int) (n : Int) 2 = (n - a + 1) / 2
  unfold Builtin.Slice.slicePlaces
  simp only [h3, if_true]
  split <;> omega
section
variable {X : Cx}
theorem pe_half {e : Expr} {te : TE} {a : Nat} {k1 k2 : Nat} {p1 p2 p3 pos : Pos} (ha : a ≤ 1) (he : PE X e te) : PE X (.Subscript e (.Slice (some (.Constant (.int (a : Int)) k1 p1)) none (some (.Constant (.int 2) k2 p2)) p3) pos) (tHalf X.K a te) := by
  refine ⟨fun pins s σ H Q I h => Subscript_ (thn (he.run pins s σ H _ I h) fun v s1 ⟨x, H1, I1, r1, q1⟩ => ?_)⟩
  obtain ⟨t, xs, rfl, hx, hlen, q⟩ := q1
  cases r1
  have hlo : PO X (some (.Constant (.int (a : Int)) k1 p1)) (tPart (tC (.int (a : Int)))) := po_some pe_int
  have hst : PO X (some (.Constant (.int 2) k2 p2)) (tPart (tC (.int 2))) := po_some pe_int
  refine wpAny_Slice (thn (hlo.run pins s1 σ H1 (fun o H2 => o = some (a : Int) ∧ H2 = H1) I1 ⟨_, rfl, rfl, rfl⟩) fun vl s2 ⟨l, H2, I2, pl, el, e2⟩ => ?_)
  subst el e2
  refine thn (po_none.run pins s2 σ H2 (fun o H3 => o = none ∧ H3 = H2) I2 ⟨rfl, rfl⟩) fun vu s3 ⟨u, H3, I3, pu, eu, e3⟩ => ?_
  subst eu e3
  refine thn (hst.run pins s3 σ H3 (fun o H4 => o = some 2 ∧ H4 = H3) I3 ⟨_, rfl, rfl, rfl⟩) fun vs s4 ⟨o, H4, I4, ps, eo, e4⟩ => ?_
  subst eo e4
  have I5 : Inv X pins σ H4 { s4 with heap := s4.heap.push { cls := .type "slice", data := .fields #[vl, vu, vs] } } := I4.kept (t' := s4.toks) fun b ob q => Heap.get?_push_of_some _ q
  obtain ⟨its, r, ht, hz⟩ := I5.tuple hx
  have hl : its.toArray.size = xs.length := by rw [List.size_toArray]; exact r.length.symm
  obtain ⟨hp1, hp2⟩ := half_places (n := xs.length) ha
  have hrel : Vals (halfL a xs) (HT.stepped its ((min a xs.length : Nat) : Int) 2 ((xs.length - a + 1) / 2)) := by
    unfold halfL HT.stepped
    refine vals_filterMap fun k hk => ?_
    have hk' := List.mem_range.mp hk
    have hi : a + 2 * k < xs.length := by omega
    have en : (((min a xs.length : Nat) : Int) + (k : Int) * 2).toNat = a + 2 * k := by omega
    rw [en, List.getElem?_eq_getElem hi]
    obtain ⟨u, hu, ru⟩ := r.get (List.getElem?_eq_getElem hi)
    rw [List.getElem?_toArray, hu]
    exact ru
  have hsz : (halfL a xs).length ≤ sizeLine := sz_of (by
    unfold halfL
    refine Nat.le_trans (List.length_filterMap_le _ _) ?_
    rw [List.length_range]
    omega)
  show wpAny (model X.prog X.w) X.A (subscriptTail e (.Slice (some (.Constant (.int (a : Int)) k1 p1)) none (some (.Constant (.int 2) k2 p2)) p3) (.ref t) (.ref s4.heap.objs.size)) (EP X pins σ Q) X.xe { s4 with heap := s4.heap.push { cls := .type "slice", data := .fields #[vl, vu, vs] } }
  refine tail_any (ops := [.ref t, .ref s4.heap.objs.size]) ht.typeIs PyProof.Rows.slot_tuple_getitem.lookup ?_ (by with_unfolding_all rfl)
  refine HT.g_getStep ht (Heap.IsSliceOf.new _ vl vu vs) pl pu ps (by decide) (by decide) ?_ ?_
  · rw [hl, hp2, hp1, ← hrel.length]; exact hsz
  · rw [hl, hp2, hp1]
    refine ⟨.ref _, _, I5.laid (t' := s4.toks) (o := .tup (halfL a xs)) (fun b ob q => Heap.get?_push_of_some _ q) (Nat.le_refl _) ?_, rfl, q _ (I5.hok.fresh (Nat.le_refl _))⟩
    exact ⟨hsz, _, hrel, ⟨_, Heap.get?_push_size _ rfl, rfl, _, rfl⟩⟩
end
end G
namespace G
/-! ## decision diagrams: the mathematics -/
theorem or3 {P : Nat → Prop} {a b c p : Nat} (h : p = a ∨ p = b ∨ p = c) (ha : P a) (hb : P b) (hc : P c) : P p := by
  rcases h with e | e | e
  · rw [e]; exact ha
  · rw [e]; exact hb
  · rw [e]; exact hc
structure Nd where
  k : Nat
  lo : Nat
  hi : Nat
  deriving DecidableEq
def ndA (N : List Nd) (i : Nat) : Nd := N.getD i ⟨0, 0, 0⟩
theorem ndA_of {N : List Nd} {i : Nat} {n : Nd} (h : N[i]? = some n) : ndA N i = n := by unfold ndA; rw [List.getD_eq_getElem?_getD, h]; rfl
theorem nd_at {N : List Nd} {i : Nat} (h : i < N.length) : N[i]? = some (ndA N i) := by unfold ndA; rw [List.getD_eq_getElem?_getD, List.getElem?_eq_getElem h]; rfl
structure GoodN (N : List Nd) : Prop where
  n0 : N[0]? = some ⟨0, 0, 0⟩
  n1 : N[1]? = some ⟨0, 1, 1⟩
  lt : ∀ i n, 2 ≤ i → N[i]? = some n → n.lo < i ∧ n.hi < i ∧ n.lo ≠ n.hi
  ord : ∀ i n, 2 ≤ i → N[i]? = some n → ∀ c m, (c = n.lo ∨ c = n.hi) → 2 ≤ c → N[c]? = some m → n.k < m.k
  uniq : ∀ i j n, 2 ≤ i → 2 ≤ j → N[i]? = some n → N[j]? = some n → i = j
def evF (N : List Nd) (f : Nat → Bool) : Nat → Nat → Bool
  | 0, a => a == 1
  | n + 1, a => if a < 2 then a == 1 else evF N f n (if f (ndA N a).k = true then (ndA N a).hi else (ndA N a).lo)
def ev (N : List Nd) (a : Nat) (f : Nat → Bool) : Bool := evF N f a a
def setF (f : Nat → Bool) (k : Nat) (v : Bool) : Nat → Bool := fun j => if j = k then v else f j
/-- the variable at a is t at the least -/
def lvGe (N : List Nd) (t a : Nat) : Prop := ∀ m, 2 ≤ a → N[a]? = some m → t ≤ m.k
section
variable {N : List Nd}
theorem GoodN.two (G : GoodN N) : 2 ≤ N.length := (List.getElem?_eq_some_iff.mp G.n1).1
theorem evF_enough (G : GoodN N) (f : Nat → Bool) : ∀ n m a, a ≤ n → a ≤ m → a < N.length → evF N f n a = evF N f m a
  | 0, 0, _, _, _, _ => rfl
  | 0, m + 1, a, h, _, _ => by
    show _ = if a < 2 then a == 1 else _
    rw [if_pos (by omega)]; rfl
  | n + 1, 0, a, _, h, _ => by
    show (if a < 2 then a == 1 else _) = _
    rw [if_pos (by omega)]; rfl
  | n + 1, m + 1, a, h1, h2, hl => by
    show (if a < 2 then a == 1 else _) = if a < 2 then a == 1 else _
    by_cases h : a < 2
    · rw [if_pos h, if_pos h]
    · rw [if_neg h, if_neg h]
      obtain ⟨l1, l2, _⟩ := G.lt a _ (by omega) (nd_at hl)
      refine evF_enough G f n m _ ?_ ?_ ?_ <;> (split <;> omega)
theorem ev_lt2 {a : Nat} {f : Nat → Bool} (h : a < 2) : ev N a f = (a == 1) := by
  unfold ev
  cases a with
  | zero => rfl
  | succ a => show (if a + 1 < 2 then _ else _) = _; rw [if_pos h]
theorem ev_node (G : GoodN N) {a : Nat} {n : Nd} (h2 : 2 ≤ a) (h : N[a]? = some n) (f : Nat → Bool) : ev N a f = ev N (if f n.k = true then n.hi else n.lo) f := by
  have hl := (List.getElem?_eq_some_iff.mp h).1
  obtain ⟨l1, l2, _⟩ := G.lt a n h2 h
  obtain ⟨b, rfl⟩ : ∃ b, a = b + 1 := ⟨a - 1, by omega⟩
  unfold ev
  show (if b + 1 < 2 then _ else evF N f b (if f (ndA N (b + 1)).k = true then (ndA N (b + 1)).hi else (ndA N (b + 1)).lo)) = _
  rw [if_neg (by omega), ndA_of h]
  refine evF_enough G f _ _ _ ?_ (Nat.le_refl _) ?_ <;> (split <;> omega)
theorem ev_indep (G : GoodN N) (t : Nat) : ∀ a, a < N.length → lvGe N t a → ∀ f g : Nat → Bool, (∀ k, t ≤ k → f k = g k) → ev N a f = ev N a g := by
  intro a
  induction a using Nat.strongRecOn with
  | _ a ih =>
    intro hl hv f g e
    by_cases h : a < 2
    · rw [ev_lt2 h, ev_lt2 h]
    · have hn := nd_at hl
      obtain ⟨l1, l2, _⟩ := G.lt a _ (by omega) hn
      have hk := hv _ (by omega) hn
      rw [ev_node G (by omega) hn, ev_node G (by omega) hn, e _ hk]
      have go : ∀ c, c = (ndA N a).lo ∨ c = (ndA N a).hi → ev N c f = ev N c g := fun c hc => by
        have hca : c < a := by rcases hc with z | z <;> omega
        refine ih c hca (by omega) (fun m h2 hm => ?_) f g e
        have := G.ord a _ (by omega) hn c m hc h2 hm
        omega
      by_cases z : g (ndA N a).k = true
      · rw [if_pos z]; exact go _ (.inr rfl)
      · rw [if_neg z]; exact go _ (.inl rfl)
theorem ev_set (G : GoodN N) {b k : Nat} {v : Bool} (hl : b < N.length) (hv : lvGe N (k + 1) b) (f : Nat → Bool) : ev N b (setF f k v) = ev N b f :=
  ev_indep G (k + 1) b hl hv _ _ fun j hj => by unfold setF; rw [if_neg (by omega)]
theorem kid_lv (G : GoodN N) {a c : Nat} {n : Nd} (h2 : 2 ≤ a) (h : N[a]? = some n) (hc : c = n.lo ∨ c = n.hi) : c < N.length ∧ lvGe N (n.k + 1) c := by
  have hl := (List.getElem?_eq_some_iff.mp h).1
  obtain ⟨l1, l2, _⟩ := G.lt a n h2 h
  exact ⟨by rcases hc with z | z <;> omega, fun m hm1 hm => G.ord a n h2 h c m hc hm1 hm⟩
theorem ev_kid (G : GoodN N) {a : Nat} {n : Nd} (h2 : 2 ≤ a) (h : N[a]? = some n) (v : Bool) (f : Nat → Bool) : ev N (if v = true then n.hi else n.lo) f = ev N a (setF f n.k v) := by
  rw [ev_node G h2 h]
  have e : setF f n.k v n.k = v := by unfold setF; rw [if_pos rfl]
  rw [e]
  obtain ⟨k1, k2⟩ := kid_lv G h2 h (c := if v = true then n.hi else n.lo) (by cases v; exact .inl rfl; exact .inr rfl)
  exact (ev_set G k1 k2 f).symm
theorem canon (G : GoodN N) : ∀ n a b, a < n → b < n → a < N.length → b < N.length → (∀ f, ev N a f = ev N b f) → a = b
  | 0, _, _, h, _, _, _, _ => absurd h (Nat.not_lt_zero _)
  | n + 1, a, b, ha, hb, hal, hbl, h => by
    have ih := canon G n
    have differ : ∀ a b, a < n + 1 → 2 ≤ a → a < N.length → b < N.length → lvGe N ((ndA N a).k + 1) b → (∀ f, ev N a f = ev N b f) → False := fun a b ha h2 hal hbl hv e => by
      have hn := nd_at hal
      obtain ⟨l1, l2, l3⟩ := G.lt a _ h2 hn
      refine l3 (ih _ _ (by omega) (by omega) (by omega) (by omega) fun f => ?_)
      have e1 := ev_kid G h2 hn false f
      have e2 := ev_kid G h2 hn true f
      rw [e, ev_set G hbl hv] at e1 e2
      exact e1.trans e2.symm
    by_cases a2 : a < 2
    · by_cases b2 : b < 2
      · have := h fun _ => false
        rw [ev_lt2 a2, ev_lt2 b2] at this
        obtain rfl | rfl : a = 0 ∨ a = 1 := by omega
        · obtain rfl | rfl : b = 0 ∨ b = 1 := by omega
          · rfl
          · cases this
        · obtain rfl | rfl : b = 0 ∨ b = 1 := by omega
          · cases this
          · rfl
      · exact (differ b a hb (by omega) hbl hal (fun m h2 => absurd h2 (by omega)) fun f => (h f).symm).elim
    · by_cases b2 : b < 2
      · exact (differ a b ha (by omega) hal hbl (fun m h2 => absurd h2 (by omega)) h).elim
      · have hna := nd_at hal
        have hnb := nd_at hbl
        rcases Nat.lt_trichotomy (ndA N a).k (ndA N b).k with z | z | z
        · exact (differ a b ha (by omega) hal hbl (fun m _ hm => by rw [hnb] at hm; cases hm; omega) h).elim
        · obtain ⟨a1, a3, _⟩ := G.lt a _ (by omega) hna
          obtain ⟨b1, b3, _⟩ := G.lt b _ (by omega) hnb
          have eL : (ndA N a).lo = (ndA N b).lo := ih _ _ (by omega) (by omega) (by omega) (by omega) fun f => by
            have e1 := ev_kid G (by omega) hna false f
            have e2 := ev_kid G (by omega) hnb false f
            rw [h, z] at e1
            exact e1.trans e2.symm
          have eH : (ndA N a).hi = (ndA N b).hi := ih _ _ (by omega) (by omega) (by omega) (by omega) fun f => by
            have e1 := ev_kid G (by omega) hna true f
            have e2 := ev_kid G (by omega) hnb true f
            rw [h, z] at e1
            exact e1.trans e2.symm
          refine G.uniq a b (ndA N b) (by omega) (by omega) ?_ hnb
          rw [hna]
          congr 1
          generalize ndA N a = x at *
          generalize ndA N b = y at *
          cases x; cases y
          simp only at z eL eH
          rw [z, eL, eH]
        · exact (differ b a hb (by omega) hbl hal (fun m _ hm => by rw [hna] at hm; cases hm; omega) fun f => (h f).symm).elim
theorem canon' (G : GoodN N) {a b : Nat} (ha : a < N.length) (hb : b < N.length) (h : ∀ f, ev N a f = ev N b f) : a = b := canon G N.length a b ha hb ha hb h
theorem lv_of_indep (G : GoodN N) {r t : Nat} (hr : r < N.length) (h : ∀ f g : Nat → Bool, (∀ k, t ≤ k → f k = g k) → ev N r f = ev N r g) : lvGe N t r := by
  intro m h2 hm
  refine Decidable.byContradiction fun z => ?_
  obtain ⟨l1, l2, l3⟩ := G.lt r m h2 hm
  refine l3 (canon' G (by omega) (by omega) fun f => ?_)
  have e1 := ev_kid G h2 hm false f
  have e2 := ev_kid G h2 hm true f
  refine e1.trans ((h _ _ fun k hk => ?_).trans e2.symm)
  unfold setF
  rw [if_neg (by omega), if_neg (by omega)]
end
/-! ### one node more -/
theorem pre_at {N N' : List Nd} (p : N <+: N') {a : Nat} (h : a < N.length) : N'[a]? = N[a]? := by
  obtain ⟨l, rfl⟩ := p
  rw [List.getElem?_append_left h]
theorem pre_nd {N N' : List Nd} (p : N <+: N') {a : Nat} (h : a < N.length) : ndA N' a = ndA N a := by
  unfold ndA; rw [List.getD_eq_getElem?_getD, List.getD_eq_getElem?_getD, pre_at p h]
theorem pre_len {N N' : List Nd} (p : N <+: N') : N.length ≤ N'.length := p.length_le
theorem pre_lv {N N' : List Nd} (p : N <+: N') {a t : Nat} (h : a < N.length) : lvGe N' t a ↔ lvGe N t a := by unfold lvGe; rw [pre_at p h]
theorem pre_evF {N N' : List Nd} (G : GoodN N) (p : N <+: N') (f : Nat → Bool) : ∀ n a, a < N.length → evF N' f n a = evF N f n a
  | 0, _, _ => rfl
  | n + 1, a, h => by
    show (if a < 2 then a == 1 else evF N' f n (if f (ndA N' a).k = true then (ndA N' a).hi else (ndA N' a).lo)) = if a < 2 then a == 1 else evF N f n (if f (ndA N a).k = true then (ndA N a).hi else (ndA N a).lo)
    rw [pre_nd p h]
    by_cases z : a < 2
    · rw [if_pos z, if_pos z]
    · rw [if_neg z, if_neg z]
      obtain ⟨l1, l2, _⟩ := G.lt a _ (by omega) (nd_at h)
      refine pre_evF G p f n _ ?_
      split <;> omega
theorem pre_ev {N N' : List Nd} (G : GoodN N) (p : N <+: N') {a : Nat} (h : a < N.length) (f : Nat → Bool) : ev N' a f = ev N a f := pre_evF G p f a a h
theorem good_snoc {N : List Nd} (G : GoodN N) {n : Nd} (h1 : n.lo < N.length) (h2 : n.hi < N.length) (hne : n.lo ≠ n.hi) (v1 : lvGe N (n.k + 1) n.lo) (v2 : lvGe N (n.k + 1) n.hi) (hno : ∀ i, 2 ≤ i → N[i]? ≠ some n) : GoodN (N ++ [n]) := by
  have p : N <+: N ++ [n] := List.prefix_append _ _
  have two := G.two
  have cs : ∀ {i m}, (N ++ [n])[i]? = some m → (i < N.length ∧ N[i]? = some m) ∨ (i = N.length ∧ m = n) := fun {i m} h => by
    by_cases hi : i < N.length
    · rw [List.getElem?_append_left hi] at h; exact .inl ⟨hi, h⟩
    · have hl := (List.getElem?_eq_some_iff.mp h).1
      rw [List.length_append] at hl
      have : i < N.length + 1 := hl
      obtain rfl : i = N.length := by omega
      rw [List.getElem?_append_right (Nat.le_refl _), Nat.sub_self] at h
      cases h
      exact .inr ⟨rfl, rfl⟩
  refine ⟨by rw [pre_at p (by omega)]; exact G.n0, by rw [pre_at p (by omega)]; exact G.n1, fun i m hi hm => ?_, fun i m hi hm c q hc h2c hq => ?_, fun i j m hi hj hmi hmj => ?_⟩
  · rcases cs hm with ⟨z, y⟩ | ⟨rfl, rfl⟩
    · exact G.lt i m hi y
    · exact ⟨h1, h2, hne⟩
  · rcases cs hm with ⟨z, y⟩ | ⟨rfl, rfl⟩
    · have := G.lt i m hi y
      rw [pre_at p (by rcases hc with e | e <;> omega)] at hq
      exact G.ord i m hi y c q hc h2c hq
    · rw [pre_at p (by rcases hc with e | e <;> omega)] at hq
      rcases hc with e | e
      · subst e; exact v1 q h2c hq
      · subst e; exact v2 q h2c hq
  · rcases cs hmi with ⟨z, y⟩ | ⟨e1, e2⟩ <;> rcases cs hmj with ⟨z', y'⟩ | ⟨e1', e2'⟩
    · exact G.uniq i j m hi hj y y'
    · subst e2'; exact absurd y (hno i hi)
    · subst e2; exact absurd y' (hno j hj)
    · omega
/-! ### choices -/
structure Tsk where
  c : Nat
  a : Nat
  b : Nat
  deriving DecidableEq
def okT (N : List Nd) (τ : Tsk) : Prop := τ.c < N.length ∧ τ.a < N.length ∧ τ.b < N.length
def tF (N : List Nd) (τ : Tsk) (f : Nat → Bool) : Bool := if ev N τ.c f = true then ev N τ.a f else ev N τ.b f
def lvT (N : List Nd) (t : Nat) (τ : Tsk) : Prop := lvGe N t τ.c ∧ lvGe N t τ.a ∧ lvGe N t τ.b
def halfA (N : List Nd) (a t : Nat) (v : Bool) : Nat := if a < 2 ∨ (ndA N a).k ≠ t then a else if v = true then (ndA N a).hi else (ndA N a).lo
def halfT (N : List Nd) (τ : Tsk) (t : Nat) (v : Bool) : Tsk := ⟨halfA N τ.c t v, halfA N τ.a t v, halfA N τ.b t v⟩
def IsTop (N : List Nd) (t : Nat) (τ : Tsk) : Prop := (∃ p, (p = τ.c ∨ p = τ.a ∨ p = τ.b) ∧ 2 ≤ p ∧ (ndA N p).k = t) ∧ lvT N t τ
def knB (τ : Tsk) (look : Option Nat) : Option Nat :=
  if τ.c = 1 ∨ τ.a = τ.b then some τ.a else if τ.c = 0 then some τ.b else if (τ.a = 1 ∨ τ.a = τ.c) ∧ (τ.b = 0 ∨ τ.b = τ.c) then some τ.c else look
def MemOk (N : List Nd) (M : Tsk → Option Nat) : Prop := ∀ τ r, M τ = some r → okT N τ ∧ r < N.length ∧ ∀ f, ev N r f = tF N τ f
section
variable {N : List Nd}
theorem half_ok (G : GoodN N) {a t : Nat} {v : Bool} (hl : a < N.length) (hv : lvGe N t a) : halfA N a t v < N.length ∧ lvGe N (t + 1) (halfA N a t v) ∧ ∀ f, ev N (halfA N a t v) f = ev N a (setF f t v) := by
  unfold halfA
  by_cases h : a < 2 ∨ (ndA N a).k ≠ t
  · rw [if_pos h]
    have hv1 : lvGe N (t + 1) a := fun m h2 hm => by
      have := hv m h2 hm
      have e := ndA_of hm
      rcases h with z | z
      · omega
      · rw [e] at z; omega
    exact ⟨hl, hv1, fun f => (ev_set G hl hv1 f).symm⟩
  · rw [if_neg h]
    have h2 : 2 ≤ a := Nat.le_of_not_lt fun z => h (.inl z)
    have hk : (ndA N a).k = t := Decidable.byContradiction fun z => h (.inr z)
    have hn := nd_at hl
    obtain ⟨k1, k2⟩ := kid_lv G h2 hn (c := if v = true then (ndA N a).hi else (ndA N a).lo) (by cases v; exact .inl rfl; exact .inr rfl)
    rw [hk] at k2
    refine ⟨k1, k2, fun f => ?_⟩
    have := ev_kid G h2 hn v f
    rw [hk] at this
    exact this
theorem halfT_ok (G : GoodN N) {τ : Tsk} {t : Nat} {v : Bool} (hl : okT N τ) (hv : lvT N t τ) : okT N (halfT N τ t v) ∧ lvT N (t + 1) (halfT N τ t v) ∧ ∀ f, tF N (halfT N τ t v) f = tF N τ (setF f t v) := by
  obtain ⟨c1, c2, c3⟩ := half_ok G (v := v) hl.1 hv.1
  obtain ⟨a1, a2, a3⟩ := half_ok G (v := v) hl.2.1 hv.2.1
  obtain ⟨b1, b2, b3⟩ := half_ok G (v := v) hl.2.2 hv.2.2
  refine ⟨⟨c1, a1, b1⟩, ⟨c2, a2, b2⟩, fun f => ?_⟩
  show (if ev N (halfA N τ.c t v) f = true then ev N (halfA N τ.a t v) f else ev N (halfA N τ.b t v) f) = _
  rw [c3, a3, b3]; rfl
theorem kn_ok {τ : Tsk} {look : Option Nat} (hl : okT N τ) (hm : ∀ r, look = some r → r < N.length ∧ ∀ f, ev N r f = tF N τ f) : ∀ r, knB τ look = some r → r < N.length ∧ ∀ f, ev N r f = tF N τ f := by
  intro r h
  unfold knB at h
  by_cases h1 : τ.c = 1 ∨ τ.a = τ.b
  · rw [if_pos h1] at h
    cases h
    refine ⟨hl.2.1, fun f => ?_⟩
    unfold tF
    rcases h1 with z | z
    · rw [z, ev_lt2 (a := 1) (by decide), if_pos (show ((1 : Nat) == 1) = true by decide)]
    · rw [← z]; by_cases y : ev N τ.c f = true
      · rw [if_pos y]
      · rw [if_neg y]
  · rw [if_neg h1] at h
    by_cases h2 : τ.c = 0
    · rw [if_pos h2] at h
      cases h
      refine ⟨hl.2.2, fun f => ?_⟩
      unfold tF
      rw [h2, ev_lt2 (a := 0) (by decide), if_neg (show ¬ ((0 : Nat) == 1) = true by decide)]
    · rw [if_neg h2] at h
      by_cases h3 : (τ.a = 1 ∨ τ.a = τ.c) ∧ (τ.b = 0 ∨ τ.b = τ.c)
      · rw [if_pos h3] at h
        cases h
        refine ⟨hl.1, fun f => ?_⟩
        unfold tF
        by_cases y : ev N τ.c f = true
        · rw [if_pos y]
          rcases h3.1 with z | z
          · rw [z, ev_lt2 (a := 1) (by decide), y]; rfl
          · rw [z]
        · rw [if_neg y]
          rcases h3.2 with z | z
          · rw [z, ev_lt2 (a := 0) (by decide)]
            cases e : ev N τ.c f with
            | true => exact absurd e y
            | false => rfl
          · rw [z]
      · rw [if_neg h3] at h
        exact hm r h
theorem kn_none {τ : Tsk} {look : Option Nat} (h : knB τ look = none) : 2 ≤ τ.c ∧ look = none := by
  unfold knB at h
  by_cases h1 : τ.c = 1 ∨ τ.a = τ.b
  · rw [if_pos h1] at h; cases h
  · rw [if_neg h1] at h
    by_cases h2 : τ.c = 0
    · rw [if_pos h2] at h; cases h
    · rw [if_neg h2] at h
      by_cases h3 : (τ.a = 1 ∨ τ.a = τ.c) ∧ (τ.b = 0 ∨ τ.b = τ.c)
      · rw [if_pos h3] at h; cases h
      · rw [if_neg h3] at h
        exact ⟨by omega, h⟩
theorem pre_tF {N' : List Nd} (G : GoodN N) (p : N <+: N') {τ : Tsk} (h : okT N τ) (f : Nat → Bool) : tF N' τ f = tF N τ f := by unfold tF; rw [pre_ev G p h.1, pre_ev G p h.2.1, pre_ev G p h.2.2]
theorem okT.pre {N' : List Nd} (p : N <+: N') {τ : Tsk} (h : okT N τ) : okT N' τ := by have := pre_len p; exact ⟨by have := h.1; omega, by have := h.2.1; omega, by have := h.2.2; omega⟩
theorem MemOk.pre {N' : List Nd} {M : Tsk → Option Nat} (G : GoodN N) (p : N <+: N') (h : MemOk N M) : MemOk N' M := fun τ r e => by
  obtain ⟨h1, h2, h3⟩ := h τ r e
  exact ⟨h1.pre p, Nat.lt_of_lt_of_le h2 (pre_len p), fun f => by rw [pre_ev G p h2, pre_tF G p h1]; exact h3 f⟩
/-- what stands at a choice's top is a node of its halves' functions -/
theorem node_choice {N : List Nd} (G : GoodN N) {τ : Tsk} {t lo hi : Nat} (hl : okT N τ) (hv : lvT N t τ) (h1 : lo < N.length ∧ ∀ f, ev N lo f = tF N (halfT N τ t false) f) (h2 : hi < N.length ∧ ∀ f, ev N hi f = tF N (halfT N τ t true) f) :
    lvGe N (t + 1) lo ∧ lvGe N (t + 1) hi ∧ ∀ f, (if f t = true then ev N hi f else ev N lo f) = tF N τ f := by
  have lv : ∀ v r, r < N.length → (∀ f, ev N r f = tF N (halfT N τ t v) f) → lvGe N (t + 1) r := fun v r hr e => lv_of_indep G hr fun f g h => by
    obtain ⟨o, l, _⟩ := halfT_ok G (v := v) hl hv
    rw [e, e]
    unfold tF
    rw [ev_indep G _ _ o.1 l.1 f g h, ev_indep G _ _ o.2.1 l.2.1 f g h, ev_indep G _ _ o.2.2 l.2.2 f g h]
  refine ⟨lv false lo h1.1 h1.2, lv true hi h2.1 h2.2, fun f => ?_⟩
  obtain ⟨_, _, e0⟩ := halfT_ok G (v := false) hl hv
  obtain ⟨_, _, e1⟩ := halfT_ok G (v := true) hl hv
  have same : ∀ v, f t = v → tF N τ (setF f t v) = tF N τ f := fun v e => by
    have : setF f t v = f := by
      funext j
      unfold setF
      by_cases z : j = t
      · rw [if_pos z, z, e]
      · rw [if_neg z]
    rw [this]
  by_cases z : f t = true
  · rw [if_pos z, h2.2, e1, same true z]
  · rw [if_neg z, h1.2, e0, same false (by cases e : f t with | true => exact absurd e z | false => rfl)]
end
/-! ### the stack of choices -/
def wT : Nat → Nat
  | 0 => 1
  | r + 1 => 2 * wT r + 3
theorem wT_pos : ∀ r, 1 ≤ wT r
  | 0 => Nat.le_refl _
  | r + 1 => by show 1 ≤ 2 * wT r + 3; omega
theorem wT_mono : ∀ {r s : Nat}, r ≤ s → wT r ≤ wT s
  | 0, s, _ => wT_pos s
  | r + 1, 0, h => absurd h (Nat.not_succ_le_zero _)
  | r + 1, s + 1, h => by
    have := wT_mono (Nat.le_of_succ_le_succ h)
    show 2 * wT r + 3 ≤ 2 * wT s + 3
    omega
/-- how many variables from t on -/
def cntV (vs : List Nat) (t : Nat) : Nat := (vs.filter fun v => decide (t ≤ v)).length
theorem cnt_next {vs : List Nat} {t u : Nat} (hu : u ∈ vs) (h : t ≤ u) : cntV vs (u + 1) + 1 ≤ cntV vs t := by
  unfold cntV
  induction vs with
  | nil => cases hu
  | cons x l ih =>
    rw [List.filter_cons, List.filter_cons]
    by_cases hx : u + 1 ≤ x
    · rw [decide_eq_true hx, decide_eq_true (show t ≤ x by omega), if_pos rfl, if_pos rfl, List.length_cons, List.length_cons]
      rcases List.mem_cons.mp hu with e | e
      · omega
      · have := ih e; omega
    · rw [decide_eq_false hx, if_neg Bool.false_ne_true]
      by_cases ht : t ≤ x
      · rw [decide_eq_true ht, if_pos rfl, List.length_cons]
        have mono : (l.filter fun v => decide (u + 1 ≤ v)).length ≤ (l.filter fun v => decide (t ≤ v)).length := by
          clear ih hu
          induction l with
          | nil => exact Nat.le_refl _
          | cons y l ih2 =>
            rw [List.filter_cons, List.filter_cons]
            by_cases hy : u + 1 ≤ y
            · rw [decide_eq_true hy, decide_eq_true (show t ≤ y by omega), if_pos rfl, if_pos rfl, List.length_cons, List.length_cons]; omega
            · rw [decide_eq_false hy, if_neg Bool.false_ne_true]
              by_cases hz : t ≤ y
              · rw [decide_eq_true hz, if_pos rfl, List.length_cons]; omega
              · rw [decide_eq_false hz, if_neg Bool.false_ne_true]; exact ih2
        omega
      · rw [decide_eq_false ht, if_neg Bool.false_ne_true]
        rcases List.mem_cons.mp hu with e | e
        · omega
        · exact ih e
theorem cnt_le (vs : List Nat) (t : Nat) : cntV vs t ≤ vs.length := List.length_filter_le _ _
def VarsIn (vs : List Nat) (N : List Nd) : Prop := ∀ i n, 2 ≤ i → N[i]? = some n → n.k ∈ vs
def Kn (M : Tsk → Option Nat) (τ : Tsk) : Prop := ∃ r, knB τ (M τ) = some r
/-- what a task on the stack still costs -/
def Cost (vs : List Nat) (N : List Nd) (M : Tsk → Option Nat) (S : List Tsk) (i : Nat) (τ : Tsk) (m : Nat) : Prop :=
  Kn M τ ∨ (∃ t, lvT N t τ ∧ wT (cntV vs t) ≤ m) ∨ (2 ≤ m ∧ ∃ t, IsTop N t τ ∧ ∀ v, Kn M (halfT N τ t v) ∨ ∃ j, i < j ∧ S[j]? = some (halfT N τ t v))
structure SInv (vs : List Nat) (N : List Nd) (M : Tsk → Option Nat) (goal : Tsk) (S : List Tsk) (ws : List Nat) : Prop where
  len : S.length = ws.length
  one : ∀ m ∈ ws, 1 ≤ m
  ok : ∀ τ ∈ S, okT N τ
  cost : ∀ (i : Nat) (τ : Tsk) (m : Nat), S[i]? = some τ → ws[i]? = some m → Cost vs N M S i τ m
  goal : Kn M goal ∨ goal ∈ S
theorem IsTop.uniq {N : List Nd} {τ : Tsk} {t u : Nat} (h : IsTop N t τ) (g : IsTop N u τ) (hl : okT N τ) : t = u := by
  have le : ∀ {t u}, IsTop N t τ → IsTop N u τ → t ≤ u := fun {t u} h g => by
    obtain ⟨⟨p, hp, p2, pk⟩, _⟩ := g
    have hpl : p < N.length := or3 (P := fun q => q < N.length) hp hl.1 hl.2.1 hl.2.2
    have : lvGe N t p := or3 (P := fun q => lvGe N t q) hp h.2.1 h.2.2.1 h.2.2.2
    have := this _ p2 (nd_at hpl)
    omega
  exact Nat.le_antisymm (le h g) (le g h)
theorem IsTop.mem {vs : List Nat} {N : List Nd} {τ : Tsk} {t : Nat} (h : IsTop N t τ) (hl : okT N τ) (hv : VarsIn vs N) : t ∈ vs := by
  obtain ⟨⟨p, hp, p2, pk⟩, _⟩ := h
  have hpl : p < N.length := or3 (P := fun q => q < N.length) hp hl.1 hl.2.1 hl.2.2
  rw [← pk]
  exact hv p _ p2 (nd_at hpl)
theorem IsTop.ge {N : List Nd} {τ : Tsk} {t u : Nat} (h : IsTop N t τ) (hl : okT N τ) (g : lvT N u τ) : u ≤ t := by
  obtain ⟨⟨p, hp, p2, pk⟩, _⟩ := h
  have hpl : p < N.length := or3 (P := fun q => q < N.length) hp hl.1 hl.2.1 hl.2.2
  have : lvGe N u p := or3 (P := fun q => lvGe N u q) hp g.1 g.2.1 g.2.2
  have := this _ p2 (nd_at hpl)
  omega
theorem SInv.start {vs : List Nat} {N : List Nd} {M : Tsk → Option Nat} {goal : Tsk} (h : okT N goal) : SInv vs N M goal [goal] [wT vs.length] := by
  refine ⟨rfl, fun m hm => ?_, fun τ hτ => ?_, fun i τ m hi hm => ?_, .inr (List.mem_singleton.mpr rfl)⟩
  · rw [List.mem_singleton.mp hm]; exact wT_pos _
  · rw [List.mem_singleton.mp hτ]; exact h
  · cases i with
    | zero => cases hi; cases hm; exact .inr (.inl ⟨0, ⟨fun _ _ _ => Nat.zero_le _, fun _ _ _ => Nat.zero_le _, fun _ _ _ => Nat.zero_le _⟩, wT_mono (cnt_le vs 0)⟩)
    | succ i => cases hi
theorem SInv.pop {vs : List Nat} {N : List Nd} {M : Tsk → Option Nat} {goal τ : Tsk} {S : List Tsk} {ws : List Nat} {m : Nat} (I : SInv vs N M goal (S ++ [τ]) (ws ++ [m])) (hk : Kn M τ) : SInv vs N M goal S ws := by
  have hl : S.length = ws.length := by have := I.len; rw [List.length_append, List.length_append] at this; exact Nat.succ.inj this
  refine ⟨hl, fun m h => I.one m (List.mem_append_left _ h), fun τ h => I.ok τ (List.mem_append_left _ h), fun i σ m' hi hm => ?_, ?_⟩
  · have hil := (List.getElem?_eq_some_iff.mp hi).1
    rcases I.cost i σ m' (by rw [List.getElem?_append_left hil]; exact hi) (by rw [List.getElem?_append_left (by omega)]; exact hm) with z | z | ⟨z1, t, z2, z3⟩
    · exact .inl z
    · exact .inr (.inl z)
    · refine .inr (.inr ⟨z1, t, z2, fun v => ?_⟩)
      rcases z3 v with y | ⟨j, hj, y⟩
      · exact .inl y
      · by_cases hjl : j < S.length
        · rw [List.getElem?_append_left hjl] at y; exact .inr ⟨j, hj, y⟩
        · have := (List.getElem?_eq_some_iff.mp y).1
          rw [List.length_append] at this
          have : j < S.length + 1 := this
          obtain rfl : j = S.length := by omega
          rw [List.getElem?_append_right (Nat.le_refl _), Nat.sub_self] at y
          cases y
          exact .inl hk
  · rcases I.goal with z | z
    · exact .inl z
    · rcases List.mem_append.mp z with y | y
      · exact .inr y
      · rw [List.mem_singleton.mp y]; exact .inl hk
theorem SInv.push {vs : List Nat} {N : List Nd} {M : Tsk → Option Nat} {goal τ : Tsk} {S : List Tsk} {ws : List Nat} {m t : Nat} {op : List Tsk} (G : GoodN N) (hV : VarsIn vs N) (I : SInv vs N M goal (S ++ [τ]) (ws ++ [m])) (hk : ¬ Kn M τ) (ht : IsTop N t τ)
    (ho : ∀ v, Kn M (halfT N τ t v) ∨ halfT N τ t v ∈ op) (hop : ∀ σ ∈ op, ∃ v, σ = halfT N τ t v ∧ ¬ Kn M σ) (hne : op ≠ []) (h2 : op.length ≤ 2) : ∃ ws', SInv vs N M goal (S ++ [τ] ++ op) ws' ∧ ws'.sum < (ws ++ [m]).sum := by
  have hl : S.length = ws.length := by have := I.len; rw [List.length_append, List.length_append] at this; exact Nat.succ.inj this
  have hτ := I.ok τ (List.mem_append_right _ (List.mem_singleton.mpr rfl))
  have htop : (S ++ [τ])[S.length]? = some τ := by rw [List.getElem?_append_right (Nat.le_refl _), Nat.sub_self]; rfl
  have hwm : (ws ++ [m])[S.length]? = some m := by rw [hl, List.getElem?_append_right (Nat.le_refl _), Nat.sub_self]; rfl
  have hm : 2 * wT (cntV vs (t + 1)) + 3 ≤ m := by
    rcases I.cost _ τ m htop hwm with z | ⟨u, z1, z2⟩ | ⟨z1, u, z2, z3⟩
    · exact absurd z hk
    · have h1 := ht.ge hτ z1
      have h3 := cnt_next (t := u) (ht.mem hτ hV) h1
      have h4 := wT_mono h3
      have h5 : wT (cntV vs (t + 1) + 1) = 2 * wT (cntV vs (t + 1)) + 3 := rfl
      omega
    · exfalso
      obtain ⟨σ, hσ⟩ := List.exists_mem_of_ne_nil op hne
      obtain ⟨v, rfl, hnk⟩ := hop σ hσ
      rw [ht.uniq z2 hτ] at hnk
      rcases z3 v with y | ⟨j, hj, y⟩
      · exact hnk y
      · have := (List.getElem?_eq_some_iff.mp y).1
        rw [List.length_append] at this
        have : j < S.length + 1 := this
        omega
  refine ⟨ws ++ [2] ++ op.map fun _ => wT (cntV vs (t + 1)), ⟨by simp [hl], fun x hx => ?_, fun σ hσ => ?_, fun i σ x hi hx => ?_, ?_⟩, ?_⟩
  · rcases List.mem_append.mp hx with z | z
    · rcases List.mem_append.mp z with y | y
      · exact I.one x (List.mem_append_left _ y)
      · rw [List.mem_singleton.mp y]; decide
    · obtain ⟨_, _, rfl⟩ := List.mem_map.mp z
      exact wT_pos _
  · rcases List.mem_append.mp hσ with z | z
    · exact I.ok σ z
    · obtain ⟨v, rfl, _⟩ := hop σ z
      exact (halfT_ok G hτ ht.2).1
  · have hil := (List.getElem?_eq_some_iff.mp hi).1
    by_cases h1 : i < S.length
    · rw [List.append_assoc, List.getElem?_append_left h1] at hi
      rw [List.append_assoc, List.getElem?_append_left (by omega)] at hx
      rcases I.cost i σ x (by rw [List.getElem?_append_left h1]; exact hi) (by rw [List.getElem?_append_left (by omega)]; exact hx) with z | z | ⟨z1, u, z2, z3⟩
      · exact .inl z
      · exact .inr (.inl z)
      · refine .inr (.inr ⟨z1, u, z2, fun v => ?_⟩)
        rcases z3 v with y | ⟨j, hj, y⟩
        · exact .inl y
        · exact .inr ⟨j, hj, by rw [List.getElem?_append_left (List.getElem?_eq_some_iff.mp y).1]; exact y⟩
    · by_cases h3 : i = S.length
      · subst h3
        rw [List.getElem?_append_left (by rw [List.length_append]; show _ < _ + 1; omega), htop] at hi
        cases hi
        rw [List.append_assoc, hl, List.getElem?_append_right (Nat.le_refl _), Nat.sub_self] at hx
        cases hx
        refine .inr (.inr ⟨Nat.le_refl _, t, ht, fun v => ?_⟩)
        rcases ho v with y | y
        · exact .inl y
        · obtain ⟨j, hj, e⟩ := List.getElem_of_mem y
          refine .inr ⟨S.length + 1 + j, by omega, ?_⟩
          have e1 : (S ++ [τ]).length = S.length + 1 := by rw [List.length_append]; rfl
          rw [List.getElem?_append_right (by omega), e1, show S.length + 1 + j - (S.length + 1) = j by omega, List.getElem?_eq_getElem hj, e]
      · have e1 : (S ++ [τ]).length = S.length + 1 := by rw [List.length_append]; rfl
        have e2 : (ws ++ [2]).length = S.length + 1 := by rw [List.length_append, ← hl]; rfl
        rw [List.getElem?_append_right (by omega)] at hi hx
        have hmem := List.mem_of_getElem? hi
        obtain ⟨v, rfl, _⟩ := hop σ hmem
        obtain ⟨_, _, rfl⟩ := List.mem_map.mp (List.mem_of_getElem? hx)
        exact .inr (.inl ⟨t + 1, (halfT_ok G hτ ht.2).2.1, Nat.le_refl _⟩)
  · rcases I.goal with z | z
    · exact .inl z
    · exact .inr (List.mem_append_left _ z)
  · have e : (op.map fun _ => wT (cntV vs (t + 1))).sum ≤ 2 * wT (cntV vs (t + 1)) := by
      have : ∀ l : List Tsk, (l.map fun _ => wT (cntV vs (t + 1))).sum = l.length * wT (cntV vs (t + 1)) := fun l => by
        induction l with
        | nil => simp
        | cons x l ih => rw [List.map_cons, List.sum_cons, ih, List.length_cons, Nat.succ_mul]; omega
      rw [this]
      exact Nat.mul_le_mul_right _ h2
    rw [List.sum_append, List.sum_append, List.sum_append]
    simp only [List.sum_cons, List.sum_nil]
    omega
theorem Kn.more {M M' : Tsk → Option Nat} (h : ∀ τ r, M τ = some r → M' τ = some r) {τ : Tsk} (k : Kn M τ) : Kn M' τ := by
  obtain ⟨r, e⟩ := k
  unfold Kn
  cases e2 : knB τ (M' τ) with
  | some r2 => exact ⟨r2, rfl⟩
  | none =>
    exfalso
    have := (kn_none e2).2
    cases e3 : M τ with
    | some q => rw [h _ _ e3] at this; cases this
    | none => rw [e3, ← this, e2] at e; cases e
theorem SInv.done {vs : List Nat} {N N' : List Nd} {M M' : Tsk → Option Nat} {goal τ : Tsk} {S : List Tsk} {ws : List Nat} {m t : Nat} (hV : VarsIn vs N) (I : SInv vs N M goal (S ++ [τ]) (ws ++ [m])) (hk : ¬ Kn M τ) (ht : IsTop N t τ)
    (p : N <+: N') (hM : ∀ τ r, M τ = some r → M' τ = some r) (hk' : Kn M' τ) : SInv vs N' M' goal (S ++ [τ]) (ws ++ [1]) ∧ (ws ++ [1]).sum + 1 ≤ (ws ++ [m]).sum := by
  have hl : S.length = ws.length := by have := I.len; rw [List.length_append, List.length_append] at this; exact Nat.succ.inj this
  have hτ := I.ok τ (List.mem_append_right _ (List.mem_singleton.mpr rfl))
  have htop : (S ++ [τ])[S.length]? = some τ := by rw [List.getElem?_append_right (Nat.le_refl _), Nat.sub_self]; rfl
  have hwm : (ws ++ [m])[S.length]? = some m := by rw [hl, List.getElem?_append_right (Nat.le_refl _), Nat.sub_self]; rfl
  have hm : 2 ≤ m := by
    rcases I.cost _ τ m htop hwm with z | ⟨u, z1, z2⟩ | ⟨z1, _⟩
    · exact absurd z hk
    · have h1 := ht.ge hτ z1
      have h3 := cnt_next (t := u) (ht.mem hτ hV) h1
      have h4 := wT_mono h3
      have h5 : wT (cntV vs (t + 1) + 1) = 2 * wT (cntV vs (t + 1)) + 3 := rfl
      omega
    · exact z1
  have lvp : ∀ {σ u}, okT N σ → lvT N u σ → lvT N' u σ := fun {σ u} o h => ⟨(pre_lv p o.1).mpr h.1, (pre_lv p o.2.1).mpr h.2.1, (pre_lv p o.2.2).mpr h.2.2⟩
  have hfp : ∀ {a u v}, a < N.length → halfA N' a u v = halfA N a u v := fun {a u v} h => by unfold halfA; rw [pre_nd p h]
  have htp : ∀ {σ u v}, okT N σ → halfT N' σ u v = halfT N σ u v := fun {σ u v} o => by unfold halfT; rw [hfp o.1, hfp o.2.1, hfp o.2.2]
  refine ⟨⟨by rw [List.length_append, List.length_append, hl]; rfl, fun x hx => ?_, fun σ hσ => (I.ok σ hσ).pre p, fun i σ x hi hx => ?_, ?_⟩, ?_⟩
  · rcases List.mem_append.mp hx with z | z
    · exact I.one x (List.mem_append_left _ z)
    · rw [List.mem_singleton.mp z]; decide
  · have hil := (List.getElem?_eq_some_iff.mp hi).1
    rw [List.length_append] at hil
    have hil : i < S.length + 1 := hil
    by_cases h1 : i < S.length
    · rw [List.getElem?_append_left (by omega)] at hx
      have hσ := I.ok σ (List.mem_of_getElem? hi)
      rcases I.cost i σ x hi (by rw [List.getElem?_append_left (by omega)]; exact hx) with z | ⟨u, z1, z2⟩ | ⟨z1, u, z2, z3⟩
      · exact .inl (z.more hM)
      · exact .inr (.inl ⟨u, lvp hσ z1, z2⟩)
      · refine .inr (.inr ⟨z1, u, ⟨?_, lvp hσ z2.2⟩, fun v => ?_⟩)
        · obtain ⟨q, hq, q2, qk⟩ := z2.1
          have hql : q < N.length := or3 (P := fun q => q < N.length) hq hσ.1 hσ.2.1 hσ.2.2
          exact ⟨q, hq, q2, by rw [pre_nd p hql]; exact qk⟩
        · rw [htp hσ]
          rcases z3 v with y | y
          · exact .inl (y.more hM)
          · exact .inr y
    · obtain rfl : i = S.length := by omega
      rw [htop] at hi
      cases hi
      exact .inl hk'
  · rcases I.goal with z | z
    · exact .inl (z.more hM)
    · exact .inr z
  · rw [List.sum_append, List.sum_append]
    simp only [List.sum_cons, List.sum_nil]
    omega
end G
namespace G
open PySem PySem.Spec PyProof.Rows L2 Evl
/-! ## two lists side by side -/
def All2 {α β : Type} (R : α → β → Prop) (as : List α) (bs : List β) : Prop := as.length = bs.length ∧ ∀ (i : Nat) (a : α) (b : β), as[i]? = some a → bs[i]? = some b → R a b
theorem All2.nil {α β : Type} {R : α → β → Prop} : All2 R [] [] := ⟨rfl, fun _ _ _ h => nomatch h⟩
theorem All2.imp {α β : Type} {R S : α → β → Prop} {as : List α} {bs : List β} (h : All2 R as bs) (f : ∀ a b, R a b → S a b) : All2 S as bs := ⟨h.1, fun i a b h1 h2 => f _ _ (h.2 i a b h1 h2)⟩
theorem All2.snoc {α β : Type} {R : α → β → Prop} {as : List α} {bs : List β} {a : α} {b : β} (h : All2 R as bs) (r : R a b) : All2 R (as ++ [a]) (bs ++ [b]) := by
  refine ⟨by rw [List.length_append, List.length_append, h.1]; rfl, fun i x y h1 h2 => ?_⟩
  by_cases hi : i < as.length
  · rw [List.getElem?_append_left hi] at h1
    rw [List.getElem?_append_left (h.1 ▸ hi)] at h2
    exact h.2 i x y h1 h2
  · rw [List.getElem?_append_right (by omega)] at h1
    rw [List.getElem?_append_right (by rw [← h.1]; omega), ← h.1] at h2
    cases e : i - as.length with
    | zero =>
      rw [e] at h1 h2
      cases h1; cases h2; exact r
    | succ n => rw [e] at h1; exact nomatch h1
theorem All2.at_ {α β : Type} {R : α → β → Prop} {as : List α} {bs : List β} (h : All2 R as bs) {i : Nat} {a : α} (e : as[i]? = some a) : ∃ b, bs[i]? = some b ∧ R a b := by
  have hi : i < bs.length := by rw [← h.1]; exact (List.getElem?_eq_some_iff.mp e).1
  exact ⟨bs[i], List.getElem?_eq_getElem hi, h.2 i a _ e (List.getElem?_eq_getElem hi)⟩
theorem All2.of {α β : Type} {R : α → β → Prop} {as : List α} {bs : List β} (h : All2 R as bs) {i : Nat} {b : β} (e : bs[i]? = some b) : ∃ a, as[i]? = some a ∧ R a b := by
  have hi : i < as.length := by rw [h.1]; exact (List.getElem?_eq_some_iff.mp e).1
  exact ⟨as[i], List.getElem?_eq_getElem hi, h.2 i _ b (List.getElem?_eq_getElem hi) e⟩
theorem All2.cons {α β : Type} {R : α → β → Prop} {as : List α} {bs : List β} {a : α} {b : β} (r : R a b) (h : All2 R as bs) : All2 R (a :: as) (b :: bs) := by
  refine ⟨by rw [List.length_cons, List.length_cons, h.1], fun i x y h1 h2 => ?_⟩
  cases i with
  | zero => cases h1; cases h2; exact r
  | succ i => exact h.2 i x y h1 h2
theorem take_snoc1 {α : Type} {l : List α} {j : Nat} {x : α} (h : l[j]? = some x) : l.take (j + 1) = l.take j ++ [x] := by rw [List.take_add_one, h]; rfl
theorem refs_get {as : List Addr} {k : Nat} {x : V} (hx : (as.map V.ref)[k]? = some x) : ∃ a, as[k]? = some a ∧ x = .ref a := by
  rw [List.getElem?_map] at hx
  cases e : as[k]? with
  | none => rw [e] at hx; cases hx
  | some a => rw [e] at hx; cases hx; exact ⟨a, rfl, rfl⟩
/-! ## walks: any body -/
theorem wk_list {K : PySem.W.Frag} {a : Addr} {xs : List V} {body : (Hp → Prop) → V → Hp → Prop} {H0 : Hp} {Qd : Hp → Prop} (Pv : Nat → Hp → Prop) (h0 : Pv 0 H0) (hl : ∀ i H, i ≤ xs.length → Pv i H → SqL K H a xs)
    (hs : ∀ i x H, xs[i]? = some x → Pv i H → body (Pv (i + 1)) x H) (hd : ∀ H, Pv xs.length H → Qd H) :
    ∃ W : Nat → Nat → Hp → Prop, (∃ m, W 0 m H0) ∧ ∀ i m H, W i m H → ((Itl K a).stop i H ∧ Qd H) ∨ ((Itl K a).go i H ∧ ∃ Nx : Hp → Prop, (∀ H', Nx H' → ∃ m', m' < m ∧ W (i + 1) m' H') ∧ ∀ x H', (Itl K a).yld i H x H' → body Nx x H') := by
  refine ⟨fun i m H => m = xs.length - i ∧ i ≤ xs.length ∧ Pv i H, ⟨xs.length, by simp, Nat.zero_le _, h0⟩, ?_⟩
  rintro i m H ⟨rfl, hi, p⟩
  have q := hl i H hi p
  rcases Nat.lt_or_ge i xs.length with lt | ge
  · have e : xs[i]? = some xs[i] := List.getElem?_eq_getElem lt
    refine .inr ⟨⟨xs, xs[i], q, e⟩, Pv (i + 1), fun H' p' => ⟨xs.length - (i + 1), by omega, rfl, lt, p'⟩, fun x H' y => ?_⟩
    obtain ⟨rfl, y⟩ := y
    exact hs i x _ (y xs q) p
  · have e : i = xs.length := by omega
    subst e
    exact .inl ⟨⟨xs, q, Nat.le_refl _⟩, hd H p⟩
theorem wk_tup {K : PySem.W.Frag} {a : Addr} {xs : List V} {body : (Hp → Prop) → V → Hp → Prop} {H0 : Hp} {Qd : Hp → Prop} (Pv : Nat → Hp → Prop) (h0 : Pv 0 H0) (hl : ∀ i H, i ≤ xs.length → Pv i H → SqT K H a xs)
    (hs : ∀ i x H, xs[i]? = some x → Pv i H → body (Pv (i + 1)) x H) (hd : ∀ H, Pv xs.length H → Qd H) :
    ∃ W : Nat → Nat → Hp → Prop, (∃ m, W 0 m H0) ∧ ∀ i m H, W i m H → ((Itt K a).stop i H ∧ Qd H) ∨ ((Itt K a).go i H ∧ ∃ Nx : Hp → Prop, (∀ H', Nx H' → ∃ m', m' < m ∧ W (i + 1) m' H') ∧ ∀ x H', (Itt K a).yld i H x H' → body Nx x H') := by
  refine ⟨fun i m H => m = xs.length - i ∧ i ≤ xs.length ∧ Pv i H, ⟨xs.length, by simp, Nat.zero_le _, h0⟩, ?_⟩
  rintro i m H ⟨rfl, hi, p⟩
  have q := hl i H hi p
  rcases Nat.lt_or_ge i xs.length with lt | ge
  · have e : xs[i]? = some xs[i] := List.getElem?_eq_getElem lt
    refine .inr ⟨⟨xs, xs[i], q, e⟩, Pv (i + 1), fun H' p' => ⟨xs.length - (i + 1), by omega, rfl, lt, p'⟩, fun x H' y => ?_⟩
    obtain ⟨rfl, y⟩ := y
    exact hs i x _ (y xs q) p
  · have e : i = xs.length := by omega
    subst e
    exact .inl ⟨⟨xs, q, Nat.le_refl _⟩, hd H p⟩
theorem wk_it {J : It} {n : Nat} {Gd : Hp → Prop} {Y : Nat → Hp → V → Hp → Prop} (w : Walk J n Gd Y) {body : (Hp → Prop) → V → Hp → Prop} {H0 : Hp} {Qd : Hp → Prop} (Pv : Nat → Hp → Prop) (h0 : Pv 0 H0) (hG : ∀ i H, i ≤ n → Pv i H → Gd H)
    (hs : ∀ i x H H', i < n → Pv i H → Y i H x H' → body (Pv (i + 1)) x H') (hd : ∀ H, Pv n H → Qd H) :
    ∃ W : Nat → Nat → Hp → Prop, (∃ m, W 0 m H0) ∧ ∀ i m H, W i m H → (J.stop i H ∧ Qd H) ∨ (J.go i H ∧ ∃ Nx : Hp → Prop, (∀ H', Nx H' → ∃ m', m' < m ∧ W (i + 1) m' H') ∧ ∀ x H', J.yld i H x H' → body Nx x H') := by
  refine ⟨fun i m H => m = n - i ∧ i ≤ n ∧ Pv i H, ⟨n, by simp, Nat.zero_le _, h0⟩, ?_⟩
  rintro i m H ⟨rfl, hi, p⟩
  rcases Nat.lt_or_ge i n with lt | ge
  · exact .inr ⟨w.goes i H lt (hG i H hi p), Pv (i + 1), fun H' p' => ⟨n - (i + 1), by omega, rfl, lt, p'⟩, fun x H' y => hs i x H H' lt p (w.yields i H x H' lt (hG i H hi p) y)⟩
  · have e : i = n := by omega
    subst e
    exact .inl ⟨w.stops H (hG i H hi p), hd H p⟩
/-! ## tuples joined and cut, whatever object that is -/
theorem cat_tup {K : PySem.W.Frag} {H : Hp} {a b : Addr} {xs ys : List V} {Q : VK} (ha : H a = some (.tup xs)) (hb : H b = some (.tup ys)) (hl : xs.length + ys.length ≤ sizeLine) (q : ∀ c H', Ex H H' → H' c = some (.tup (xs ++ ys)) → Q (.ref c) H') : rCatA K (.ref a) (.ref b) H Q := by
  refine ⟨a, b, xs, ys, rfl, rfl, SqT.of ha, SqT.of hb, hl, fun e => ?_, fun _ e => ?_, fun _ _ p np => ?_⟩
  · subst e; exact q b H (Ex.refl _) hb
  · subst e; exact q a H (Ex.refl _) (by rw [List.append_nil]; exact ha)
  · exact q p _ (Ex.new np) upd_same
theorem cut_tup {K : PySem.W.Frag} {H : Hp} {a : Addr} {xs : List V} {lo hi : Option Int} {Q : VK} (ha : H a = some (.tup xs)) (q : ∀ c H', Ex H H' → H' c = some (.tup (cutV xs lo hi)) → Q (.ref c) H') : rSlA K (.ref a) lo hi H Q := by
  refine ⟨a, xs, rfl, SqT.of ha, fun e => ?_, fun _ p np => q p _ (Ex.new np) upd_same⟩
  refine q a H (Ex.refl _) ?_
  rw [ha]
  unfold cutV
  rw [e.1, e.2, List.drop_zero, Nat.sub_zero, List.take_length]
theorem cutV_head {xs : List V} {k : Nat} (h : k ≤ xs.length) : cutV xs none (some (k : Int)) = xs.take k := by
  unfold cutV
  rw [HT.sIx_none, HT.sIx_nat, List.drop_zero, Nat.sub_zero, Nat.min_eq_left h]
theorem cutV_tail {xs : List V} {k : Nat} (h : k ≤ xs.length) : cutV xs (some (k : Int)) none = xs.drop k := by
  unfold cutV
  rw [HT.sIx_none, HT.sIx_nat, Nat.min_eq_left h, List.take_of_length_le]
  rw [List.length_drop]; exact Nat.le_refl _
end G
namespace G
open PySem PySem.Spec PyProof.Rows L2 Evl
theorem tYes_in {σ : L2.St} {H : Hp} {A B : Hp → Prop} (h : A H) : tYes σ H (fun b H3 => if b = true then A H3 else B H3) := by
  show if true = true then A H else B H
  exact iteT h
def tabV (bs : List Bool) : HO := .tup (bs.map V.bl)
theorem inV_ints {k : Int} {l : List Int} : inV (.int k) (l.map V.int) = l.contains k := by
  unfold inV
  rw [List.any_map, List.contains_eq_any_beq]
  congr 1
  funext y
  show (y == k) = (k == y)
  rw [Bool.eq_iff_iff]; simp; exact eq_comm
theorem inV_bls {k : Bool} {l : List Bool} : inV (.bl k) (l.map V.bl) = l.contains k := by
  unfold inV
  rw [List.any_map, List.contains_eq_any_beq]
  congr 1
  funext y
  show (y == k) = (k == y)
  cases y <;> cases k <;> rfl
theorem flat_map {α : Type} {f : α → V} (h : ∀ x, flatV (f x) = true) (l : List α) : (l.map f).all flatV = true := by
  rw [List.all_map]
  exact List.all_eq_true.mpr fun x _ => h x
theorem tif_by {tt : TE} {σ : L2.St} {H : Hp} {Q : VK} (R : V → Hp → Prop) (h : ∀ Q' : VK, (∀ v H', R v H' → Q' v H') → tt σ H Q') (rest : ∀ v H', R v H' → Q v H') : tt σ H Q := h Q rest
theorem bl_eq (a b : Bool) : decide (V.bl a = V.bl b) = decide (a = b) := by cases a <;> cases b <;> rfl
end G
namespace G
open PySem PySem.Spec PyProof.Rows L2
def topS (i : Nat) : Stmt := PySem.Challenge.pw_signoff_k15_diagrams_measured.main.body.getD i (.Pass ⟨0, 0, 0, 0⟩)
abbrev s_Diagrams_init : Stmt := inClass (topS 6) 0
abbrev s_Diagrams_variable : Stmt := inClass (topS 6) 1
abbrev s_Diagrams_negate : Stmt := inClass (topS 6) 2
abbrev s_Diagrams_both : Stmt := inClass (topS 6) 3
abbrev s_Diagrams_either : Stmt := inClass (topS 6) 4
abbrev s_Diagrams_choose : Stmt := inClass (topS 6) 5
abbrev s_Diagrams_all_of : Stmt := inClass (topS 6) 6
abbrev s_Diagrams_any_of : Stmt := inClass (topS 6) 7
abbrev s_Diagrams_applied : Stmt := inClass (topS 6) 8
abbrev s_Diagrams_fix : Stmt := inClass (topS 6) 9
abbrev s_Diagrams_value : Stmt := inClass (topS 6) 10
abbrev s_Diagrams_support : Stmt := inClass (topS 6) 11
abbrev s_Diagrams_count : Stmt := inClass (topS 6) 12
abbrev s_Diagrams_least : Stmt := inClass (topS 6) 13
abbrev s_Diagrams_node : Stmt := inClass (topS 6) 14
abbrev s_Diagrams_half : Stmt := inClass (topS 6) 15
abbrev s_Diagrams_known_choice : Stmt := inClass (topS 6) 16
abbrev s_Diagrams_level : Stmt := inClass (topS 6) 17
abbrev s_Diagrams_below : Stmt := inClass (topS 6) 18
abbrev s_law_pool : Stmt := topS 8
abbrev s_law_spread : Stmt := topS 9
abbrev s_law_draw : Stmt := topS 10
abbrev s_law_same : Stmt := topS 11
abbrev s_law_bits : Stmt := topS 12
abbrev s_law_table : Stmt := topS 13
abbrev s_law_function : Stmt := topS 14
abbrev s_law_worth : Stmt := topS 15
abbrev s_law_refer : Stmt := topS 16
abbrev s_law_column : Stmt := topS 17
abbrev s_law_wide : Stmt := topS 18
abbrev s_law_of_column : Stmt := topS 19
abbrev s_law_matters : Stmt := topS 20
abbrev s_law_fixed : Stmt := topS 21
abbrev s_law_first : Stmt := topS 22
abbrev s_law_measured : Stmt := topS 23
abbrev s_law : Stmt := topS 24
end G
namespace G
open PySem PySem.Spec PyProof.Rows L2 Evl
structure TxtL (mg : Str → Option Value) : Prop where
  int : mg "int" = none
  len : mg "len" = none
  list : mg "list" = none
  range : mg "range" = none
section
variable {P : Program} {w : World} {K : PySem.W.Frag} {mg : Str → Option Value} {base : Heap}
def spSpread : Sp := fun vs H Q _ => ∃ (c : Int), vs = [.int c] ∧ ∀ v : Int, Q (.int v) H
theorem sc_law_spread : FnScope ["cell", "mixed", "total", "k"] ["cell"] (defScope s_law_spread) := ⟨rfl, rfl, rfl, by decide +kernel, rfl, by decide +kernel, by decide +kernel⟩
theorem ok_law_spread (D : Dfd K mg "_law_spread" s_law_spread ["cell"]) (T : TxtL mg) : Has P w K mg base 1 "_law_spread" ["cell"] spSpread := by
  refine D.has fun f fd F => F.ok sc_law_spread (fun vs H Q E h => ?_) (fun cdv A outer s H vs Q E hr h => ?_)
  · obtain ⟨c, rfl, _⟩ := h
    rfl
  · obtain ⟨c, rfl, q⟩ := h
    refine ⟨_, (pss_cons (ps_set (i := 1) sc_law_spread.nd rfl (.inl rfl) (pe_op op_mod (pe_callTy call_int1 (by rfl) T.int (by decide +kernel) (pa_cons (pv 0) pa_nil)) pe_int))
      (pss_cons (ps_set (i := 2) sc_law_spread.nd rfl (.inl rfl) pe_int)
      (pss_cons (ps_for PassesOwn.never rfl (pi_range1 rfl T.range (pa_cons pe_int pa_nil)) (pg_name (i := 3) sc_law_spread.nd rfl (.inl rfl))
        (pss_cons (ps_set (i := 1) sc_law_spread.nd rfl (.inl rfl) (pe_op op_mod (pe_callTy call_int1 (by rfl) T.int (by decide +kernel) (pa_cons (pe_op op_add (pe_op op_add (pe_op op_mul (pv 1) pe_int) pe_int) (pv 3)) pa_nil)) pe_int))
        (pss_one (ps_set (i := 2) sc_law_spread.nd rfl (.inl rfl) (pe_op op_add (pe_op op_mul (pv 2) pe_int) (pv 1))))))
      (pss_one (ps_ret (pv 2)))))), ?_⟩
    refine ⟨_, rfl, .inl ⟨_, rfl, _, _, rfl, rfl, (by show (0 : Int) < 2147483647; decide), 4, rfl, by decide, by decide, for_range (n := 4) (fun _ σ H' => H' = H ∧ ∃ (x y : Int) (z : Option V), σ = [some (.int c), some (.int x), some (.int y), z]) ⟨rfl, _, _, _, rfl⟩ ?_ ?_⟩⟩
    · rintro i σ H' hi ⟨rfl, x, y, z, rfl⟩
      refine ⟨_, rfl, _, _, rfl, rfl, .inr ⟨by decide, by decide⟩, _, _, rfl, rfl, _, rfl, _, _, rfl, rfl, .inl ⟨_, rfl, _, _, rfl, rfl, (by show (0 : Int) < 2147483647; decide), _, rfl, _, _, rfl, rfl, .inr ⟨by decide, by decide⟩, _, rfl, _, _, rfl, rfl, rfl, _, _, _, rfl⟩⟩
    · rintro σ H' ⟨rfl, x, y, z, rfl⟩
      exact ⟨_, rfl, q y⟩
/-- a draw below n -/
def spDraw : Sp := fun vs H Q _ => ∃ (p a : Addr) (n : Int), vs = [.ref p, .int n] ∧ 0 < n ∧ n.natAbs.log2 < 9000 ∧ PoolOk p a H ∧ ∀ (v : Int) (o : HO), 0 ≤ v → v < n → PoolOk p a (upd H p o) → Q (.int v) (upd H p o)
theorem sc_law_draw : FnScope ["pool", "many", "cell", "mixed", "value"] ["pool", "many"] (defScope s_law_draw) := ⟨rfl, rfl, rfl, by decide +kernel, rfl, by decide +kernel, by decide +kernel⟩
theorem ok_law_draw (D : Dfd K mg "_law_draw" s_law_draw ["pool", "many"]) (T : TxtL mg) (C : Has P w K mg base 1 "_law_spread" ["cell"] spSpread) : Has P w K mg base 2 "_law_draw" ["pool", "many"] spDraw := by
  obtain ⟨f_law_spread, d_law_spread, G_law_spread, g_law_spread, k_law_spread, b_law_spread⟩ := C
  refine D.has fun f fd F => F.ok sc_law_draw (fun vs H Q E h => ?_) (fun cdv A outer s H vs Q E hr h => ?_)
  · obtain ⟨p, a, n, rfl, _⟩ := h
    rfl
  · obtain ⟨p, a, n, rfl, n0, n9, hp, q⟩ := h
    refine ⟨_, (pss_cut (ps_if (PW.pt (pw_and (pt_cmpR op_le (pe_ix ix_list (pv 0) pe_int (fun _ _ => rfl)) pe_int (nomark _)) (pw_and1 (pt_cmpR op_lt (pe_ix ix_list (pv 0) pe_int (fun _ _ => rfl)) (pe_callB call_len_seq (by rfl) T.len (by decide +kernel) (pa_cons (pe_ix ix_list (pv 0) pe_int (fun _ _ => rfl)) pa_nil)) (nomark _)))))
      (pss_cons (ps_set (i := 2) sc_law_draw.nd rfl (.inl rfl) (pe_ix ix_list (pe_ix ix_list (pv 0) pe_int (fun _ _ => rfl)) (pe_ix ix_list (pv 0) pe_int (fun _ _ => rfl)) (fun _ _ => rfl)))
      (pss_cons (ps_asg (pe_op op_add (pe_ix ix_list (pv 0) pe_int (fun _ _ => rfl)) pe_int) (pg_sub (pv 0) pe_int set_list))
      (pss_cons (ps_asg (pv 2) (pg_sub (pv 0) pe_int set_list))
      (pss_one (ps_if (pt_cmpR op_lt (pv 2) pe_int (nomark _))
        (pss_one (ps_asg (pe_call G_law_spread hr (by rfl) g_law_spread k_law_spread b_law_spread .nil pass0 (pa_cons (pv 2) pa_nil)) (pg_sub (pv 0) pe_int set_list)))
        pss_nil)))))
      pss_nil)
    (pss_cons (ps_asg (pe_op op_add (pe_ix ix_list (pv 0) pe_int (fun _ _ => rfl)) pe_int) (pg_sub (pv 0) pe_int set_list))
    (pss_cons (ps_if (pt_cmpR op_le (pe_ix ix_list (pv 0) pe_int (fun _ _ => rfl)) pe_int (nomark _))
      (pss_cons (ps_set (i := 3) sc_law_draw.nd rfl (.inl rfl) (pe_op op_mod (pe_callTy call_int1 (by rfl) T.int (by decide +kernel) (pa_cons (pe_op op_add (pe_op op_add (pe_op op_mul (pe_ix ix_list (pv 0) pe_int (fun _ _ => rfl)) pe_int) (pe_op op_mul (pe_ix ix_list (pv 0) pe_int (fun _ _ => rfl)) pe_int)) pe_int) pa_nil)) pe_int))
      (pss_cons (ps_set (i := 3) sc_law_draw.nd rfl (.inl rfl) (pe_op op_mod (pe_callTy call_int1 (by rfl) T.int (by decide +kernel) (pa_cons (pe_op op_add (pe_op op_mul (pv 3) pe_int) (pe_ix ix_list (pv 0) pe_int (fun _ _ => rfl))) pa_nil)) pe_int))
      (pss_one (ps_ret (pe_op op_mod (pe_op op_fdiv (pv 3) pe_int) (pv 1))))))
      pss_nil)
    (pss_cons (ps_set (i := 4) sc_law_draw.nd rfl (.inl rfl) (pe_op op_mod (pe_callTy call_int1 (by rfl) T.int (by decide +kernel) (pa_cons (pe_ix ix_list (pv 0) pe_int (fun _ _ => rfl)) pa_nil)) (pv 1)))
    (pss_cons (ps_asg (pe_op op_fdivW (pe_ix ix_list (pv 0) pe_int (fun _ _ => rfl)) (pv 1)) (pg_sub (pv 0) pe_int set_list))
    (pss_one (ps_ret (pv 4)))))))), ?_⟩
    obtain ⟨ns, i, c, k, s5, hl, ha, hn⟩ := hp
    have hap : a ≠ p := hid_neq ha
    have haH := hid_get ha
    -- the pool as it stands after writes
    have pk : ∀ (i' : Nat) (c' k' s' : Int), PoolOk p a (upd H p (.lst [.ref a, .int i', .int c', .int k', .int s'])) := fun i' c' k' s' =>
      ⟨ns, i', c', k', s', upd_same, by rw [hid_upd]; exact ha, hn⟩
    refine ⟨fun σ H' => ∃ (i' : Nat) (c' k' s' : Int) (o1 : Option V), σ = [some (.ref p), some (.int n), o1, none, none] ∧ H' p = some (.lst [.ref a, .int i', .int c', .int k', .int s']) ∧ (∀ o, upd H' p o = upd H p o), ?_, ?_⟩
    · refine ⟨_, rfl, _, _, _, _, rfl, rfl, SqL.of hl, atI_nat (j := 2) rfl, _, _, rfl, rfl, _, rfl, ite2 (fun e1 => ?_) (fun e1 => ?_)⟩
      · refine ⟨_, rfl, _, _, _, _, rfl, rfl, SqL.of hl, atI_nat (j := 1) rfl, _, rfl, _, _, _, _, rfl, rfl, SqL.of hl, atI_nat (j := 0) rfl, _, _, rfl, .inl (SqL.of haH), _, _, rfl, rfl, _, rfl, ite2 (fun e2 => ?_) (fun e2 => ?_)⟩
        · have hi : i < (ns.map V.int).length := by have := of_decide_eq_true e2; omega
          have hi' : i < ns.length := by rw [List.length_map] at hi; exact hi
          have gi : (ns.map V.int)[i]? = some (.int ns[i]) := by rw [List.getElem?_map, List.getElem?_eq_getElem hi']; rfl
          refine ⟨_, rfl, _, _, _, _, rfl, rfl, SqL.of hl, atI_nat (j := 0) rfl, _, rfl, _, _, _, _, rfl, rfl, SqL.of hl, atI_nat (j := 1) rfl, _, _, _, _, rfl, rfl, SqL.of haH, atI_nat gi, ?_⟩
          refine ⟨_, rfl, _, _, _, _, rfl, rfl, SqL.of hl, atI_nat (j := 1) rfl, _, _, rfl, rfl, _, rfl, _, _, _, 1, rfl, rfl, hl, rfl, ?_⟩
          refine ⟨_, rfl, _, rfl, _, _, _, 2, rfl, rfl, upd_same, rfl, ?_⟩
          refine ⟨_, rfl, _, _, rfl, rfl, _, rfl, ite2 (fun e3 => ?_) (fun e3 => ?_)⟩
          · refine ⟨_, rfl, _, rfl, fun v => ⟨_, rfl, _, _, _, 2, rfl, rfl, upd_same, rfl, ?_⟩⟩
            exact ⟨i + 1, v, k, s5, _, rfl, upd_same, fun o => by rw [upd_upd, upd_upd, upd_upd]⟩
          · exact ⟨i + 1, ns[i], k, s5, _, rfl, upd_same, fun o => by rw [upd_upd, upd_upd]⟩
        · exact ⟨i, c, k, s5, _, rfl, hl, fun _ => rfl⟩
      · exact iteF ⟨i, c, k, s5, _, rfl, hl, fun _ => rfl⟩
    · rintro σ H' ⟨i, c, k, s5, o1, rfl, hl', hu⟩
      refine ⟨_, rfl, _, _, _, _, rfl, rfl, SqL.of hl', atI_nat (j := 3) rfl, _, _, rfl, rfl, _, rfl, _, _, _, 3, rfl, rfl, hl', rfl, ?_⟩
      refine ⟨_, rfl, _, _, _, _, rfl, rfl, SqL.of upd_same, atI_nat (j := 2) rfl, _, _, rfl, rfl, _, rfl, ite2 (fun e1 => ?_) (fun e1 => ?_)⟩
      · refine ⟨_, rfl, _, _, _, _, rfl, rfl, SqL.of upd_same, atI_nat (j := 4) rfl, _, _, rfl, rfl, .inr ⟨by decide, by decide⟩, _, rfl, _, _, _, _, rfl, rfl, SqL.of upd_same, atI_nat (j := 3) rfl, _, _, rfl, rfl, .inr ⟨by decide, by decide⟩, _, _, rfl, rfl, _, _, rfl, rfl, .inl ⟨_, rfl, _, _, rfl, rfl, (by show (0 : Int) < 2147483647; decide), ?_⟩⟩
        refine ⟨_, rfl, _, _, rfl, rfl, .inr ⟨by decide, by decide⟩, _, rfl, _, _, _, _, rfl, rfl, SqL.of upd_same, atI_nat (j := 3) rfl, _, _, rfl, rfl, .inl ⟨_, rfl, _, _, rfl, rfl, (by show (0 : Int) < 2147483629; decide), ?_⟩⟩
        refine ⟨_, rfl, _, _, rfl, rfl, ⟨by decide, by decide⟩, _, rfl, _, _, rfl, rfl, n0, ?_⟩
        show Q _ _
        rw [hu]
        exact q _ _ (Int.emod_nonneg _ (by omega)) (Int.emod_lt_of_pos _ n0) (pk i c (k + 1) s5)
      · refine ⟨_, rfl, _, _, _, _, rfl, rfl, SqL.of upd_same, atI_nat (j := 2) rfl, .inl ⟨_, rfl, _, rfl, _, _, rfl, rfl, n0, ?_⟩⟩
        refine ⟨_, rfl, _, _, _, _, rfl, rfl, SqL.of upd_same, atI_nat (j := 2) rfl, _, rfl, _, _, rfl, rfl, ⟨n0, n9⟩, _, rfl, _, _, _, 2, rfl, rfl, upd_same, rfl, _, rfl, ?_⟩
        show Q _ _
        rw [upd_upd, hu]
        exact q _ _ (Int.emod_nonneg _ (by omega)) (Int.emod_lt_of_pos _ n0) (pk i (c / n) (k + 1) s5)
/-- the same, the heap behind it a letter -/
def spDrawX : Sp := fun vs H Q _ => ∃ (p a : Addr) (n : Int), vs = [.ref p, .int n] ∧ 0 < n ∧ n ≤ 2 ^ 70 ∧ PoolOk p a H ∧ ∀ (v : Nat) (H' : Hp), (v : Int) < n → Px p a H H' → (∀ b, b ≠ p → H' b = H b) → Q (.int v) H'
theorem log2_small {n : Int} (h0 : 0 < n) (h : n ≤ 2 ^ 70) : n.natAbs.log2 < 9000 := by
  have h1 : n.natAbs < 2 ^ 71 := by omega
  have := PySem.Flt.log2_lt_of (by decide : 0 < 71) h1
  omega
theorem drawX (C : Has P w K mg base 2 "_law_draw" ["pool", "many"] spDraw) : Has P w K mg base 2 "_law_draw" ["pool", "many"] spDrawX :=
  C.imp fun vs H Q E h => by
    obtain ⟨p, a, n, rfl, h0, h1, hp, q⟩ := h
    refine ⟨p, a, n, rfl, h0, log2_small h0 h1, hp, fun v o v0 v1 hq => ?_⟩
    have e : v = ((v.toNat : Nat) : Int) := by omega
    rw [e]
    exact q v.toNat _ (by omega) (Px.draw hp hq) fun b hb => upd_ne hb
end
end G
namespace G
open PySem PySem.Spec PyProof.Rows L2 Evl
/-! ## data -/
inductive D where
  | non | bl (b : Bool) | int (i : Int) | str (s : Str) | tup (l : List D) | lst (l : List D)
def okD : Nat → D → Prop
  | 0, .tup _ => False
  | 0, .lst _ => False
  | n + 1, .tup l => l.length < 2 ^ 61 ∧ ∀ d ∈ l, okD n d
  | n + 1, .lst l => l.length < 2 ^ 61 ∧ ∀ d ∈ l, okD n d
  | _, _ => True
inductive Rep (H : Hp) : V → D → Prop where
  | non : Rep H .non .non
  | bl (b : Bool) : Rep H (.bl b) (.bl b)
  | int (i : Int) : Rep H (.int i) (.int i)
  | str (s : Str) : Rep H (.str s) (.str s)
  | tup {a : Addr} {xs : List V} {ds : List D} (h : H a = some (.tup xs)) (hl : xs.length = ds.length) (hr : ∀ (i : Nat) (x : V) (d : D), xs[i]? = some x → ds[i]? = some d → Rep H x d) : Rep H (.ref a) (.tup ds)
  | lst {a : Addr} {xs : List V} {ds : List D} (h : H a = some (.lst xs)) (hl : xs.length = ds.length) (hr : ∀ (i : Nat) (x : V) (d : D), xs[i]? = some x → ds[i]? = some d → Rep H x d) : Rep H (.ref a) (.lst ds)
theorem Rep.ex {H H' : Hp} (e : Ex H H') {x : V} {d : D} (r : Rep H x d) : Rep H' x d := by
  induction r with
  | non => exact .non
  | bl b => exact .bl b
  | int i => exact .int i
  | str s => exact .str s
  | tup h hl _ ih => exact .tup (e _ _ h) hl ih
  | lst h hl _ ih => exact .lst (e _ _ h) hl ih
theorem okD.mono : ∀ {n m : Nat} {d : D}, n ≤ m → okD n d → okD m d
  | 0, 0, d, _, h => h
  | 0, m + 1, .non, _, _ => trivial
  | 0, m + 1, .bl _, _, _ => trivial
  | 0, m + 1, .int _, _, _ => trivial
  | 0, m + 1, .str _, _, _ => trivial
  | 0, m + 1, .tup _, _, h => h.elim
  | 0, m + 1, .lst _, _, h => h.elim
  | n + 1, m + 1, .non, _, _ => trivial
  | n + 1, m + 1, .bl _, _, _ => trivial
  | n + 1, m + 1, .int _, _, _ => trivial
  | n + 1, m + 1, .str _, _, _ => trivial
  | n + 1, m + 1, .tup l, le, h => ⟨h.1, fun d hd => okD.mono (Nat.le_of_succ_le_succ le) (h.2 d hd)⟩
  | n + 1, m + 1, .lst l, le, h => ⟨h.1, fun d hd => okD.mono (Nat.le_of_succ_le_succ le) (h.2 d hd)⟩
structure TxtS (mg : Str → Option Value) : Prop where
  isinstance : mg "isinstance" = none
  tuple : mg "tuple" = none
  list : mg "list" = none
  len : mg "len" = none
  range : mg "range" = none
  bool : mg "bool" = none
  int : mg "int" = none
  str : mg "str" = none
section
variable {P : Program} {w : World} {K : PySem.W.Frag} {mg : Str → Option Value} {base : Heap}
/-- equal data: the answer is True -/
def spSame : Nat → Sp
  | 0 => fun _ _ _ _ => False
  | n + 1 => fun vs H Q _ => ∃ (x y : V) (d : D), vs = [x, y] ∧ Rep H x d ∧ Rep H y d ∧ okD n d ∧ Q (.bl true) H
theorem sc_law_same : FnScope ["actual", "due", "k"] ["actual", "due"] (defScope s_law_same) := ⟨rfl, rfl, rfl, by decide +kernel, rfl, by decide +kernel, by decide +kernel⟩
theorem fn_law_same {f : Addr} {fd : FuncData} (F : Fun K "_law_same" "_law_same" s_law_same f fd) (g_law_same : mg "_law_same" = some (.ref f)) (b_law_same : Binds K fd ["actual", "due"] []) (T : TxtS mg) : ∀ n, FnOk P w K mg base CX0 n f fd ["actual", "due"] (spSame n)
  | 0 => ⟨fun _ _ _ _ h => h.elim, fun _ _ _ _ _ _ _ _ _ _ _ _ _ h => h.elim⟩
  | n + 1 => by
    have G_law_same := fn_law_same F g_law_same b_law_same T n
    have k_law_same := F.kp
    refine F.ok sc_law_same (fun vs H Q E h => ?_) (fun cdv A outer s H vs Q E hr h => ?_)
    · obtain ⟨x, y, d, rfl, _⟩ := h
      rfl
    · obtain ⟨x, y, d, rfl, rx, ry, hd, q⟩ := h
      refine ⟨_, (pss_cons (ps_if (PW.pt (pw_or (pt_val (pe_callB call_isi (by rfl) T.isinstance (by decide +kernel) (pa_cons (pv 1) (pa_cons (pe_bltn (v := .ty "tuple") (by rfl) T.tuple (by decide +kernel) rfl) pa_nil)))) (pw_or1 (pt_val (pe_callB call_isi (by rfl) T.isinstance (by decide +kernel) (pa_cons (pv 1) (pa_cons (pe_bltn (v := .ty "list") (by rfl) T.list (by decide +kernel) rfl) pa_nil)))))))
      (pss_cons (ps_if (PW.pt (pw_or (pt_cmpR op_ne (pe_callB call_isi (by rfl) T.isinstance (by decide +kernel) (pa_cons (pv 1) (pa_cons (pe_bltn (v := .ty "tuple") (by rfl) T.tuple (by decide +kernel) rfl) pa_nil))) (pe_callB call_isi (by rfl) T.isinstance (by decide +kernel) (pa_cons (pv 0) (pa_cons (pe_bltn (v := .ty "tuple") (by rfl) T.tuple (by decide +kernel) rfl) pa_nil))) (nomark _)) (pw_or1 (pt_cmpR op_ne (pe_callB call_isi (by rfl) T.isinstance (by decide +kernel) (pa_cons (pv 1) (pa_cons (pe_bltn (v := .ty "list") (by rfl) T.list (by decide +kernel) rfl) pa_nil))) (pe_callB call_isi (by rfl) T.isinstance (by decide +kernel) (pa_cons (pv 0) (pa_cons (pe_bltn (v := .ty "list") (by rfl) T.list (by decide +kernel) rfl) pa_nil))) (nomark _)))))
        (pss_one (ps_ret pe_bl))
        pss_nil)
      (pss_cons (ps_if (pt_cmpR op_ne (pe_callB call_len_seq (by rfl) T.len (by decide +kernel) (pa_cons (pv 0) pa_nil)) (pe_callB call_len_seq (by rfl) T.len (by decide +kernel) (pa_cons (pv 1) pa_nil)) (nomark _))
        (pss_one (ps_ret pe_bl))
        pss_nil)
      (pss_cons (ps_for PassesOwn.never rfl (pi_range1 rfl T.range (pa_cons (pe_callB call_len_seq (by rfl) T.len (by decide +kernel) (pa_cons (pv 1) pa_nil)) pa_nil)) (pg_name (i := 2) sc_law_same.nd rfl (.inl rfl))
        (pss_one (ps_if (pt_not (pt_val (pe_call G_law_same hr (by rfl) g_law_same k_law_same b_law_same .nil pass0 (pa_cons (pe_ix ix_seq (pv 0) (pv 2) (fun _ _ => rfl)) (pa_cons (pe_ix ix_seq (pv 1) (pv 2) (fun _ _ => rfl)) pa_nil)))))
          (pss_one (ps_ret pe_bl))
          pss_nil)))
      (pss_one (ps_ret pe_bl)))))
      pss_nil)
    (pss_cons (ps_if (pt_cmpR op_isN (pv 1) pe_non (nomark _))
      (pss_one (ps_ret (pe_cmpR op_isN (pv 0) pe_non (nomark _))))
      pss_nil)
    (pss_cons (ps_if (pt_val (pe_callB call_isi (by rfl) T.isinstance (by decide +kernel) (pa_cons (pv 1) (pa_cons (pe_bltn (v := .ty "bool") (by rfl) T.bool (by decide +kernel) rfl) pa_nil))))
      (pss_one (ps_ret (pe_and (pe_callB call_isi (by rfl) T.isinstance (by decide +kernel) (pa_cons (pv 0) (pa_cons (pe_bltn (v := .ty "bool") (by rfl) T.bool (by decide +kernel) rfl) pa_nil))) (pe_one (pe_cmpR op_eq (pv 0) (pv 1) (nomark _))))))
      pss_nil)
    (pss_cons (ps_if (pt_val (pe_callB call_isi (by rfl) T.isinstance (by decide +kernel) (pa_cons (pv 1) (pa_cons (pe_bltn (v := .ty "int") (by rfl) T.int (by decide +kernel) rfl) pa_nil))))
      (pss_one (ps_ret (pe_and (pe_callB call_isi (by rfl) T.isinstance (by decide +kernel) (pa_cons (pv 0) (pa_cons (pe_bltn (v := .ty "int") (by rfl) T.int (by decide +kernel) rfl) pa_nil))) (pe_and (pe_not (pe_callB call_isi (by rfl) T.isinstance (by decide +kernel) (pa_cons (pv 0) (pa_cons (pe_bltn (v := .ty "bool") (by rfl) T.bool (by decide +kernel) rfl) pa_nil)))) (pe_one (pe_cmpR op_eq (pv 0) (pv 1) (nomark _)))))))
      pss_nil)
    (pss_one (ps_ret (pe_and (pe_callB call_isi (by rfl) T.isinstance (by decide +kernel) (pa_cons (pv 0) (pa_cons (pe_bltn (v := .ty "str") (by rfl) T.str (by decide +kernel) rfl) pa_nil))) (pe_one (pe_cmpR op_eq (pv 0) (pv 1) (nomark _)))))))))), ?_⟩
      cases rx with
      | non =>
        cases ry
        refine ⟨_, rfl, _, _, _, _, _, rfl, .ty "tuple", .base .non, kit_ty (a := "NoneType") (r := false) (by decide +kernel), _, rfl, iteF ⟨_, rfl, _, _, _, _, _, rfl, .ty "list", .base .non, kit_ty (a := "NoneType") (r := false) (by decide +kernel), _, rfl, iteF ⟨_, rfl, rfl, _, rfl, iteT ⟨_, rfl, rfl, ?_⟩⟩⟩⟩
        exact q
      | bl b =>
        cases ry
        refine ⟨_, rfl, _, _, _, _, _, rfl, .ty "tuple", .base (.bl _), kit_ty (a := "bool") (r := false) (by decide +kernel), _, rfl, iteF ⟨_, rfl, _, _, _, _, _, rfl, .ty "list", .base (.bl _), kit_ty (a := "bool") (r := false) (by decide +kernel), _, rfl, iteF ⟨_, rfl, rfl, _, rfl, iteF ⟨_, rfl, _, _, _, _, _, rfl, .ty "bool", .base (.bl _), kit_ty (a := "bool") (r := true) (by decide +kernel), _, rfl, iteT ⟨_, rfl, _, _, _, _, _, rfl, .ty "bool", .base (.bl _), kit_ty (a := "bool") (r := true) (by decide +kernel), _, rfl, iteT ⟨_, rfl, _, rfl, rfl, ?_⟩⟩⟩⟩⟩⟩
        rw [decide_eq_true rfl]
        exact q
      | int b =>
        cases ry
        refine ⟨_, rfl, _, _, _, _, _, rfl, .ty "tuple", .base (.int _), kit_ty (a := "int") (r := false) (by decide +kernel), _, rfl, iteF ⟨_, rfl, _, _, _, _, _, rfl, .ty "list", .base (.int _), kit_ty (a := "int") (r := false) (by decide +kernel), _, rfl, iteF ⟨_, rfl, rfl, _, rfl, iteF ⟨_, rfl, _, _, _, _, _, rfl, .ty "bool", .base (.int _), kit_ty (a := "int") (r := false) (by decide +kernel), _, rfl, iteF ⟨_, rfl, _, _, _, _, _, rfl, .ty "int", .base (.int _), kit_ty (a := "int") (r := true) (by decide +kernel), _, rfl, iteT ⟨_, rfl, _, _, _, _, _, rfl, .ty "int", .base (.int _), kit_ty (a := "int") (r := true) (by decide +kernel), _, rfl, iteT ⟨_, rfl, _, _, _, _, _, rfl, .ty "bool", .base (.int _), kit_ty (a := "int") (r := false) (by decide +kernel), _, rfl, _, rfl, iteT ⟨_, rfl, _, rfl, rfl, ?_⟩⟩⟩⟩⟩⟩⟩⟩
        rw [decide_eq_true rfl]
        exact q
      | str b =>
        cases ry
        refine ⟨_, rfl, _, _, _, _, _, rfl, .ty "tuple", .base (.str _), kit_ty (a := "str") (r := false) (by decide +kernel), _, rfl, iteF ⟨_, rfl, _, _, _, _, _, rfl, .ty "list", .base (.str _), kit_ty (a := "str") (r := false) (by decide +kernel), _, rfl, iteF ⟨_, rfl, rfl, _, rfl, iteF ⟨_, rfl, _, _, _, _, _, rfl, .ty "bool", .base (.str _), kit_ty (a := "str") (r := false) (by decide +kernel), _, rfl, iteF ⟨_, rfl, _, _, _, _, _, rfl, .ty "int", .base (.str _), kit_ty (a := "str") (r := false) (by decide +kernel), _, rfl, iteF ⟨_, rfl, _, _, _, _, _, rfl, .ty "str", .base (.str _), kit_ty (a := "str") (r := true) (by decide +kernel), _, rfl, iteT ⟨_, rfl, _, rfl, rfl, ?_⟩⟩⟩⟩⟩⟩⟩
        rw [decide_eq_true rfl]
        exact q
      | @tup a xs ds hx lx rx =>
        cases ry with
        | @tup b ys _ hy ly ry =>
          cases n with
          | zero => exact hd.elim
          | succ m =>
            obtain ⟨hlen, hall⟩ := hd
            refine ⟨_, rfl, _, _, _, _, _, rfl, .ty "tuple", .base (.tup hy), kit_ty (a := "tuple") (r := true) (by decide +kernel), _, rfl, iteT (iteT ⟨_, rfl, _, _, _, _, _, rfl, .ty "tuple", .base (.tup hy), kit_ty (a := "tuple") (r := true) (by decide +kernel), _, rfl, _, _, _, _, _, rfl, .ty "tuple", .base (.tup hx), kit_ty (a := "tuple") (r := true) (by decide +kernel), rfl, _, rfl, iteF ⟨_, rfl, _, _, _, _, _, rfl, .ty "list", .base (.tup hy), kit_ty (a := "tuple") (r := false) (by decide +kernel), _, rfl, _, _, _, _, _, rfl, .ty "list", .base (.tup hx), kit_ty (a := "tuple") (r := false) (by decide +kernel), rfl, _, rfl, iteF ⟨_, rfl, _, _, rfl, .inr (SqT.of hx), _, rfl, _, _, rfl, .inr (SqT.of hy), rfl, _, rfl, ?_⟩⟩⟩)⟩
            have el : decide (V.int (xs.length : Int) = V.int (ys.length : Int)) = true := decide_eq_true (by rw [lx, ly])
            rw [el]
            refine ⟨_, rfl, _, _, rfl, .inr (SqT.of hy), _, rfl, by omega, by omega, for_range (n := (ys.length : Int).toNat) (fun _ σ H' => H' = H ∧ ∃ z : Option V, σ = [some (.ref a), some (.ref b), z]) ⟨rfl, _, rfl⟩ ?_ ?_⟩
            · rintro i σ H' hi ⟨rfl, z, rfl⟩
              have hi' : i < ds.length := by omega
              have e0 : (0 : Int) + (i : Int) = (i : Int) := Int.zero_add _
              have g1 : xs[i]? = some xs[i] := List.getElem?_eq_getElem (by omega)
              have g2 : ys[i]? = some ys[i] := List.getElem?_eq_getElem (by omega)
              have g3 : ds[i]? = some ds[i] := List.getElem?_eq_getElem hi'
              rw [e0]
              refine ⟨_, rfl, _, rfl, .inr (.inl ⟨_, _, _, _, rfl, rfl, SqT.of hx, atI_nat g1, _, rfl, _, rfl, .inr (.inl ⟨_, _, _, _, rfl, rfl, SqT.of hy, atI_nat g2, ?_⟩)⟩)⟩
              exact ⟨_, _, ds[i], rfl, rx i _ _ g1 g3, ry i _ _ g2 g3, hall _ (List.getElem_mem hi'), _, rfl, rfl, _, rfl⟩
            · rintro σ H' ⟨rfl, z, rfl⟩
              exact q
      | @lst a xs ds hx lx rx =>
        cases ry with
        | @lst b ys _ hy ly ry =>
          cases n with
          | zero => exact hd.elim
          | succ m =>
            obtain ⟨hlen, hall⟩ := hd
            refine ⟨_, rfl, _, _, _, _, _, rfl, .ty "tuple", .base (.lst hy), kit_ty (a := "list") (r := false) (by decide +kernel), _, rfl, iteF ⟨_, rfl, _, _, _, _, _, rfl, .ty "list", .base (.lst hy), kit_ty (a := "list") (r := true) (by decide +kernel), _, rfl, iteT ⟨_, rfl, _, _, _, _, _, rfl, .ty "tuple", .base (.lst hy), kit_ty (a := "list") (r := false) (by decide +kernel), _, rfl, _, _, _, _, _, rfl, .ty "tuple", .base (.lst hx), kit_ty (a := "list") (r := false) (by decide +kernel), rfl, _, rfl, iteF ⟨_, rfl, _, _, _, _, _, rfl, .ty "list", .base (.lst hy), kit_ty (a := "list") (r := true) (by decide +kernel), _, rfl, _, _, _, _, _, rfl, .ty "list", .base (.lst hx), kit_ty (a := "list") (r := true) (by decide +kernel), rfl, _, rfl, iteF ⟨_, rfl, _, _, rfl, .inl (SqL.of hx), _, rfl, _, _, rfl, .inl (SqL.of hy), rfl, _, rfl, ?_⟩⟩⟩⟩⟩
            have el : decide (V.int (xs.length : Int) = V.int (ys.length : Int)) = true := decide_eq_true (by rw [lx, ly])
            rw [el]
            refine ⟨_, rfl, _, _, rfl, .inl (SqL.of hy), _, rfl, by omega, by omega, for_range (n := (ys.length : Int).toNat) (fun _ σ H' => H' = H ∧ ∃ z : Option V, σ = [some (.ref a), some (.ref b), z]) ⟨rfl, _, rfl⟩ ?_ ?_⟩
            · rintro i σ H' hi ⟨rfl, z, rfl⟩
              have hi' : i < ds.length := by omega
              have e0 : (0 : Int) + (i : Int) = (i : Int) := Int.zero_add _
              have g1 : xs[i]? = some xs[i] := List.getElem?_eq_getElem (by omega)
              have g2 : ys[i]? = some ys[i] := List.getElem?_eq_getElem (by omega)
              have g3 : ds[i]? = some ds[i] := List.getElem?_eq_getElem hi'
              rw [e0]
              refine ⟨_, rfl, _, rfl, .inl ⟨_, _, _, _, rfl, rfl, SqL.of hx, atI_nat g1, _, rfl, _, rfl, .inl ⟨_, _, _, _, rfl, rfl, SqL.of hy, atI_nat g2, ?_⟩⟩⟩
              exact ⟨_, _, ds[i], rfl, rx i _ _ g1 g3, ry i _ _ g2 g3, hall _ (List.getElem_mem hi'), _, rfl, rfl, _, rfl⟩
            · rintro σ H' ⟨rfl, z, rfl⟩
              exact q
theorem ok_law_same (D : Dfd K mg "_law_same" s_law_same ["actual", "due"]) (T : TxtS mg) (n : Nat) : Has P w K mg base n "_law_same" ["actual", "due"] (spSame n) := by
  obtain ⟨f, fd, F, g, b⟩ := D
  exact ⟨f, fd, fn_law_same F g b T n, g, F.kp, b⟩
end
/-! ## data made of flat lists -/
theorem rep_map {H : Hp} {α : Type} {f : α → V} {g : α → D} {l : List α} (h : ∀ x, Rep H (f x) (g x)) : (l.map f).length = (l.map g).length ∧ ∀ (i : Nat) (x : V) (d : D), (l.map f)[i]? = some x → (l.map g)[i]? = some d → Rep H x d := by
  refine ⟨by rw [List.length_map, List.length_map], fun i x d hx hd => ?_⟩
  rw [List.getElem?_map] at hx hd
  cases e : l[i]? with
  | none => rw [e] at hx; cases hx
  | some y =>
    rw [e] at hx hd
    have e1 : f y = x := Option.some.inj hx
    have e2 : g y = d := Option.some.inj hd
    rw [← e1, ← e2]
    exact h y
theorem rep_ints {H : Hp} {a : Addr} {l : List Int} (h : H a = some (.lst (l.map V.int))) : Rep H (.ref a) (.lst (l.map D.int)) :=
  let r := rep_map (H := H) (f := V.int) (g := D.int) (l := l) fun i => .int i
  .lst h r.1 r.2
theorem rep_bls {H : Hp} {a : Addr} {l : List Bool} (h : H a = some (.tup (l.map V.bl))) : Rep H (.ref a) (.tup (l.map D.bl)) :=
  let r := rep_map (H := H) (f := V.bl) (g := D.bl) (l := l) fun i => .bl i
  .tup h r.1 r.2
theorem okD_ints {l : List Int} (h : l.length < 2 ^ 61) : okD 1 (.lst (l.map D.int)) := ⟨by rw [List.length_map]; exact h, fun d hd => by obtain ⟨_, _, rfl⟩ := List.mem_map.mp hd; trivial⟩
end G
namespace G
open PySem PySem.Spec PyProof.Rows L2 Evl
section
variable {P : Program} {w : World} {K : PySem.W.Frag} {mg : Str → Option Value} {base : Heap}
theorem cutV_mem {xs : List V} {lo hi : Option Int} {i : Nat} {x : V} (h : (cutV xs lo hi)[i]? = some x) : x ∈ xs := by
  unfold cutV at h
  exact List.mem_of_mem_drop (List.mem_of_mem_take (List.mem_of_getElem? h))
theorem int_of {ns : List Int} {x : V} (h : x ∈ ns.map V.int) : ∃ z, x = .int z := by
  obtain ⟨z, _, e⟩ := List.mem_map.mp h
  exact ⟨z, e.symm⟩
def spPool (K : PySem.W.Frag) : Sp := fun vs H Q _ => ∃ (s : Addr) (ns : List Int), vs = [.ref s] ∧ SqL K H s (ns.map V.int) ∧ ns.length ≤ 1000 ∧ ∀ (p a : Addr) (H' : Hp), PoolOk p a H' → Ex H H' → H p = none → Q (.ref p) H'
theorem sc_law_pool : FnScope ["script", "salt", "cell"] ["script"] (defScope s_law_pool) := ⟨rfl, rfl, rfl, by decide +kernel, rfl, by decide +kernel, by decide +kernel⟩
theorem ok_law_pool (D : Dfd K mg "_law_pool" s_law_pool ["script"]) (T : TxtL mg) : Has P w K mg base 1 "_law_pool" ["script"] (spPool K) := by
  refine D.has fun f fd F => F.ok sc_law_pool (fun vs H Q E h => ?_) (fun cdv A outer s H vs Q E hr h => ?_)
  · obtain ⟨c, _, rfl, _⟩ := h
    rfl
  · obtain ⟨sa, ns, rfl, hs, hn, q⟩ := h
    refine ⟨_, (pss_cons (ps_set (i := 1) sc_law_pool.nd rfl (.inl rfl) pe_int)
      (pss_cons (ps_for PassesOwn.never rfl (pi_list (pe_slice sl_list (pv 0) po_none (po_some pe_int))) (pg_name (i := 2) sc_law_pool.nd rfl (.inl rfl))
        (pss_one (ps_set (i := 1) sc_law_pool.nd rfl (.inl rfl) (pe_op op_mod (pe_callTy call_int1 (by rfl) T.int (by decide +kernel) (pa_cons (pe_op op_add (pe_op op_mul (pv 1) pe_int) (pv 2)) pa_nil)) pe_int))))
      (pss_one (ps_ret (pe_lst (pa_cons (pe_callTy call_list_of (by rfl) T.list (by decide +kernel) (pa_cons (pv 0) pa_nil)) (pa_cons pe_int (pa_cons pe_int (pa_cons pe_int (pa_cons (pv 1) pa_nil)))))))))), ?_⟩
    refine ⟨_, rfl, _, rfl, sa, _, rfl, hs, fun c nc => ⟨c, rfl, ⟨_, SqL.of upd_same⟩, for_list (K := K) (a := c) (xs := cutV (ns.map V.int) none (some 63)) (fun _ σ H' => H' = upd H c (.lst (cutV (ns.map V.int) none (some 63))) ∧ ∃ (x : Int) (z : Option V), σ = [some (.ref sa), some (.int x), z]) ⟨rfl, _, _, rfl⟩ ?_ ?_ ?_⟩⟩
    · rintro i σ H' _ ⟨rfl, _⟩
      exact SqL.of upd_same
    · rintro i x σ H' hi ⟨rfl, y, z, rfl⟩
      obtain ⟨m, rfl⟩ := int_of (cutV_mem hi)
      exact ⟨_, rfl, _, _, rfl, rfl, .inr ⟨by decide, by decide⟩, _, rfl, _, _, rfl, rfl, .inl ⟨_, rfl, _, _, rfl, rfl, (by show (0 : Int) < 1000003; decide), rfl, _, _, rfl⟩⟩
    · rintro σ H' ⟨rfl, y, z, rfl⟩
      have e1 : Ex H (upd H c (.lst (cutV (ns.map V.int) none (some 63)))) := Ex.new nc
      refine ⟨_, rfl, _, _, rfl, .inl (ex_l e1 hs), fun l nl => ⟨_, rfl, (by show 5 ≤ sizeLine; decide), fun p np => ?_⟩⟩
      have e2 := e1.trans (Ex.new (o := .lst (ns.map V.int)) nl)
      have npl : l ≠ p := ne_of_none upd_same np
      exact q p l _ ⟨ns, 0, 0, 0, y, upd_same, by rw [hid_ne npl, upd_ne npl]; exact upd_same, hn⟩ (e2.trans (Ex.new np)) (fresh_back e2 np)
end
end G
namespace G
open PySem PySem.Spec PyProof.Rows L2 Evl
def bitsOf (x m : Nat) : List Bool := (List.range m).map fun k => x.testBit k
theorem bitsOf_len (x m : Nat) : (bitsOf x m).length = m := by unfold bitsOf; rw [List.length_map, List.length_range]
theorem bitsOf_succ (x m : Nat) : bitsOf x (m + 1) = bitsOf x m ++ [x.testBit m] := by unfold bitsOf; rw [List.range_succ, List.map_append]; rfl
theorem bit_at (x i : Nat) : decide (V.int (((x / 2 ^ i : Nat) : Int) % 2) = V.int 1) = x.testBit i := by
  rw [Nat.testBit_eq_decide_div_mod_eq, Bool.eq_iff_iff, decide_eq_true_iff, decide_eq_true_iff, V.int.injEq]
  omega
theorem half_at (x i : Nat) : ((x / 2 ^ i : Nat) : Int) / 2 = ((x / 2 ^ (i + 1) : Nat) : Int) := by
  rw [Nat.pow_succ, ← Nat.div_div_eq_div_mul]
  omega
section
variable {P : Program} {w : World} {K : PySem.W.Frag} {mg : Str → Option Value} {base : Heap}
def spBits : Sp := fun vs H Q _ => ∃ (x m : Nat), vs = [.int x, .int m] ∧ m ≤ 1000 ∧ ∀ (t : Addr) (H' : Hp), H t = none → Ex H H' → H' t = some (.tup ((bitsOf x m).map V.bl)) → Q (.ref t) H'
theorem sc_law_bits : FnScope ["index", "many", "out", "k"] ["index", "many"] (defScope s_law_bits) := ⟨rfl, rfl, rfl, by decide +kernel, rfl, by decide +kernel, by decide +kernel⟩
theorem ok_law_bits (D : Dfd K mg "_law_bits" s_law_bits ["index", "many"]) (T : TxtS mg) : Has P w K mg base 1 "_law_bits" ["index", "many"] spBits := by
  refine D.has fun f fd F => F.ok sc_law_bits (fun vs H Q E h => ?_) (fun cdv A outer s H vs Q E hr h => ?_)
  · obtain ⟨c, _, rfl, _⟩ := h
    rfl
  · obtain ⟨x, m, rfl, hm, q⟩ := h
    refine ⟨_, (pss_cons (ps_set (i := 2) sc_law_bits.nd rfl (.inl rfl) (pe_lst pa_nil))
    (pss_cons (ps_for PassesOwn.never rfl (pi_range1 rfl T.range (pa_cons (pv 1) pa_nil)) (pg_name (i := 3) sc_law_bits.nd rfl (.inl rfl))
      (pss_cons (ps_expr (pe_bm PySem.F.plainAttrs_list PySem.F.slot_list_append PySem.F.type_list_append mt_append (pv 2) (pa_cons (pe_cmpR op_eq (pe_op op_mod (pe_callTy call_int1 (by rfl) T.int (by decide +kernel) (pa_cons (pv 0) pa_nil)) pe_int) pe_int (nomark _)) pa_nil)))
      (pss_one (ps_set (i := 0) sc_law_bits.nd rfl (.inl rfl) (pe_op op_fdiv (pv 0) pe_int)))))
    (pss_one (ps_ret (pe_callTy call_tuple_of (by rfl) T.tuple (by decide +kernel) (pa_cons (pv 2) pa_nil)))))), ?_⟩
    refine ⟨Nat.zero_le _, fun o no => ⟨_, rfl, _, rfl, by omega, by omega, for_range (n := ((m : Int)).toNat) (fun i σ H' => H' = upd H o (.lst ((bitsOf x i).map V.bl)) ∧ ∃ z : Option V, σ = [some (.int ((x / 2 ^ i : Nat) : Int)), some (.int m), some (.ref o), z]) ⟨rfl, _, by rw [Nat.pow_zero, Nat.div_one]; rfl⟩ ?_ ?_⟩⟩
    · rintro i σ H' hi ⟨rfl, z, rfl⟩
      refine ⟨_, rfl, .inl ⟨rfl, _, SqL.of upd_same⟩, _, rfl, .inl ⟨_, rfl, _, _, rfl, rfl, (by show (0 : Int) < 2; decide), rfl, o, _, _, rfl, rfl, upd_same, ?_, _, rfl, _, _, rfl, rfl, ⟨by decide, by decide⟩, ?_, some (.int (0 + (i : Int))), ?_⟩⟩
      · exact sz_lt (by rw [List.length_map, bitsOf_len]; omega)
      · rw [upd_upd, bit_at, bitsOf_succ, List.map_append]; rfl
      · rw [← half_at]; rfl
    · rintro σ H' ⟨rfl, z, rfl⟩
      refine ⟨_, rfl, _, _, rfl, .inl ⟨SqL.of upd_same, fun t nt => ?_⟩⟩
      have e1 : Ex H (upd H o (.lst ((bitsOf x ((m : Int)).toNat).map V.bl))) := Ex.new no
      exact q t _ (fresh_back e1 nt) (e1.trans (Ex.new nt)) upd_same
end
end G
namespace G
open PySem PySem.Spec PyProof.Rows L2 Evl
theorem pow7 : ∀ {m : Nat}, m ≤ 6 → ([.int 1, .int 2, .int 4, .int 8, .int 16, .int 32, .int 64] : List V)[m]? = some (.int ((2 ^ m : Nat) : Int))
  | 0, _ => rfl | 1, _ => rfl | 2, _ => rfl | 3, _ => rfl | 4, _ => rfl | 5, _ => rfl | 6, _ => rfl
  | n + 7, h => by omega
theorem pow6 : ∀ {m : Nat}, m ≤ 5 → ([.int 1, .int 2, .int 4, .int 8, .int 16, .int 32] : List V)[m]? = some (.int ((2 ^ m : Nat) : Int))
  | 0, _ => rfl | 1, _ => rfl | 2, _ => rfl | 3, _ => rfl | 4, _ => rfl | 5, _ => rfl
  | n + 6, h => by omega
theorem pow_le64 {m : Nat} (h : m ≤ 6) : 2 ^ m ≤ 64 := Nat.le_trans (Nat.pow_le_pow_right (by decide) h) (by decide)
theorem pow_pos2 (m : Nat) : 0 < 2 ^ m := Nat.pow_pos (by decide)
theorem divW_small {i : Int} {j : Nat} (h : 0 < j) (h9 : j ≤ 1000) : CDivW i (j : Int) := wide_div (b := 20) (by omega) (by
  rw [Int.natAbs_natCast]
  exact Nat.lt_of_le_of_lt h9 (by decide)) (by decide) (by decide)
section
variable {P : Program} {w : World} {K : PySem.W.Frag} {mg : Str → Option Value} {base : Heap}
/-- a table of m inputs -/
def spTable : Sp := fun vs H Q _ => ∃ (p a : Addr) (m : Nat), vs = [.ref p, .int m] ∧ m ≤ 6 ∧ PoolOk p a H ∧ ∀ (t : Addr) (bs : List Bool) (H' : Hp), bs.length = 2 ^ m → Px p a H H' → H t = none → H' t = some (.tup (bs.map V.bl)) → Q (.ref t) H'
theorem sc_law_table : FnScope ["pool", "many", "size", "kind", "value", "low", "place", "number", "bit", "k"] ["pool", "many"] (defScope s_law_table) := ⟨rfl, rfl, rfl, by decide +kernel, rfl, by decide +kernel, by decide +kernel⟩
theorem ok_law_table (D : Dfd K mg "_law_table" s_law_table ["pool", "many"]) (T : TxtS mg) (C : Has P w K mg base 2 "_law_draw" ["pool", "many"] spDrawX) (C2 : Has P w K mg base 1 "_law_bits" ["index", "many"] spBits) : Has P w K mg base 3 "_law_table" ["pool", "many"] spTable := by
  obtain ⟨f_law_draw, d_law_draw, G_law_draw, g_law_draw, k_law_draw, b_law_draw⟩ := C
  obtain ⟨f_law_bits, d_law_bits, G_law_bits, g_law_bits, k_law_bits, b_law_bits⟩ := C2
  refine D.has fun f fd F => F.ok sc_law_table (fun vs H Q E h => ?_) (fun cdv A outer s H vs Q E hr h => ?_)
  · obtain ⟨c, _, _, rfl, _⟩ := h
    rfl
  · obtain ⟨p, a, m, rfl, hm, hp, q⟩ := h
    have h64 := pow_le64 hm
    have hpos := pow_pos2 m
    refine ⟨_, (pss_cons (ps_set (i := 2) sc_law_table.nd rfl (.inl rfl) (pe_ix ix_list (pe_lst (pa_cons pe_int (pa_cons pe_int (pa_cons pe_int (pa_cons pe_int (pa_cons pe_int (pa_cons pe_int (pa_cons pe_int pa_nil)))))))) (pv 1) (fun _ _ => rfl)))
    (pss_cons (ps_set (i := 3) sc_law_table.nd rfl (.inl rfl) (pe_call G_law_draw hr (by rfl) g_law_draw k_law_draw b_law_draw .nil pass0 (pa_cons (pv 0) (pa_cons pe_int pa_nil))))
    (pss_cons (ps_if (pt_cmpR op_eq (pv 3) pe_int (nomark _))
      (pss_cons (ps_set (i := 4) sc_law_table.nd rfl (.inr rfl) (pe_cmpR op_eq (pe_call G_law_draw hr (by rfl) g_law_draw k_law_draw b_law_draw .nil pass0 (pa_cons (pv 0) (pa_cons pe_int pa_nil))) pe_int (nomark _)))
      (pss_one (ps_ret (pe_callTy call_tuple_of (by rfl) T.tuple (by decide +kernel) (pa_cons (pe_lc (own := [("k", 9)]) (g := gName 9) (tt := tYes) rfl sc_law_table.nd (pi_range1 rfl T.range (pa_cons (pv 2) pa_nil)) (blkOk_by (N := ["pool", "many", "size", "kind", "value", "low", "place", "number", "bit", "k"]) (sc := defScope s_law_table) (own := [("k", 9)]) (by decide +kernel)) (fun _ _ _ _ _ => (pg_name (i := 9) sc_law_table.nd rfl (.inl rfl))) (fun _ _ _ _ _ => pts_nil) (fun _ _ _ _ _ => (pv 4))) pa_nil)))))
      pss_nil)
    (pss_cut (ps_if (PW.pt (pw_and (pt_cmpR op_eq (pv 3) pe_int (nomark _)) (pw_and1 (pt_cmpR op_gt (pv 1) pe_int (nomark _)))))
      (pss_cons (ps_set (i := 5) sc_law_table.nd rfl (.inr rfl) (pe_ix ix_list (pe_lst (pa_cons pe_int (pa_cons pe_int (pa_cons pe_int (pa_cons pe_int (pa_cons pe_int (pa_cons pe_int pa_nil))))))) (pe_call G_law_draw hr (by rfl) g_law_draw k_law_draw b_law_draw .nil pass0 (pa_cons (pv 0) (pa_cons (pv 1) pa_nil))) (fun _ _ => rfl)))
      (pss_one (ps_ret (pe_callTy call_tuple_of (by rfl) T.tuple (by decide +kernel) (pa_cons (pe_lc (own := [("k", 9)]) (g := gName 9) (tt := tYes) rfl sc_law_table.nd (pi_range1 rfl T.range (pa_cons (pv 2) pa_nil)) (blkOk_by (N := ["pool", "many", "size", "kind", "value", "low", "place", "number", "bit", "k"]) (sc := defScope s_law_table) (own := [("k", 9)]) (by decide +kernel)) (fun _ _ _ _ _ => (pg_name (i := 9) sc_law_table.nd rfl (.inl rfl))) (fun _ _ _ _ _ => pts_nil) (fun _ _ _ _ _ => (pe_cmpR op_eq (pe_op op_mod (pe_callTy call_int1 (by rfl) T.int (by decide +kernel) (pa_cons (pe_op op_fdivW (pv 9) (pv 5)) pa_nil)) pe_int) pe_int (nomark _)))) pa_nil)))))
      pss_nil)
    (pss_cons (ps_if (pt_cmpR op_eq (pv 3) pe_int (nomark _))
      (pss_cons (ps_set (i := 6) sc_law_table.nd rfl (.inr rfl) (pe_call G_law_draw hr (by rfl) g_law_draw k_law_draw b_law_draw .nil pass0 (pa_cons (pv 0) (pa_cons (pv 2) pa_nil))))
      (pss_one (ps_ret (pe_callTy call_tuple_of (by rfl) T.tuple (by decide +kernel) (pa_cons (pe_lc (own := [("k", 9)]) (g := gName 9) (tt := tYes) rfl sc_law_table.nd (pi_range1 rfl T.range (pa_cons (pv 2) pa_nil)) (blkOk_by (N := ["pool", "many", "size", "kind", "value", "low", "place", "number", "bit", "k"]) (sc := defScope s_law_table) (own := [("k", 9)]) (by decide +kernel)) (fun _ _ _ _ _ => (pg_name (i := 9) sc_law_table.nd rfl (.inl rfl))) (fun _ _ _ _ _ => pts_nil) (fun _ _ _ _ _ => (pe_cmpR op_eq (pv 9) (pv 6) (nomark _)))) pa_nil)))))
      pss_nil)
    (pss_cons (ps_set (i := 7) sc_law_table.nd rfl (.inl rfl) (pe_call G_law_draw hr (by rfl) g_law_draw k_law_draw b_law_draw .nil pass0 (pa_cons (pv 0) (pa_cons (pe_op op_pow pe_int pe_int) pa_nil))))
    (pss_one (ps_ret (pe_callTy call_tuple_of (by rfl) T.tuple (by decide +kernel) (pa_cons (pe_lc (own := [("bit", 8)]) (g := gName 8) (tt := tYes) rfl sc_law_table.nd (pi_tup (pe_call G_law_bits (hr.mono (by decide)) (by rfl) g_law_bits k_law_bits b_law_bits .nil pass0 (pa_cons (pv 7) (pa_cons (pv 2) pa_nil)))) (blkOk_by (N := ["pool", "many", "size", "kind", "value", "low", "place", "number", "bit", "k"]) (sc := defScope s_law_table) (own := [("bit", 8)]) (by decide +kernel)) (fun _ _ _ _ _ => (pg_name (i := 8) sc_law_table.nd rfl (.inl rfl))) (fun _ _ _ _ _ => pts_nil) (fun _ _ _ _ _ => (pv 8))) pa_nil)))))))))), ?_⟩
    refine ⟨(by show 7 ≤ sizeLine; decide), fun l nl => ⟨_, rfl, _, _, _, _, rfl, rfl, SqL.of upd_same, atI_nat (pow7 hm), ?_⟩⟩
    have X1 : Px p a H (upd H l (.lst [.int 1, .int 2, .int 4, .int 8, .int 16, .int 32, .int 64])) := (Px.refl hp).new nl
    refine ⟨_, rfl, p, a, 6, rfl, by decide, by decide, X1.pool, fun kind H2 hk X2 _ => ?_⟩
    have Y2 := X1.trans X2
    refine ⟨_, rfl, rfl, _, rfl, ite2 (fun e => ?_) (fun e => ?_)⟩
    · refine ⟨_, rfl, p, a, 2, rfl, by decide, by decide, Y2.pool, fun v H3 hv X3 _ => ⟨rfl, ?_⟩⟩
      have Y3 := Y2.trans X3
      refine ⟨_, rfl, _, rfl, by omega, by omega, fun L nL => lcRv (fun _ => .bl (decide (V.int v = V.int 1))) (by omega) (fun _ => rfl) (fun i H4 _ _ Q q => ⟨_, rfl, q⟩) ⟨_, _, rfl, .inl ⟨SqL.of upd_same, fun t nt => ?_⟩⟩⟩
      exact q t ((List.range ((2 ^ m : Nat) : Int).toNat).map fun _ => decide (V.int v = V.int 1)) _ (by rw [List.length_map, List.length_range]; omega) ((Y3.new nL).new nt) ((Y3.new nL).free nt) (by rw [upd_same, List.map_map]; rfl)
    · refine ⟨fun σ H' => σ = [some (.ref p), some (.int m), some (.int ((2 ^ m : Nat) : Int)), some (.int kind), none, none, none, none, none, none] ∧ H' = H2, ?_, ?_⟩
      · refine ⟨_, rfl, rfl, _, rfl, ite2 (fun e1 => ?_) (fun e1 => iteF ⟨rfl, rfl⟩)⟩
        refine ⟨_, rfl, _, _, rfl, rfl, _, rfl, ite2 (fun e2 => ?_) (fun e2 => ⟨rfl, rfl⟩)⟩
        have hm0 : 0 < m := by have := of_decide_eq_true e2; omega
        refine ⟨(by show 6 ≤ sizeLine; decide), fun l2 nl2 => ⟨_, rfl, _, rfl, p, a, m, rfl, by omega, by omega, (Y2.new nl2).pool, fun v H3 hv X3 hk3 => ?_⟩⟩
        have Y3 := (Y2.new nl2).trans X3
        have h2 : H3 l2 = some (.lst [.int 1, .int 2, .int 4, .int 8, .int 16, .int 32]) := by rw [hk3 _ (Y2.pool.ne nl2)]; exact upd_same
        refine ⟨_, _, _, _, rfl, rfl, SqL.of h2, atI_nat (pow6 (by omega)), ?_⟩
        refine ⟨_, rfl, _, rfl, by omega, by omega, fun L nL => lcRv (fun (i : Nat) => .bl (decide (V.int ((0 + (i : Int)) / ((2 ^ v : Nat) : Int) % 2) = V.int 1))) (by omega) (fun _ => rfl) (fun i H4 _ _ Q q => ⟨_, rfl, _, rfl, _, _, rfl, rfl, divW_small (pow_pos2 v) (Nat.le_trans (pow_le64 (by omega)) (by decide)), .inl ⟨_, rfl, _, _, rfl, rfl, (by show (0 : Int) < 2; decide), rfl, q⟩⟩) ⟨_, _, rfl, .inl ⟨SqL.of upd_same, fun t nt => ?_⟩⟩⟩
        exact q t ((List.range ((2 ^ m : Nat) : Int).toNat).map fun (i : Nat) => decide (V.int ((0 + (i : Int)) / ((2 ^ v : Nat) : Int) % 2) = V.int 1)) _ (by rw [List.length_map, List.length_range]; omega) ((Y3.new nL).new nt) ((Y3.new nL).free nt) (by rw [upd_same, List.map_map]; rfl)
      · rintro σ H' ⟨rfl, rfl⟩
        refine ⟨_, rfl, rfl, _, rfl, ite2 (fun e1 => ?_) (fun e1 => ?_)⟩
        · refine ⟨_, rfl, _, rfl, p, a, ((2 ^ m : Nat) : Int), rfl, by omega, by omega, Y2.pool, fun v H3 hv X3 _ => ?_⟩
          have Y3 := Y2.trans X3
          refine ⟨_, rfl, _, rfl, by omega, by omega, fun L nL => lcRv (fun (i : Nat) => .bl (decide (V.int (0 + (i : Int)) = V.int v))) (by omega) (fun _ => rfl) (fun i H4 _ _ Q q => ⟨_, rfl, _, rfl, rfl, q⟩) ⟨_, _, rfl, .inl ⟨SqL.of upd_same, fun t nt => ?_⟩⟩⟩
          exact q t ((List.range ((2 ^ m : Nat) : Int).toNat).map fun (i : Nat) => decide (V.int (0 + (i : Int)) = V.int v)) _ (by rw [List.length_map, List.length_range]; omega) ((Y3.new nL).new nt) ((Y3.new nL).free nt) (by rw [upd_same, List.map_map]; rfl)
        · refine ⟨_, rfl, _, _, rfl, rfl, ⟨by decide, by decide, by decide⟩, p, a, _, rfl, by decide, by decide, Y2.pool, fun v H3 hv X3 _ => ?_⟩
          have Y3 := Y2.trans X3
          refine ⟨_, rfl, _, rfl, v, 2 ^ m, rfl, by omega, fun t1 H4 n1 E1 h1 => ⟨t1, rfl, ⟨_, SqT.of h1⟩, fun L nL => lcTm (xs := (bitsOf v (2 ^ m)).map V.bl) id (SqT.of h1) nL (by rw [List.length_map, bitsOf_len]; omega) (fun _ => rfl) (fun i x H4 _ _ Q q => ⟨_, rfl, q⟩) ⟨_, _, rfl, .inl ⟨SqL.of upd_same, fun t nt => ?_⟩⟩⟩⟩
          have Y4 := Y3.more E1
          exact q t (bitsOf v (2 ^ m)) _ (bitsOf_len _ _) ((Y4.new nL).new nt) ((Y4.new nL).free nt) (by rw [upd_same, List.map_id])
end
end G
namespace G
open PySem PySem.Spec PyProof.Rows L2 Evl
/-! ## own classes of errors -/
def HasX (P : Program) (w : World) (K : PySem.W.Frag) (mg : Str → Option Value) (base : Heap) (k : Nat) (x : Str) (ps : List Str) (sp : Sp) : Prop :=
  ∃ (f : Addr) (fd : FuncData), FnOk P w K mg base (L2.CX P w) k f fd ps sp ∧ mg x = some (.ref f) ∧ PySem.W.keepIn K (.ref f) = true ∧ Binds K fd ps []
theorem passX0 {X : Cx} {P : Program} {w : World} : Passes (L2.CX P w) X (fun _ _ _ => False) := fun _ _ _ _ _ _ _ h => by
  obtain ⟨_, _, _, _, _, _, _, _, _, _, _, _, h⟩ := h
  exact h.elim
/-- an own class over ValueError without __init__, at C -/
structure ExcT (K : PySem.W.Frag) (mg : Str → Option Value) (x : Str) (C : Addr) : Prop where
  gC : mg x = some (.ref C)
  xP : PySem.W.excIn K C [.type "ValueError", .type "Exception", .type "BaseException", .type "object"] "ValueError.__new__" = true
  kC : PySem.W.keepIn K (.ref C) = true
  bC : PySem.W.subIn K (.ref C) (.type "BaseException") = some true
  tC : PySem.W.typeIn K (.ref C) = some (.type "type")
/-- what an except clause asks of the class that it names -/
structure ExcH (K : PySem.W.Frag) (mg : Str → Option Value) (x : Str) (C : Addr) : Prop where
  u : ExcT K mg x C
  dict : PySem.W.hasDictIn K C = true
  self : PySem.W.subIn K (.ref C) (.ref C) = some true
theorem ExcH.hit {K : PySem.W.Frag} {mg : Str → Option Value} {x : Str} {C : Addr} (U : ExcH K mg x C) : PySem.W.exmOne K (.ref C) (.ref C) = some true := PySem.W.exm_ref U.u.bC U.dict U.u.tC U.self
end G
namespace G
open PySem PySem.Spec PyProof.Rows L2 Evl
/-! ## methods of built-in types within a suite: the written part by its letter -/
theorem kBm {X : Cx} {K : PySem.W.Frag} {T name id : String} {r : V → List V → Hp → VK → Prop} {o e : Expr} {es : List Expr} {to_ : TE} {t : TA} {apos cpos : Pos} (h : X.K = K) (p1 : PlainAttrs T) (p2 : Slot T name id) (p3 : typeOf (.builtin id) = pure (.type "method_descriptor")) (p4 : MtR X id r) (p5 : PE X o to_) (p6 : PA X (e :: es) t)
    (p7 : attributeBase o name X.env (eval o X.env) = eval o X.env := by rfl) (p8 : ((backTo cpos (starEach (e :: es) X.env)).all (fun x => !x.1) && (backToKw cpos (keywordEach [] X.env)).all (fun x => x.1.isSome) && decide ((e :: es).length + ([] : List Keyword).length + (if ([] : List Keyword).isEmpty then 0 else 1) < 30)) = true := by rfl)
    (p9 : (apos.endLine == cpos.line) = true := by rfl) (p10 : starEach (e :: es) X.env = (false, eval e X.env) :: starEach es X.env := by rfl) (p11 : (backTo cpos (starEach es X.env)).any (·.1) = false := by rfl) : PE X (.Call (.Attribute o name apos) (e :: es) [] cpos) (tBM K T r to_ t) := by
  subst h
  exact pe_bm p1 p2 p3 p4 p5 p6 p7 p8 p9 p10 p11
theorem kMtIndex {X : Cx} {K : PySem.W.Frag} (h : X.K = K) : MtR X "list.index" (rIndex K) := by subst h; exact mt_index
end G
namespace G
open PySem PySem.Spec PyProof.Rows L2 Evl
/-! ## own errors: caught by name or by a class above, asked for their class -/
structure ExcI (K : PySem.W.Frag) (mg : Str → Option Value) (x : Str) (C : Addr) : Prop where
  u : ExcT K mg x C
  dict : PySem.W.hasDictIn K C = true
  self : PySem.W.subIn K (.ref C) (.ref C) = some true
  isc : ExcC K C
def IsK (K : PySem.W.Frag) (mg : Str → Option Value) (C : Addr) (d : Str) (b : Bool) : Prop := ∃ D : Addr, mg d = some (.ref D) ∧ PySem.W.kitOne K (.ref C) (.ref D) = some b
def CatchK (K : PySem.W.Frag) (mg : Str → Option Value) (C : Addr) (s : Str) : Prop := ∃ D : Addr, mg s = some (.ref D) ∧ PySem.W.exmOne K (.ref C) (.ref D) = some true
theorem ExcI.hit {K : PySem.W.Frag} {mg : Str → Option Value} {x : Str} {C : Addr} (U : ExcI K mg x C) : PySem.W.exmOne K (.ref C) (.ref C) = some true := PySem.W.exm_ref U.u.bC U.dict U.u.tC U.self
theorem IsK.at_ {K : PySem.W.Frag} {mg : Str → Option Value} {C D : Addr} {d : Str} {b : Bool} (h : IsK K mg C d b) (g : mg d = some (.ref D)) : PySem.W.kitOne K (.ref C) (.ref D) = some b := by
  obtain ⟨D', g', k⟩ := h
  rw [g] at g'
  cases g'; exact k
theorem CatchK.at_ {K : PySem.W.Frag} {mg : Str → Option Value} {C D : Addr} {s : Str} (h : CatchK K mg C s) (g : mg s = some (.ref D)) : PySem.W.exmOne K (.ref C) (.ref D) = some true := by
  obtain ⟨D', g', k⟩ := h
  rw [g] at g'
  cases g'; exact k
theorem pe_ex {X : Cx} {e : Expr} {α : Type} {p : α → Prop} {t : α → TE} (h : ∀ x, p x → PE X e (t x)) : PE X e (fun σ H Q => ∃ x, p x ∧ t x σ H Q) := by
  refine ⟨fun ps s σ H Q I z => ?_⟩
  obtain ⟨x, px, hx⟩ := z
  exact (h x px).run ps s σ H Q I hx
/-- isinstance of the error that the suite holds: whichever own error it is -/
theorem pe_isE {X : Cx} {a : Addr} {oe : Obj} {pn : List (Addr × Obj)} {cls : Value} {dd : Option Addr} {e : Expr} {t : Addr → TE} (hz : Zc cls dd oe) (hf : ∃ vs, oe.data = .fields vs)
    (h : ∀ D : Addr, Zc (.ref D) none oe → ExcC X.K D → PE (X.suite a ((a, oe) :: pn)) e (t D)) : PE (X.suite a ((a, oe) :: pn)) e (fun σ H Q => ∃ D : Addr, (cls = .ref D ∧ dd = none ∧ ExcC X.K D) ∧ t D σ H Q) :=
  pe_ex (p := fun D => cls = .ref D ∧ dd = none ∧ ExcC X.K D) fun D z => by
    obtain ⟨rfl, rfl, ic⟩ := z
    exact h D hz ic
/-! ## methods and classes called where what is raised is taken at the slots -/
section
variable {X : Cx} {CX : CXT} {k : Nat} {f C : Addr} {fd : FuncData} {ps : List Str} {sp : Sp} {dvs : List V} {ds : List Value} {E : L2.St → XK} {x m : Str} {p pos apos : Pos} {e o : Expr} {es : List Expr} {to_ : TE} {t : TA}
def tMethX (C : Addr) (m : Str) (sp : Sp) (dvs : List V) (E : L2.St → XK) (to_ : TE) (t : TA) : TE := fun σ H Q => to_ σ H fun x H1 => ∃ a dx fs, x = .ref a ∧ H1 a = some (.ins C dx fs) ∧ fs.lookup m = none ∧ t σ H1 fun vs H2 => sp (x :: (vs ++ dvs)) H2 Q (E σ)
def tMakeX (C : Addr) (sp : Sp) (dvs : List V) (E : L2.St → XK) (t : TA) : TE := fun σ H Q => t σ H fun vs H1 => ∀ x dx, H1 x = none → H1 dx = none → dx ≠ x → sp (.ref x :: (vs ++ dvs)) (upd (upd H1 dx (.own x)) x (.ins C dx [])) (fun v H2 => v = .non ∧ Q (.ref x) H2) (E σ)
theorem pe_methX {pl : Sem Bool} (ho : PE X o to_) (cc : Cls X.K C) (mm : Meth X.K C m f) (Fk : FnOk X.prog X.w X.K X.mg X.base CX k f fd ps sp) (rm : Room k X.A) (bd : Binds X.K fd ps ds) (dv : Vals dvs ds)
    (px : ∀ σ, PassesAt CX X σ (E σ)) (pa : PA X (e :: es) t) (s1 : starEach (e :: es) X.env = (false, eval e X.env) :: starEach es X.env := by rfl) (s2 : (backTo pos (starEach es X.env)).any (·.1) = false := by rfl)
    (s3 : eval (.Call (.Attribute o m apos) (e :: es) [] pos) X.env = (do let ov ← eval o X.env; standAt apos.atName; let (f, first) ← holding [ov] (getMethod ov m pl); callWith pos f first (backTo pos (starEach (e :: es) X.env)) (backToKw pos (keywordEach [] X.env))) := by rfl) :
    PE X (.Call (.Attribute o m apos) (e :: es) [] pos) (tMethX C m sp dvs E to_ t) := by
  refine ⟨fun pins st σ H Q I z => PySem.W.methodCall_KW (pl := pl) (thn (ho.run pins st σ H _ I z) fun q0 st1 ⟨y, H1, I1, ry, b, dx, fl, ey, eb, lk, z1⟩ => ?_) s3⟩
  subst ey
  cases (show q0 = Value.ref b from ry)
  exact getmeth_ok I1 eb cc mm lk (PySem.W.callWith_K (first := [.ref b]) (h₀ := X.base) I.ok.mod.kin mm.kp (thn (pa.run pos pins st1 σ H1 _ I1 z1) fun ws st2 ⟨vs, H2, I2, rs, z2⟩ => ⟨I2.kIn, run_fnSD (us := .ref b :: ws) (vs := .ref b :: vs) Fk rm bd dv (px σ) I2 (.cons rfl rs) z2⟩) s1 s2)
theorem run_makeX {pins : List (Addr × Obj)} {σ : L2.St} {H : Hp} {st : Shared} {Q : VK} {us : List Value} {vs : List V} (M : Mk X.K C f) (Fk : FnOk X.prog X.w X.K X.mg X.base CX k f fd ps sp) (rm : Room (k + 1) X.A) (bd : Binds X.K fd ps ds) (dv : Vals dvs ds)
    (px : PassesAt CX X σ (E σ)) (I : Inv X pins σ H st) (rs : Vals vs us)
    (z : ∀ x dx, H x = none → H dx = none → dx ≠ x → sp (.ref x :: (vs ++ dvs)) (upd (upd H dx (.own x)) x (.ins C dx [])) (fun v H2 => v = .non ∧ Q (.ref x) H2) (E σ)) :
    wpAny (model X.prog X.w) X.A (call (.ref C) us) (EP X pins σ Q) X.xe st := by
  have z1 := z (st.heap.objs.size + 1) st.heap.objs.size (I.hok.fresh (Nat.le_succ _)) (I.hok.fresh (Nat.le_refl _)) (Nat.ne_of_lt (Nat.lt_succ_self _))
  have J := Inv.made (C := C) I
  have rr : Vals (V.ref (st.heap.objs.size + 1) :: (vs ++ dvs)) (Value.ref (st.heap.objs.size + 1) :: (us ++ ds)) := .cons rfl (rs.append dv)
  have len : (Value.ref (st.heap.objs.size + 1) :: us ++ ds).length = ps.length := (rr.length.symm.trans (Fk.len _ _ _ _ z1))
  refine wpAny_call (make_map (f := f) I.kIn M.makes M.init (beq_iff_eq.mp M.fn) (codeAny_mono (Fk.run _ X.stack _ _ ⟨Value.ref (st.heap.objs.size + 1) :: us, []⟩ (Value.ref (st.heap.objs.size + 1) :: (us ++ ds)) _ _ (E σ) (rm.make C us []) (J.env0.make C us []) (bd _ (Value.ref (st.heap.objs.size + 1) :: us) J.kIn len) rr z1) fun r st' h => ?_))
  match r, h with
  | .error er, h => exact px pins _ _ er st' J h
  | .ok (.ret u), h =>
    obtain ⟨v, H', I3, rv, ev, q3⟩ := J.after h
    subst ev
    exact ⟨rv, ⟨V.ref (st.heap.objs.size + 1), H', I3, rfl, q3⟩⟩
  | .ok .next, h => exact h.elim
  | .ok .brk, h => exact h.elim
  | .ok .cont, h => exact h.elim
theorem pe_makeX (M : Mk X.K C f) (Fk : FnOk X.prog X.w X.K X.mg X.base CX k f fd ps sp) (rm : Room (k + 1) X.A) (gl : Gl X x) (gm : X.mg x = some (.ref C)) (bd : Binds X.K fd ps ds) (dv : Vals dvs ds) (px : ∀ σ, PassesAt CX X σ (E σ)) (pa : PA X (e :: es) t)
    (s0 : (x == ("__debug__" : Str)) = false := by decide) (s1 : starEach (e :: es) X.env = (false, eval e X.env) :: starEach es X.env := by rfl) (s2 : (backTo pos (starEach es X.env)).any (·.1) = false := by rfl) : PE X (.Call (.Name x p) (e :: es) [] pos) (tMakeX C sp dvs E t) :=
  ⟨fun pins st σ H Q I z => wpAny_Call_Name_kw (ld_glob I gl gm (PySem.W.callWith_K (h₀ := X.base) I.ok.mod.kin M.kp (thn (pa.run pos pins st σ H _ I z) fun us st1 ⟨vs, H1, I1, r, q⟩ => ⟨I1.kIn, run_makeX M Fk rm bd dv (px σ) I1 r q⟩) s1 s2) s0)⟩
end
end G
namespace G
open PySem PySem.Spec PyProof.Rows L2 Evl TL
theorem kFld {X : Cx} {K : PySem.W.Frag} {e : Expr} {f : Str} {pos : Pos} {ta : TE} (h : X.K = K) (he : PE X e ta) (hb : attributeBase e f X.env (eval e X.env) = eval e X.env) : PE X (.Attribute e f pos) (tFld K ta f) := by subst h; exact pe_fld he hb
end G
namespace G
open PySem PySem.Spec PyProof.Rows L2
structure Cl_Diagrams (K : PySem.W.Frag) (mg : Str → Option Value) (C : Addr) : Prop where
  gC : mg "Diagrams" = some (.ref C)
  cl : Cls K C
  m_init : ∃ (f : Addr) (fd : FuncData), Mk K C f ∧ Fun K "__init__" "Diagrams.__init__" s_Diagrams_init f fd ∧ Binds K fd ["self"] []
  m_variable : ∃ (f : Addr) (fd : FuncData), Meth K C "variable" f ∧ Fun K "variable" "Diagrams.variable" s_Diagrams_variable f fd ∧ Binds K fd ["self", "k"] []
  m_negate : ∃ (f : Addr) (fd : FuncData), Meth K C "negate" f ∧ Fun K "negate" "Diagrams.negate" s_Diagrams_negate f fd ∧ Binds K fd ["self", "a"] []
  m_both : ∃ (f : Addr) (fd : FuncData), Meth K C "both" f ∧ Fun K "both" "Diagrams.both" s_Diagrams_both f fd ∧ Binds K fd ["self", "a", "b"] []
  m_either : ∃ (f : Addr) (fd : FuncData), Meth K C "either" f ∧ Fun K "either" "Diagrams.either" s_Diagrams_either f fd ∧ Binds K fd ["self", "a", "b"] []
  m_choose : ∃ (f : Addr) (fd : FuncData), Meth K C "choose" f ∧ Fun K "choose" "Diagrams.choose" s_Diagrams_choose f fd ∧ Binds K fd ["self", "c", "a", "b"] []
  m_all_of : ∃ (f : Addr) (fd : FuncData), Meth K C "all_of" f ∧ Fun K "all_of" "Diagrams.all_of" s_Diagrams_all_of f fd ∧ Binds K fd ["self", "references"] []
  m_any_of : ∃ (f : Addr) (fd : FuncData), Meth K C "any_of" f ∧ Fun K "any_of" "Diagrams.any_of" s_Diagrams_any_of f fd ∧ Binds K fd ["self", "references"] []
  m_applied : ∃ (f : Addr) (fd : FuncData), Meth K C "applied" f ∧ Fun K "applied" "Diagrams.applied" s_Diagrams_applied f fd ∧ Binds K fd ["self", "table", "references"] []
  m_fix : ∃ (f : Addr) (fd : FuncData), Meth K C "fix" f ∧ Fun K "fix" "Diagrams.fix" s_Diagrams_fix f fd ∧ Binds K fd ["self", "a", "k", "value"] []
  m_value : ∃ (f : Addr) (fd : FuncData), Meth K C "value" f ∧ Fun K "value" "Diagrams.value" s_Diagrams_value f fd ∧ Binds K fd ["self", "a", "bits"] []
  m_support : ∃ (f : Addr) (fd : FuncData), Meth K C "support" f ∧ Fun K "support" "Diagrams.support" s_Diagrams_support f fd ∧ Binds K fd ["self", "a"] []
  m_count : ∃ (f : Addr) (fd : FuncData), Meth K C "count" f ∧ Fun K "count" "Diagrams.count" s_Diagrams_count f fd ∧ Binds K fd ["self", "a", "many"] []
  m_least : ∃ (f : Addr) (fd : FuncData), Meth K C "least" f ∧ Fun K "least" "Diagrams.least" s_Diagrams_least f fd ∧ Binds K fd ["self", "a", "many"] []
  m_node : ∃ (f : Addr) (fd : FuncData), Meth K C "_node" f ∧ Fun K "_node" "Diagrams._node" s_Diagrams_node f fd ∧ Binds K fd ["self", "k", "low", "high"] []
  m_half : ∃ (f : Addr) (fd : FuncData), Meth K C "_half" f ∧ Fun K "_half" "Diagrams._half" s_Diagrams_half f fd ∧ Binds K fd ["self", "a", "k", "value"] []
  m_known_choice : ∃ (f : Addr) (fd : FuncData), Meth K C "_known_choice" f ∧ Fun K "_known_choice" "Diagrams._known_choice" s_Diagrams_known_choice f fd ∧ Binds K fd ["self", "task"] []
  m_level : ∃ (f : Addr) (fd : FuncData), Meth K C "_level" f ∧ Fun K "_level" "Diagrams._level" s_Diagrams_level f fd ∧ Binds K fd ["self", "a", "many"] []
  m_below : ∃ (f : Addr) (fd : FuncData), Meth K C "_below" f ∧ Fun K "_below" "Diagrams._below" s_Diagrams_below f fd ∧ Binds K fd ["self", "a"] []
  n_nodes : NoAttr K C "_nodes"
  n_places : NoAttr K C "_places"
  n_chosen : NoAttr K C "_chosen"
end G
namespace G
open PySem PySem.Spec PyProof.Rows L2 Evl TL
/-! ## diagrams as objects -/
theorem szM {n : Nat} (h : n ≤ 9000000) : n < sizeLine := Nat.lt_of_le_of_lt h (by decide)
theorem szM' {n : Nat} (h : n ≤ 9000100) : n < sizeLine := Nat.lt_of_le_of_lt h (by decide)
theorem dne1 : ¬ (("_nodes" : Str) = "_chosen") := by decide +kernel
theorem dne2 : ¬ (("_nodes" : Str) = "_places") := by decide +kernel
theorem dne3 : ¬ (("_places" : Str) = "_chosen") := by decide +kernel
def dfl (nl pl ch : Addr) : List (Str × V) := putF "_chosen" (.ref ch) (putF "_places" (.ref pl) (putF "_nodes" (.ref nl) []))
theorem dfl_n (nl pl ch : Addr) : (dfl nl pl ch).lookup ("_nodes" : Str) = some (.ref nl) := by unfold dfl; rw [lookup_putF, if_neg dne1, lookup_putF, if_neg dne2, lookup_putF, if_pos rfl]
theorem dfl_p (nl pl ch : Addr) : (dfl nl pl ch).lookup ("_places" : Str) = some (.ref pl) := by unfold dfl; rw [lookup_putF, if_neg dne3, lookup_putF, if_pos rfl]
theorem dfl_c (nl pl ch : Addr) : (dfl nl pl ch).lookup ("_chosen" : Str) = some (.ref ch) := by unfold dfl; rw [lookup_putF, if_pos rfl]
theorem dfl_no (nl pl ch : Addr) {m : Str} (h1 : ¬ m = "_chosen") (h2 : ¬ m = "_places") (h3 : ¬ m = "_nodes") : (dfl nl pl ch).lookup m = none := by
  unfold dfl; rw [lookup_putF, if_neg h1, lookup_putF, if_neg h2, lookup_putF, if_neg h3]; rfl
def NdAt (H : Hp) (a : Addr) (n : Nd) : Prop := H a = some (.tup [.int (n.k : Nat), .int (n.lo : Nat), .int (n.hi : Nat)])
def TkAt (H : Hp) (a : Addr) (τ : Tsk) : Prop := H a = some (.tup [.int (τ.c : Nat), .int (τ.a : Nat), .int (τ.b : Nat)])
def keyN (n : Nd) : List Key := [.inl (n.k : Nat), .inl (n.lo : Nat), .inl (n.hi : Nat)]
def keyT (τ : Tsk) : List Key := [.inl (τ.c : Nat), .inl (τ.a : Nat), .inl (τ.b : Nat)]
theorem keyN_inj {n m : Nd} (h : keyN n = keyN m) : n = m := by
  obtain ⟨a, b, c⟩ := n
  obtain ⟨a', b', c'⟩ := m
  unfold keyN at h
  injection h with h1 h2
  injection h2 with h2 h3
  injection h3 with h3 _
  injection h1 with h1
  injection h2 with h2
  injection h3 with h3
  have h1 : (a : Int) = (a' : Int) := h1
  have h2 : (b : Int) = (b' : Int) := h2
  have h3 : (c : Int) = (c' : Int) := h3
  rw [show a = a' by omega, show b = b' by omega, show c = c' by omega]
theorem keyT_inj {n m : Tsk} (h : keyT n = keyT m) : n = m := by
  obtain ⟨a, b, c⟩ := n
  obtain ⟨a', b', c'⟩ := m
  unfold keyT at h
  injection h with h1 h2
  injection h2 with h2 h3
  injection h3 with h3 _
  injection h1 with h1
  injection h2 with h2
  injection h3 with h3
  have h1 : (a : Int) = (a' : Int) := h1
  have h2 : (b : Int) = (b' : Int) := h2
  have h3 : (c : Int) = (c' : Int) := h3
  rw [show a = a' by omega, show b = b' by omega, show c = c' by omega]
def PlOk (es : List (List Key × V)) (N : List Nd) : Prop := ∀ n : Nd, (∃ i : Nat, 2 ≤ i ∧ N[i]? = some n ∧ valV es (keyN n) = some (.int (i : Nat))) ∨ ((∀ i, 2 ≤ i → N[i]? ≠ some n) ∧ valV es (keyN n) = none)
def MemAt (cs : List (List Key × V)) (M : Tsk → Option Nat) : Prop := ∀ τ, valV cs (keyT τ) = (M τ).map fun r : Nat => V.int (r : Int)
def putM (M : Tsk → Option Nat) (τ : Tsk) (r : Nat) : Tsk → Option Nat := fun σ => if σ = τ then some r else M σ
theorem MemAt.put {cs : List (List Key × V)} {M : Tsk → Option Nat} (h : MemAt cs M) (τ : Tsk) (r : Nat) : MemAt (putK cs (keyT τ) (.int (r : Nat))) (putM M τ r) := fun σ => by
  rw [valV_put]
  unfold putM
  by_cases e : σ = τ
  · rw [if_pos e, if_pos (by rw [e])]; rfl
  · rw [if_neg e, if_neg fun z => e (keyT_inj z)]; exact h σ
structure Dg (C : Addr) (vs : List Nat) (cl : Nat) (H : Hp) (x nl pl ch : Addr) (N : List Nd) (M : Tsk → Option Nat) : Prop where
  ob : ∃ dx, H x = some (.ins C dx (dfl nl pl ch))
  nodes : ∃ na : List Addr, H nl = some (.lst (na.map V.ref)) ∧ All2 (NdAt H) na N
  fpl : ∃ es, H pl = some (.dT es) ∧ PlOk es N ∧ es.length ≤ N.length
  fch : ∃ cs, H ch = some (.dT cs) ∧ MemAt cs M ∧ cs.length ≤ cl
  good : GoodN N
  mem : MemOk N M
  vars : VarsIn vs N
  ne : pl ≠ ch
def TupEx (H H' : Hp) : Prop := ∀ (b : Addr) (xs : List V), H b = some (.tup xs) → H' b = some (.tup xs)
theorem TupEx.of {H H' : Hp} (e : Ex H H') : TupEx H H' := fun b xs h => e b _ h
theorem TupEx.trans {H H1 H2 : Hp} (a : TupEx H H1) (b : TupEx H1 H2) : TupEx H H2 := fun c xs h => b c xs (a c xs h)
theorem TupEx.put {H : Hp} {b : Addr} {o o' : HO} (h : H b = some o) (hn : ∀ xs, o ≠ .tup xs) : TupEx H (upd H b o') := fun c xs hc => by
  rw [upd_ne fun z => by subst z; rw [h] at hc; cases hc; exact hn xs rfl]; exact hc
theorem Dg.keep {C : Addr} {vs : List Nat} {cl : Nat} {H H' : Hp} {x nl pl ch : Addr} {N : List Nd} {M : Tsk → Option Nat} (h : Dg C vs cl H x nl pl ch N M) (k : ∀ b o, (b = x ∨ b = nl ∨ b = pl ∨ b = ch) → H b = some o → H' b = some o) (t : TupEx H H') : Dg C vs cl H' x nl pl ch N M := by
  obtain ⟨⟨dx, h1⟩, ⟨na, h2, h3⟩, ⟨es, h4, h5, h6⟩, ⟨cs, h7, h8, h9⟩, g, m, v, ne⟩ := h
  exact ⟨⟨dx, k _ _ (.inl rfl) h1⟩, ⟨na, k _ _ (.inr (.inl rfl)) h2, h3.imp fun _ _ z => t _ _ z⟩, ⟨es, k _ _ (.inr (.inr (.inl rfl))) h4, h5, h6⟩, ⟨cs, k _ _ (.inr (.inr (.inr rfl))) h7, h8, h9⟩, g, m, v, ne⟩
theorem Dg.ex {C : Addr} {vs : List Nat} {cl : Nat} {H H' : Hp} {x nl pl ch : Addr} {N : List Nd} {M : Tsk → Option Nat} (h : Dg C vs cl H x nl pl ch N M) (e : Ex H H') : Dg C vs cl H' x nl pl ch N M := h.keep (fun b o _ z => e b o z) (.of e)
theorem Dg.cl_le {C : Addr} {vs : List Nat} {cl cl' : Nat} {H : Hp} {x nl pl ch : Addr} {N : List Nd} {M : Tsk → Option Nat} (h : Dg C vs cl H x nl pl ch N M) (l : cl ≤ cl') : Dg C vs cl' H x nl pl ch N M := by
  obtain ⟨h1, h2, h3, ⟨cs, h7, h8, h9⟩, g, m, v, ne⟩ := h
  exact ⟨h1, h2, h3, ⟨cs, h7, h8, Nat.le_trans h9 l⟩, g, m, v, ne⟩
/-- all but the three that a diagram's object changes is kept -/
def Kp (nl pl ch : Addr) (H H' : Hp) : Prop := ∀ b o, H b = some o → b ≠ nl → b ≠ pl → b ≠ ch → H' b = some o
section
variable {nl pl ch : Addr} {H H1 H2 H' : Hp}
theorem Kp.refl : Kp nl pl ch H H := fun _ _ h _ _ _ => h
theorem Kp.of (e : Ex H H') : Kp nl pl ch H H' := fun b o h _ _ _ => e b o h
theorem Kp.trans (a : Kp nl pl ch H H1) (b : Kp nl pl ch H1 H2) : Kp nl pl ch H H2 := fun c o h n1 n2 n3 => b c o (a c o h n1 n2 n3) n1 n2 n3
theorem Kp.more (a : Kp nl pl ch H H1) (e : Ex H1 H2) : Kp nl pl ch H H2 := a.trans (.of e)
theorem Kp.mut (a : Kp nl pl ch H H1) {l : Addr} {o : HO} (n : H l = none) : Kp nl pl ch H (upd H1 l o) := fun c q h n1 n2 n3 => by
  rw [upd_ne fun z => by rw [z, n] at h; cases h]; exact a c q h n1 n2 n3
theorem Kp.own {b : Addr} {o : HO} (h : b = nl ∨ b = pl ∨ b = ch) : Kp nl pl ch H (upd H b o) := fun c q hc n1 n2 n3 => by
  rw [upd_ne fun z => by subst z; rcases h with e | e | e <;> contradiction]; exact hc
theorem Kp.free (a : Kp nl pl ch H H1) (h1 : H nl ≠ none → H1 nl ≠ none) (h2 : H pl ≠ none → H1 pl ≠ none) (h3 : H ch ≠ none → H1 ch ≠ none) {b : Addr} (n : H1 b = none) : H b = none := by
  cases e : H b with
  | none => rfl
  | some o =>
    exfalso
    by_cases z1 : b = nl
    · subst z1; exact h1 (by rw [e]; exact fun z => nomatch z) n
    · by_cases z2 : b = pl
      · subst z2; exact h2 (by rw [e]; exact fun z => nomatch z) n
      · by_cases z3 : b = ch
        · subst z3; exact h3 (by rw [e]; exact fun z => nomatch z) n
        · rw [a b o e z1 z2 z3] at n; cases n
end
theorem Dg.free {C : Addr} {vs : List Nat} {cl : Nat} {H H1 : Hp} {x nl pl ch : Addr} {N : List Nd} {M : Tsk → Option Nat} (d : Dg C vs cl H1 x nl pl ch N M) (k : Kp nl pl ch H H1) {b : Addr} (n : H1 b = none) : H b = none := by
  obtain ⟨na, h2, _⟩ := d.nodes
  obtain ⟨es, h4, _⟩ := d.fpl
  obtain ⟨cs, h7, _⟩ := d.fch
  exact k.free (fun _ => by rw [h2]; exact fun z => nomatch z) (fun _ => by rw [h4]; exact fun z => nomatch z) (fun _ => by rw [h7]; exact fun z => nomatch z) n
theorem Dg.tup {C : Addr} {vs : List Nat} {cl : Nat} {H H1 : Hp} {x nl pl ch : Addr} {N : List Nd} {M : Tsk → Option Nat} (d : Dg C vs cl H x nl pl ch N M) (k : Kp nl pl ch H H1) : TupEx H H1 := fun b xs h => by
  obtain ⟨na, h2, _⟩ := d.nodes
  obtain ⟨es, h4, _⟩ := d.fpl
  obtain ⟨cs, h7, _⟩ := d.fch
  exact k b _ h (fun z => by rw [z, h2] at h; cases h) (fun z => by rw [z, h4] at h; cases h) (fun z => by rw [z, h7] at h; cases h)
theorem Dg.nd {C : Addr} {vs : List Nat} {cl : Nat} {H : Hp} {x nl pl ch : Addr} {N : List Nd} {M : Tsk → Option Nat} (d : Dg C vs cl H x nl pl ch N M) {a : Nat} (ha : a < N.length) : ∃ (na : List Addr) (b : Addr), H nl = some (.lst (na.map V.ref)) ∧ (na.map V.ref)[a]? = some (.ref b) ∧ NdAt H b (ndA N a) := by
  obtain ⟨na, h2, h3⟩ := d.nodes
  obtain ⟨b, hb, h⟩ := h3.of (nd_at ha)
  exact ⟨na, b, h2, by rw [List.getElem?_map, hb]; rfl, h⟩
def optV : Option Nat → V
  | none => .non
  | some r => .int (r : Nat)
structure TxtG (mg : Str → Option Value) : Prop where
  fF : ∃ t, mg "FALSE" = some (.int 0 t)
  tT : ∃ t, mg "TRUE" = some (.int 1 t)
  min : mg "min" = none
  tuple : mg "tuple" = none
  len : mg "len" = none
section
variable {P : Program} {w : World} {K : PySem.W.Frag} {mg : Str → Option Value} {base : Heap} {C : Addr}
def spHalf (C : Addr) : Sp := fun vs H Q _ => ∃ (x nl pl ch : Addr) (N : List Nd) (M : Tsk → Option Nat) (us : List Nat) (cl a k : Nat) (v : Bool), vs = [.ref x, .int (a : Nat), .int (k : Nat), .bl v] ∧ Dg C us cl H x nl pl ch N M ∧ a < N.length ∧ Q (.int (halfA N a k v : Nat)) H
theorem sc_Diagrams_half : FnScope ["self", "a", "k", "value", "top", "low", "high"] ["self", "a", "k", "value"] (defScope s_Diagrams_half) := ⟨rfl, rfl, rfl, by decide +kernel, rfl, by decide +kernel, by decide +kernel⟩
theorem ok_Diagrams_half {f : Addr} {fd : FuncData} (F : Fun K "_half" "Diagrams._half" s_Diagrams_half f fd) (W : Cl_Diagrams K mg C) (T : TxtG mg) : FnOk P w K mg base CX0 1 f fd ["self", "a", "k", "value"] (spHalf C) := by
  obtain ⟨tT, g_TRUE⟩ := T.tT
  refine F.ok sc_Diagrams_half (fun vs H Q E h => ?_) (fun cdv A outer s H vs Q E hr h => ?_)
  · obtain ⟨x, nl, pl, ch, N, M, us, cl, a, k, v, rfl, _⟩ := h
    rfl
  · obtain ⟨x, nl, pl, ch, N, M, us, cl, a, k, v, rfl, D, ha, q⟩ := h
    refine ⟨_, (pss_cons (ps_asg (pe_ix ix_list (pe_fld (pv 0) rfl) (pv 1) (fun _ _ => rfl)) (pg_tup rfl (pgs_cons (pg_name (i := 4) sc_Diagrams_half.nd rfl (.inl rfl)) (pgs_cons (pg_name (i := 5) sc_Diagrams_half.nd rfl (.inl rfl)) (pgs_cons (pg_name (i := 6) sc_Diagrams_half.nd rfl (.inl rfl)) pgs_nil)))))
    (pss_cut (ps_if (PW.pt (pw_or (pt_cmpR op_le (pv 1) (gInt rfl g_TRUE) (nomark _)) (pw_or1 (pt_cmpR op_ne (pv 4) (pv 2) (nomark _)))))
      (pss_one (ps_ret (pv 1)))
      pss_nil)
    (pss_one (ps_ret (pe_ifExp (pt_val (pv 3)) (pv 6) (pv 5)))))), ?_⟩
    obtain ⟨dx, h1⟩ := D.ob
    obtain ⟨na, b, h2, hb, hn⟩ := D.nd ha
    refine ⟨_, rfl, x, C, dx, _, _, rfl, h1, W.cl, W.n_nodes, dfl_n _ _ _, _, rfl, _, _, _, _, rfl, rfl, SqL.of h2, at_of (j := a) rfl hb, b, _, rfl, SqT.of hn, rfl, _, _, rfl, _, _, rfl, _, _, rfl, rfl, ?_⟩
    refine ⟨fun σ H' => H' = H ∧ ¬ (a < 2 ∨ (ndA N a).k ≠ k) ∧ σ = [some (.ref x), some (.int (a : Nat)), some (.int (k : Nat)), some (.bl v), some (.int ((ndA N a).k : Nat)), some (.int ((ndA N a).lo : Nat)), some (.int ((ndA N a).hi : Nat))], ?_, ?_⟩
    · have yes : (a < 2 ∨ (ndA N a).k ≠ k) → Q (.int (a : Nat)) H := fun z => by
        unfold halfA at q; rw [if_pos z] at q; exact q
      refine ⟨_, rfl, _, _, rfl, rfl, _, rfl, ite2 (fun c1 => ?_) (fun c1 => ⟨_, rfl, _, rfl, rfl, _, rfl, ite2 (fun c2 => ?_) (fun c2 => ?_)⟩)⟩
      · exact iteT ⟨_, rfl, yes (.inl (by have := of_decide_eq_true c1; omega))⟩
      · exact ⟨_, rfl, yes (.inr fun z => by rw [z] at c2; simp at c2)⟩
      · refine ⟨rfl, fun z => ?_, rfl⟩
        rcases z with z | z
        · exact c1 (decide_eq_true (by omega))
        · refine c2 ?_
          have : ¬ (V.int ((ndA N a).k : Nat) = V.int (k : Nat)) := fun y => z (by injection y; omega)
          rw [decide_eq_false this]; rfl
    · rintro σ H' ⟨rfl, hno, rfl⟩
      unfold halfA at q
      rw [if_neg hno] at q
      refine ⟨_, rfl, _, rfl, ite2 (fun c1 => ?_) (fun c1 => ?_)⟩
      · exact ⟨_, rfl, by rw [if_pos c1] at q; exact q⟩
      · exact ⟨_, rfl, by rw [if_neg c1] at q; exact q⟩
def spKnown (C : Addr) : Sp := fun vs H Q _ => ∃ (x nl pl ch : Addr) (N : List Nd) (M : Tsk → Option Nat) (us : List Nat) (cl : Nat) (ta : Addr) (τ : Tsk), vs = [.ref x, .ref ta] ∧ Dg C us cl H x nl pl ch N M ∧ TkAt H ta τ ∧ Q (optV (knB τ (M τ))) H
theorem sc_Diagrams_known_choice : FnScope ["self", "task", "c", "a", "b"] ["self", "task"] (defScope s_Diagrams_known_choice) := ⟨rfl, rfl, rfl, by decide +kernel, rfl, by decide +kernel, by decide +kernel⟩
theorem ok_Diagrams_known_choice {f : Addr} {fd : FuncData} (F : Fun K "_known_choice" "Diagrams._known_choice" s_Diagrams_known_choice f fd) (W : Cl_Diagrams K mg C) (T : TxtG mg) : FnOk P w K mg base CX0 1 f fd ["self", "task"] (spKnown C) := by
  obtain ⟨tT, g_TRUE⟩ := T.tT
  obtain ⟨tF, g_FALSE⟩ := T.fF
  refine F.ok sc_Diagrams_known_choice (fun vs H Q E h => ?_) (fun cdv A outer s H vs Q E hr h => ?_)
  · obtain ⟨x, nl, pl, ch, N, M, us, cl, ta, τ, rfl, _⟩ := h
    rfl
  · obtain ⟨x, nl, pl, ch, N, M, us, cl, ta, τ, rfl, D, ht, q⟩ := h
    refine ⟨_, (pss_cons (ps_asg (pv 1) (pg_tup rfl (pgs_cons (pg_name (i := 2) sc_Diagrams_known_choice.nd rfl (.inl rfl)) (pgs_cons (pg_name (i := 3) sc_Diagrams_known_choice.nd rfl (.inl rfl)) (pgs_cons (pg_name (i := 4) sc_Diagrams_known_choice.nd rfl (.inl rfl)) pgs_nil)))))
    (pss_cut (ps_if (PW.pt (pw_or (pt_cmpR op_eq (pv 2) (gInt rfl g_TRUE) (nomark _)) (pw_or1 (pt_cmpR op_eq (pv 3) (pv 4) (nomark _)))))
      (pss_one (ps_ret (pv 3)))
      pss_nil)
    (pss_cons (ps_if (pt_cmpR op_eq (pv 2) (gInt rfl g_FALSE) (nomark _))
      (pss_one (ps_ret (pv 4)))
      pss_nil)
    (pss_cut (ps_if (PW.pt (pw_and (PW.pt (pw_or (pt_cmpR op_eq (pv 3) (gInt rfl g_TRUE) (nomark _)) (pw_or1 (pt_cmpR op_eq (pv 3) (pv 2) (nomark _))))) (pw_and1 (PW.pt (pw_or (pt_cmpR op_eq (pv 4) (gInt rfl g_FALSE) (nomark _)) (pw_or1 (pt_cmpR op_eq (pv 4) (pv 2) (nomark _))))))))
      (pss_one (ps_ret (pv 2)))
      pss_nil)
    (pss_one (ps_ret (pe_dget1 (hu_of hr) (pe_fld (pv 0) rfl) (pv 1) ⟨rfl, rfl, rfl, rfl⟩))))))), ?_⟩
    obtain ⟨dx, h1⟩ := D.ob
    obtain ⟨cs, h7, h8, h9⟩ := D.fch
    have eqI : ∀ {i j : Nat}, decide (V.int (i : Nat) = V.int (j : Nat)) = decide (i = j) := fun {i j} => by
      rw [Bool.eq_iff_iff, decide_eq_true_iff, decide_eq_true_iff]
      exact ⟨fun z => by injection z; omega, fun z => by rw [z]⟩
    have eq1 : ∀ {i : Nat}, decide (V.int (i : Nat) = V.int 1) = decide (i = 1) := fun {i} => eqI (i := i) (j := 1)
    have eq0 : ∀ {i : Nat}, decide (V.int (i : Nat) = V.int 0) = decide (i = 0) := fun {i} => eqI (i := i) (j := 0)
    unfold knB at q
    refine ⟨_, rfl, ta, _, rfl, SqT.of ht, rfl, _, _, rfl, _, _, rfl, _, _, rfl, rfl, ?_⟩
    refine ⟨fun σ H' => H' = H ∧ ¬ (τ.c = 1 ∨ τ.a = τ.b) ∧ σ = [some (.ref x), some (.ref ta), some (.int (τ.c : Nat)), some (.int (τ.a : Nat)), some (.int (τ.b : Nat))], ?_, ?_⟩
    · have yes : (τ.c = 1 ∨ τ.a = τ.b) → Q (.int (τ.a : Nat)) H := fun z => by rw [if_pos z] at q; exact q
      refine ⟨_, rfl, rfl, _, rfl, ite2 (fun c1 => ?_) (fun c1 => ⟨_, rfl, _, rfl, rfl, _, rfl, ite2 (fun c2 => ?_) (fun c2 => ?_)⟩)⟩
      · rw [eq1] at c1
        exact iteT ⟨_, rfl, yes (.inl (of_decide_eq_true c1))⟩
      · rw [eqI] at c2
        exact ⟨_, rfl, yes (.inr (of_decide_eq_true c2))⟩
      · rw [eq1] at c1
        rw [eqI] at c2
        exact ⟨rfl, fun z => z.elim (fun y => c1 (decide_eq_true y)) fun y => c2 (decide_eq_true y), rfl⟩
    rintro σ H' ⟨rfl, hno, rfl⟩
    rw [if_neg hno] at q
    refine ⟨_, rfl, rfl, _, rfl, ite2 (fun c1 => ?_) (fun c1 => ?_)⟩
    · rw [eq0] at c1
      rw [if_pos (of_decide_eq_true c1)] at q
      exact ⟨_, rfl, q⟩
    · rw [eq0] at c1
      rw [if_neg fun z => c1 (decide_eq_true z)] at q
      refine ⟨fun σ H2 => H2 = H' ∧ ¬ ((τ.a = 1 ∨ τ.a = τ.c) ∧ (τ.b = 0 ∨ τ.b = τ.c)) ∧ σ = [some (.ref x), some (.ref ta), some (.int (τ.c : Nat)), some (.int (τ.a : Nat)), some (.int (τ.b : Nat))], ?_, ?_⟩
      · have yes : ((τ.a = 1 ∨ τ.a = τ.c) ∧ (τ.b = 0 ∨ τ.b = τ.c)) → Q (.int (τ.c : Nat)) H' := fun z => by rw [if_pos z] at q; exact q
        refine ⟨_, rfl, rfl, _, rfl, ite2 (fun c2 => ?_) (fun c2 => ⟨_, rfl, _, rfl, rfl, _, rfl, ite2 (fun c3 => ?_) (fun c3 => ?_)⟩)⟩
        · rw [eq1] at c2
          refine iteT ⟨_, rfl, rfl, _, rfl, ite2 (fun d1 => ?_) (fun d1 => ⟨_, rfl, _, rfl, rfl, _, rfl, ite2 (fun d2 => ?_) (fun d2 => ?_)⟩)⟩
          · rw [eq0] at d1
            exact iteT ⟨_, rfl, yes ⟨.inl (of_decide_eq_true c2), .inl (of_decide_eq_true d1)⟩⟩
          · rw [eqI] at d2
            exact ⟨_, rfl, yes ⟨.inl (of_decide_eq_true c2), .inr (of_decide_eq_true d2)⟩⟩
          · rw [eq0] at d1
            rw [eqI] at d2
            exact ⟨rfl, fun z => z.2.elim (fun y => d1 (decide_eq_true y)) fun y => d2 (decide_eq_true y), rfl⟩
        · rw [eqI] at c3
          refine ⟨_, rfl, rfl, _, rfl, ite2 (fun d1 => ?_) (fun d1 => ⟨_, rfl, _, rfl, rfl, _, rfl, ite2 (fun d2 => ?_) (fun d2 => ?_)⟩)⟩
          · rw [eq0] at d1
            exact iteT ⟨_, rfl, yes ⟨.inr (of_decide_eq_true c3), .inl (of_decide_eq_true d1)⟩⟩
          · rw [eqI] at d2
            exact ⟨_, rfl, yes ⟨.inr (of_decide_eq_true c3), .inr (of_decide_eq_true d2)⟩⟩
          · rw [eq0] at d1
            rw [eqI] at d2
            exact ⟨rfl, fun z => z.2.elim (fun y => d1 (decide_eq_true y)) fun y => d2 (decide_eq_true y), rfl⟩
        · rw [eq1] at c2
          rw [eqI] at c3
          exact iteF ⟨rfl, fun z => z.1.elim (fun y => c2 (decide_eq_true y)) fun y => c3 (decide_eq_true y), rfl⟩
      · rintro σ H2 ⟨rfl, hno2, rfl⟩
        rw [if_neg hno2] at q
        have g := DGet.t (k := keyT τ) h7 ht
        have e : (valV cs (keyT τ)).getD .non = optV (M τ) := by rw [h8]; cases M τ <;> rfl
        refine ⟨_, rfl, x, C, dx, _, _, rfl, h1, W.cl, W.n_chosen, dfl_c _ _ _, ch, rfl, .inr ⟨_, .inl h7⟩, _, rfl, _, g, ?_⟩
        rw [e]
        exact q
/-! ### a node more -/
theorem valN_put {es : List (List Key × V)} {n m : Nd} {v : V} : valV (putK es (keyN n) v) (keyN m) = if m = n then some v else valV es (keyN m) := by
  rw [valV_put]
  by_cases e : m = n
  · rw [if_pos e, if_pos (by rw [e])]
  · rw [if_neg e, if_neg fun z => e (keyN_inj z)]
theorem PlOk.snoc {es : List (List Key × V)} {N : List Nd} {n : Nd} (h : PlOk es N) (two : 2 ≤ N.length) : PlOk (putK es (keyN n) (.int (N.length : Nat))) (N ++ [n]) := fun m => by
  rw [valN_put]
  by_cases e : m = n
  · subst e
    rw [if_pos rfl]
    exact .inl ⟨N.length, two, by rw [List.getElem?_append_right (Nat.le_refl _), Nat.sub_self]; rfl, rfl⟩
  · rw [if_neg e]
    rcases h m with ⟨i, h1, h2, h3⟩ | ⟨h1, h2⟩
    · exact .inl ⟨i, h1, by rw [List.getElem?_append_left (List.getElem?_eq_some_iff.mp h2).1]; exact h2, h3⟩
    · refine .inr ⟨fun i hi z => ?_, h2⟩
      by_cases hl : i < N.length
      · rw [List.getElem?_append_left hl] at z; exact h1 i hi z
      · have := (List.getElem?_eq_some_iff.mp z).1
        rw [List.length_append] at this
        have : i < N.length + 1 := this
        obtain rfl : i = N.length := by omega
        rw [List.getElem?_append_right (Nat.le_refl _), Nat.sub_self] at z
        cases z
        exact e rfl
def spNode (C : Addr) : Sp := fun vs H Q _ => ∃ (x nl pl ch : Addr) (N : List Nd) (M : Tsk → Option Nat) (us : List Nat) (cl k lo hi : Nat), vs = [.ref x, .int (k : Nat), .int (lo : Nat), .int (hi : Nat)] ∧ Dg C us cl H x nl pl ch N M ∧ k ∈ us ∧ lo < N.length ∧ hi < N.length ∧ lvGe N (k + 1) lo ∧ lvGe N (k + 1) hi ∧ N.length ≤ 9000000 ∧
  ∀ (r : Nat) (N' : List Nd) (H' : Hp), Kp nl pl ch H H' → Dg C us cl H' x nl pl ch N' M → N <+: N' → N'.length ≤ N.length + 1 → r < N'.length → (∀ f, ev N' r f = if f k = true then ev N hi f else ev N lo f) → Q (.int (r : Nat)) H'
theorem sc_Diagrams_node : FnScope ["self", "k", "low", "high", "key"] ["self", "k", "low", "high"] (defScope s_Diagrams_node) := ⟨rfl, rfl, rfl, by decide +kernel, rfl, by decide +kernel, by decide +kernel⟩
theorem ok_Diagrams_node {f : Addr} {fd : FuncData} (F : Fun K "_node" "Diagrams._node" s_Diagrams_node f fd) (W : Cl_Diagrams K mg C) (T : TxtG mg) : FnOk P w K mg base CX0 1 f fd ["self", "k", "low", "high"] (spNode C) := by
  refine F.ok sc_Diagrams_node (fun vs H Q E h => ?_) (fun cdv A outer s H vs Q E hr h => ?_)
  · obtain ⟨x, nl, pl, ch, N, M, us, cl, k, lo, hi, rfl, _⟩ := h
    rfl
  · obtain ⟨x, nl, pl, ch, N, M, us, cl, k, lo, hi, rfl, D, hk, hlo, hhi, v1, v2, hn, q⟩ := h
    refine ⟨_, (pss_cons (ps_if (pt_cmpR op_eq (pv 2) (pv 3) (nomark _))
      (pss_one (ps_ret (pv 2)))
      pss_nil)
    (pss_cons (ps_set (i := 4) sc_Diagrams_node.nd rfl (.inl rfl) (pe_tup (pa_cons (pv 1) (pa_cons (pv 2) (pa_cons (pv 3) pa_nil)))))
    (pss_cut (ps_if (pt_cmp (pc_dnotin (hu_of hr) (pv 4) (pe_fld (pv 0) rfl)))
      (pss_cons (ps_asg (pe_callB call_len_seq (by rfl) T.len (by decide +kernel) (pa_cons (pe_fld (pv 0) rfl) pa_nil)) (pg_sub (pe_fld (pv 0) rfl) (pv 4) (set_dict (hu_of hr))))
      (pss_one (ps_expr (pe_bm PySem.F.plainAttrs_list PySem.F.slot_list_append PySem.F.type_list_append mt_append (pe_fld (pv 0) rfl) (pa_cons (pv 4) pa_nil)))))
      pss_nil)
    (pss_one (ps_ret (pe_dget (hu_of hr) (pe_fld (pv 0) rfl) (pv 4) (fun _ _ => rfl))))))), ?_⟩
    have G0 := D.good
    have two := G0.two
    refine ⟨_, rfl, _, rfl, rfl, _, rfl, ite2 (fun c1 => ?_) (fun c1 => ?_)⟩
    · have e : lo = hi := by have := of_decide_eq_true c1; injection this; omega
      subst e
      exact ⟨_, rfl, q lo N H .refl D (List.prefix_refl _) (Nat.le_succ _) hlo fun f => by by_cases z : f k = true <;> simp [z]⟩
    · have hne : lo ≠ hi := fun z => c1 (by rw [z]; exact decide_eq_true rfl)
      refine ⟨_, rfl, _, rfl, _, rfl, (by show 3 ≤ sizeLine; decide), fun kt nkt => ?_⟩
      have E1 : Ex H (upd H kt (.tup [.int (k : Nat), .int (lo : Nat), .int (hi : Nat)])) := Ex.new nkt
      have hkt : NdAt (upd H kt (.tup [.int (k : Nat), .int (lo : Nat), .int (hi : Nat)])) kt ⟨k, lo, hi⟩ := upd_same
      have D1 := D.ex E1
      generalize upd H kt (.tup [.int (k : Nat), .int (lo : Nat), .int (hi : Nat)]) = H1 at *
      obtain ⟨dx, h1⟩ := D1.ob
      obtain ⟨na, h2, h3⟩ := D1.nodes
      obtain ⟨es, h4, h5, h6⟩ := D1.fpl
      obtain ⟨cs, h7, h8, h9⟩ := D1.fch
      have hN : (na.map V.ref).length = N.length := by rw [List.length_map, h3.1]
      refine ⟨fun σ H' => ∃ (r : Nat) (N' : List Nd), Kp nl pl ch H H' ∧ Dg C us cl H' x nl pl ch N' M ∧ TupEx H1 H' ∧ N <+: N' ∧ N'.length ≤ N.length + 1 ∧ 2 ≤ r ∧ N'[r]? = some ⟨k, lo, hi⟩ ∧ (∃ es', H' pl = some (.dT es') ∧ valV es' (keyN ⟨k, lo, hi⟩) = some (.int (r : Nat))) ∧ σ = [some (.ref x), some (.int (k : Nat)), some (.int (lo : Nat)), some (.int (hi : Nat)), some (.ref kt)], ?_, ?_⟩
      · refine ⟨_, rfl, _, rfl, x, C, dx, _, _, rfl, h1, W.cl, W.n_places, dfl_p _ _ _, pl, _, rfl, DGet.t (k := keyN ⟨k, lo, hi⟩) h4 hkt, _, rfl, ite2 (fun c2 => ?_) (fun c2 => ?_)⟩
        · rcases h5 ⟨k, lo, hi⟩ with ⟨i, i2, i3, i4⟩ | ⟨i1, i2⟩
          · rw [i4] at c2; cases c2
          refine ⟨_, rfl, x, C, dx, _, _, rfl, h1, W.cl, W.n_nodes, dfl_n _ _ _, _, _, rfl, .inl (SqL.of h2), _, rfl, x, C, dx, _, _, rfl, h1, W.cl, W.n_places, dfl_p _ _ _, _, rfl, pl, _, rfl, DPut.t (k := keyN ⟨k, lo, hi⟩) h4 hkt (szM (by omega)), ?_⟩
          rw [hN]
          have nxp : x ≠ pl := ne_of h1 h4 (fun z => nomatch z)
          have nnp : nl ≠ pl := ne_of h2 h4 (fun z => nomatch z)
          have hx2 : upd H1 pl (.dT (putK es (keyN ⟨k, lo, hi⟩) (.int (N.length : Nat)))) x = some (.ins C dx (dfl nl pl ch)) := by rw [upd_ne nxp]; exact h1
          have hn2 : upd H1 pl (.dT (putK es (keyN ⟨k, lo, hi⟩) (.int (N.length : Nat)))) nl = some (.lst (na.map V.ref)) := by rw [upd_ne nnp]; exact h2
          have hp2 : upd H1 pl (.dT (putK es (keyN ⟨k, lo, hi⟩) (.int (N.length : Nat)))) pl = some (.dT (putK es (keyN ⟨k, lo, hi⟩) (.int (N.length : Nat)))) := upd_same
          have hc2 : upd H1 pl (.dT (putK es (keyN ⟨k, lo, hi⟩) (.int (N.length : Nat)))) ch = some (.dT cs) := by rw [upd_ne D1.ne.symm]; exact h7
          have T2 : TupEx H1 (upd H1 pl (.dT (putK es (keyN ⟨k, lo, hi⟩) (.int (N.length : Nat))))) := .put h4 fun _ z => nomatch z
          have K2 : Kp nl pl ch H (upd H1 pl (.dT (putK es (keyN ⟨k, lo, hi⟩) (.int (N.length : Nat))))) := (Kp.of E1).trans (.own (.inr (.inl rfl)))
          generalize upd H1 pl (.dT (putK es (keyN ⟨k, lo, hi⟩) (.int (N.length : Nat)))) = H2 at *
          refine ⟨_, rfl, x, C, dx, _, _, rfl, hx2, W.cl, W.n_nodes, dfl_n _ _ _, .inl ⟨rfl, _, SqL.of hn2⟩, _, rfl, nl, _, _, rfl, rfl, hn2, szM (by rw [hN]; omega), ?_⟩
          have nxn : x ≠ nl := ne_of hx2 hn2 (fun z => nomatch z)
          have npn : pl ≠ nl := nnp.symm
          have ncn : ch ≠ nl := ne_of hc2 hn2 (fun z => nomatch z)
          have T3 : TupEx H2 (upd H2 nl (.lst (na.map V.ref ++ [.ref kt]))) := .put hn2 fun _ z => nomatch z
          have p : N <+: N ++ [⟨k, lo, hi⟩] := List.prefix_append _ _
          have Gn : GoodN (N ++ [⟨k, lo, hi⟩]) := good_snoc G0 hlo hhi hne v1 v2 i1
          have hlast : (N ++ [(⟨k, lo, hi⟩ : Nd)])[N.length]? = some ⟨k, lo, hi⟩ := by rw [List.getElem?_append_right (Nat.le_refl _), Nat.sub_self]; rfl
          refine ⟨N.length, N ++ [(⟨k, lo, hi⟩ : Nd)], K2.trans (.own (.inl rfl)), ⟨⟨dx, by rw [upd_ne nxn]; exact hx2⟩, ⟨na ++ [kt], by rw [upd_same, List.map_append]; rfl, All2.snoc (b := (⟨k, lo, hi⟩ : Nd)) (h3.imp fun _ _ z => (T2.trans T3) _ _ z) ((T2.trans T3) _ _ hkt)⟩, ⟨_, by rw [upd_ne npn]; exact hp2, h5.snoc two, ?_⟩, ⟨cs, by rw [upd_ne ncn]; exact hc2, h8, h9⟩, Gn, D1.mem.pre G0 p, ?_, D1.ne⟩, T2.trans T3, p, by rw [List.length_append]; exact Nat.le_refl _, two, hlast, ⟨_, by rw [upd_ne npn]; exact hp2, by rw [valN_put, if_pos rfl]⟩, rfl⟩
          · rw [List.length_append]
            exact Nat.le_trans (length_putK _ _ _) (Nat.succ_le_succ h6)
          · intro i m hi hm
            by_cases hl : i < N.length
            · rw [List.getElem?_append_left hl] at hm; exact D1.vars i m hi hm
            · have := (List.getElem?_eq_some_iff.mp hm).1
              rw [List.length_append] at this
              have : i < N.length + 1 := this
              obtain rfl : i = N.length := by omega
              rw [hlast] at hm
              cases hm
              exact hk
        · rcases h5 ⟨k, lo, hi⟩ with ⟨i, i2, i3, i4⟩ | ⟨i1, i2⟩
          · exact ⟨i, N, .of E1, D1, fun _ _ z => z, List.prefix_refl _, Nat.le_succ _, i2, i3, ⟨es, h4, i4⟩, rfl⟩
          · rw [i2] at c2; exact absurd rfl c2
      · rintro σ H' ⟨r, N', K', D', T', p, hl, r2, hr1, ⟨es', e1, e2⟩, rfl⟩
        obtain ⟨dx', h1'⟩ := D'.ob
        have g := DGet.t (k := keyN ⟨k, lo, hi⟩) e1 (T' _ _ hkt)
        rw [e2] at g
        refine ⟨_, rfl, x, C, dx', _, _, rfl, h1', W.cl, W.n_places, dfl_p _ _ _, _, rfl, pl, _, rfl, g, q r N' H' K' D' p hl (List.getElem?_eq_some_iff.mp hr1).1 fun f => ?_⟩
        rw [ev_node D'.good r2 hr1]
        by_cases z : f k = true
        · rw [if_pos z, if_pos z]; exact pre_ev G0 p hhi f
        · rw [if_neg z, if_neg z]; exact pre_ev G0 p hlo f
end
end G
namespace G
open PySem PySem.Spec PyProof.Rows L2 Evl TL
theorem iteY {b : Bool} {A B : Prop} (h : b = true) (a : A) : if b = true then A else B := by rw [if_pos h]; exact a
theorem iteN {b : Bool} {A B : Prop} (h : b = false) (a : B) : if b = true then A else B := by rw [if_neg (by rw [h]; decide)]; exact a
def nV (l : List Nat) : List V := (l.map fun n : Nat => (n : Int)).map V.int
theorem nV_get {l : List Nat} {j : Nat} {y : V} (h : (nV l)[j]? = some y) : ∃ k, l[j]? = some k ∧ y = .int (k : Int) := by
  unfold nV at h
  rw [List.getElem?_map, List.getElem?_map] at h
  cases e : l[j]? with
  | none => rw [e] at h; cases h
  | some k => rw [e] at h; cases h; exact ⟨k, rfl, rfl⟩
theorem nV_len (l : List Nat) : (nV l).length = l.length := by unfold nV; rw [List.length_map, List.length_map]
theorem nV_snoc (l : List Nat) (k : Nat) : nV (l ++ [k]) = nV l ++ [.int (k : Int)] := by unfold nV; rw [List.map_append, List.map_append]; rfl
theorem bls_get {l : List Bool} {j : Nat} {y : V} (h : (l.map V.bl)[j]? = some y) : ∃ k, l[j]? = some k ∧ y = .bl k := by
  rw [List.getElem?_map] at h
  cases e : l[j]? with
  | none => rw [e] at h; cases h
  | some k => rw [e] at h; cases h; exact ⟨k, rfl, rfl⟩
theorem at_lastc {as : List Addr} {s : Addr} : atI ((as ++ [s]).map V.ref) (-1) = some (.ref s) := by
  have h1 : ((as ++ [s]).map V.ref).length = as.length + 1 := by rw [List.length_map, List.length_append]; rfl
  have h2 : ((as ++ [s]).map V.ref)[as.length]? = some (.ref s) := by rw [List.getElem?_map, List.getElem?_append_right (Nat.le_refl _), Nat.sub_self]; rfl
  unfold atI
  have : ixN ((as ++ [s]).map V.ref).length (-1) = some as.length := by
    rw [h1]
    unfold ixN
    rw [if_neg (by decide), if_pos (by omega)]
    congr 1
    omega
  rw [this]; exact h2
def rTupOfD (K : PySem.W.Frag) : List V → Hp → VK → Prop := fun xs H Q => ∃ p ys, xs = [.ref p] ∧ ((SqL K H p ys ∧ ∀ l, H l = none → Q (.ref l) (upd H l (.tup ys))) ∨ (SqT K H p ys ∧ Q (.ref p) H))
theorem kTupOfD {X : Cx} {K : PySem.W.Frag} (h : X.K = K) : CallR X (.type "tuple") (rTupOfD K) := by subst h; exact call_tuple_of
theorem TkAt.te {H H' : Hp} {a : Addr} {τ : Tsk} (e : TupEx H H') (h : TkAt H a τ) : TkAt H' a τ := e _ _ h
def partsT (τ : Tsk) : List Nat := [τ.c, τ.a, τ.b]
theorem tk_nV {H : Hp} {a : Addr} {τ : Tsk} (h : TkAt H a τ) : H a = some (.tup (nV (partsT τ))) := h
def opens (M : Tsk → Option Nat) (l : List (Addr × Tsk)) : List (Addr × Tsk) := l.filter fun p => (knB p.2 (M p.2)).isNone
theorem optV_non {o : Option Nat} : decide (optV o = .non) = o.isNone := by
  cases o with
  | none => rfl
  | some r => exact decide_eq_false fun z => nomatch z
theorem All2.app {α β : Type} {R : α → β → Prop} {as cs : List α} {bs ds : List β} (h : All2 R as bs) (g : All2 R cs ds) : All2 R (as ++ cs) (bs ++ ds) := by
  refine ⟨by rw [List.length_append, List.length_append, h.1, g.1], fun i a b ha hb => ?_⟩
  by_cases z : i < as.length
  · rw [List.getElem?_append_left z] at ha
    rw [List.getElem?_append_left (by rw [← h.1]; exact z)] at hb
    exact h.2 i a b ha hb
  · rw [List.getElem?_append_right (by omega)] at ha
    rw [List.getElem?_append_right (by rw [← h.1]; omega), ← h.1] at hb
    exact g.2 _ a b ha hb
theorem All2.pairs {α β : Type} {R : α → β → Prop} {l : List (α × β)} (h : ∀ p ∈ l, R p.1 p.2) : All2 R (l.map (·.1)) (l.map (·.2)) := by
  refine ⟨by rw [List.length_map, List.length_map], fun i a b ha hb => ?_⟩
  rw [List.getElem?_map] at ha hb
  cases e : l[i]? with
  | none => rw [e] at ha; cases ha
  | some p => rw [e] at ha hb; cases ha; cases hb; exact h p (List.mem_of_getElem? e)
section
variable {P : Program} {w : World} {K : PySem.W.Frag} {mg : Str → Option Value} {base : Heap} {C : Addr}
def spChoose (C : Addr) : Sp := fun vs H Q _ => ∃ (x nl pl ch : Addr) (N : List Nd) (M : Tsk → Option Nat) (us : List Nat) (cl : Nat) (τ : Tsk), vs = [.ref x, .int (τ.c : Nat), .int (τ.a : Nat), .int (τ.b : Nat)] ∧ Dg C us cl H x nl pl ch N M ∧ okT N τ ∧ N.length + wT us.length ≤ 9000000 ∧ cl + wT us.length ≤ 9000000 ∧
  ∀ (r : Nat) (N' : List Nd) (M' : Tsk → Option Nat) (H' : Hp), Kp nl pl ch H H' → Dg C us (cl + wT us.length) H' x nl pl ch N' M' → N <+: N' → N'.length ≤ N.length + wT us.length → r < N'.length → (∀ f, ev N' r f = tF N τ f) → Q (.int (r : Nat)) H'
theorem sc_Diagrams_choose : FnScope ["self", "c", "a", "b", "goal", "waiting", "task", "top", "halves", "open_halves", "low", "high", "side", "half", "part"] ["self", "c", "a", "b"] (defScope s_Diagrams_choose) := ⟨rfl, rfl, rfl, by decide +kernel, rfl, by decide +kernel, by decide +kernel⟩
theorem ok_Diagrams_choose {f0 f1 f2 : Addr} {d0 d1 d2 : FuncData} {f : Addr} {fd : FuncData} (F : Fun K "choose" "Diagrams.choose" s_Diagrams_choose f fd) (W : Cl_Diagrams K mg C) (T : TxtG mg)
    (M_Diagrams_half : Meth K C "_half" f0) (G_Diagrams_half : FnOk P w K mg base CX0 1 f0 d0 ["self", "a", "k", "value"] (spHalf C)) (b_Diagrams_half : Binds K d0 ["self", "a", "k", "value"] [])
    (M_Diagrams_known_choice : Meth K C "_known_choice" f1) (G_Diagrams_known_choice : FnOk P w K mg base CX0 1 f1 d1 ["self", "task"] (spKnown C)) (b_Diagrams_known_choice : Binds K d1 ["self", "task"] [])
    (M_Diagrams_node : Meth K C "_node" f2) (G_Diagrams_node : FnOk P w K mg base CX0 1 f2 d2 ["self", "k", "low", "high"] (spNode C)) (b_Diagrams_node : Binds K d2 ["self", "k", "low", "high"] []) : FnOk P w K mg base CX0 2 f fd ["self", "c", "a", "b"] (spChoose C) := by
  have c_Diagrams := W.cl
  obtain ⟨tT, g_TRUE⟩ := T.tT
  have noK : ∀ nl pl ch : Addr, (dfl nl pl ch).lookup ("_known_choice" : Str) = none := fun nl pl ch => dfl_no _ _ _ (by decide +kernel) (by decide +kernel) (by decide +kernel)
  have noH : ∀ nl pl ch : Addr, (dfl nl pl ch).lookup ("_half" : Str) = none := fun nl pl ch => dfl_no _ _ _ (by decide +kernel) (by decide +kernel) (by decide +kernel)
  have noN : ∀ nl pl ch : Addr, (dfl nl pl ch).lookup ("_node" : Str) = none := fun nl pl ch => dfl_no _ _ _ (by decide +kernel) (by decide +kernel) (by decide +kernel)
  refine F.ok sc_Diagrams_choose (fun vs H Q E h => ?_) (fun cdv A outer s H vs Q E hr h => ?_)
  · obtain ⟨x, nl, pl, ch, N, M, us, cl, τ, rfl, _⟩ := h
    rfl
  · obtain ⟨x, nl, pl, ch, N, M, us, cl, goal, rfl, D, hok, hb1, hb2, q⟩ := h
    refine ⟨_, (pss_cons (ps_set (i := 4) sc_Diagrams_choose.nd rfl (.inl rfl) (pe_tup (pa_cons (pv 1) (pa_cons (pv 2) (pa_cons (pv 3) pa_nil)))))
    (pss_cons (ps_set (i := 5) sc_Diagrams_choose.nd rfl (.inl rfl) (pe_lst (pa_cons (pv 4) pa_nil)))
    (pss_cons (ps_while PassesOwn.never (pt_truth (pv 5) (by intro _; rfl))
      (pss_cons (ps_set (i := 6) sc_Diagrams_choose.nd rfl (.inr rfl) (pe_ix ix_list (pv 5) (pe_un un_neg pe_int) (fun _ _ => rfl)))
      (pss_cons (ps_if (pt_cmpR op_notN (pe_meth (pv 0) c_Diagrams M_Diagrams_known_choice G_Diagrams_known_choice (hr.mono (by omega)) b_Diagrams_known_choice .nil pass0 (pa_cons (pv 6) pa_nil)) pe_non (nomark _))
        (pss_cons (ps_expr (pe_bm0 PySem.F.plainAttrs_list PySem.F.slot_list_pop PySem.F.type_list_pop mt_pop (pv 5)))
        (pss_one ps_continue))
        pss_nil)
      (pss_cons (ps_set (i := 7) sc_Diagrams_choose.nd rfl (.inr rfl) (pe_callB (cr_min rfl) (by rfl) T.min (by decide +kernel) (pa_cons (pe_lc (own := [("part", 14)]) (g := gName 14) (tt := _) rfl sc_Diagrams_choose.nd (pi_tup (pv 6)) (blkOk_by (N := ["self", "c", "a", "b", "goal", "waiting", "task", "top", "halves", "open_halves", "low", "high", "side", "half", "part"]) (sc := defScope s_Diagrams_choose) (own := [("part", 14)]) (by decide +kernel)) (fun _ _ _ _ _ => (pg_name (i := 14) sc_Diagrams_choose.nd rfl (.inl rfl))) (fun _ _ _ _ _ => pts_one (pt_cmpR op_gt (pv 14) (gInt rfl g_TRUE) (nomark _))) (fun _ _ _ _ _ => (pe_ix (kIxT (K := K) rfl) (pe_ix (kIxL (K := K) rfl) (kFld (K := K) rfl (pv 0) rfl) (pv 14) (fun _ _ => rfl)) pe_int (fun _ _ => rfl)))) pa_nil)))
      (pss_cons (ps_setLc (i := 8) (own := [("side", 12)]) (g := gName 12) (tt := tYes) rfl sc_Diagrams_choose.nd rfl rfl (sw_true rfl rfl rfl (by decide +kernel)) (pi_tup (pe_tup (pa_cons pe_bl (pa_cons pe_bl pa_nil)))) (blkOk_by (N := ["self", "c", "a", "b", "goal", "waiting", "task", "top", "halves", "open_halves", "low", "high", "side", "half", "part"]) (sc := defScope s_Diagrams_choose) (own := [("side", 12)]) (by decide +kernel)) (fun _ _ _ _ _ => (pg_name (i := 12) sc_Diagrams_choose.nd rfl (.inr rfl))) (fun _ _ _ _ _ => pts_nil) (fun _ _ _ _ _ => (pe_callTy (kTupOfD (K := K) rfl) (by rfl) T.tuple (by decide +kernel) (pa_cons (pe_lc (own := [("part", 14)]) (g := gName 14) (tt := tYes) rfl sc_Diagrams_choose.nd (kPiT (K := K) rfl (pv 6)) (blkOk_by (own := [("part", 14)]) (by kernel_rfl)) (fun _ _ _ _ _ => (pg_name (i := 14) sc_Diagrams_choose.nd rfl (.inl rfl))) (fun _ _ _ _ _ => pts_nil) (fun _ _ _ _ _ => (pe_meth (pv 0) c_Diagrams M_Diagrams_half G_Diagrams_half (hr.mono (by omega)) b_Diagrams_half .nil pass0 (pa_cons (pv 14) (pa_cons (pv 7) (pa_cons (pv 12) pa_nil)))))) pa_nil))))
      (pss_cons (ps_setLc (i := 9) (own := [("half", 13)]) (g := gName 13) (tt := _) rfl sc_Diagrams_choose.nd rfl rfl (sw_true rfl rfl rfl (by decide +kernel)) (pi_list (pv 8)) (blkOk_by (N := ["self", "c", "a", "b", "goal", "waiting", "task", "top", "halves", "open_halves", "low", "high", "side", "half", "part"]) (sc := defScope s_Diagrams_choose) (own := [("half", 13)]) (by decide +kernel)) (fun _ _ _ _ _ => (pg_name (i := 13) sc_Diagrams_choose.nd rfl (.inl rfl))) (fun _ _ _ _ _ => pts_one (pt_cmpR op_isN (pe_meth (pv 0) c_Diagrams M_Diagrams_known_choice G_Diagrams_known_choice (hr.mono (by omega)) b_Diagrams_known_choice .nil pass0 (pa_cons (pv 13) pa_nil)) pe_non (nomark _))) (fun _ _ _ _ _ => (pv 13)))
      (pss_one (ps_if (pt_truth (pv 9) (by intro _; rfl))
        (pss_one (ps_expr (pe_bm PySem.F.plainAttrs_list PySem.F.slot_list_extend PySem.F.type_list_extend mt_extend (pv 5) (pa_cons (pv 9) pa_nil))))
        (pss_cons (ps_asg (pe_lc (own := [("half", 13)]) (g := gName 13) (tt := tYes) rfl sc_Diagrams_choose.nd (pi_list (pv 8)) (blkOk_by (N := ["self", "c", "a", "b", "goal", "waiting", "task", "top", "halves", "open_halves", "low", "high", "side", "half", "part"]) (sc := defScope s_Diagrams_choose) (own := [("half", 13)]) (by decide +kernel)) (fun _ _ _ _ _ => (pg_name (i := 13) sc_Diagrams_choose.nd rfl (.inl rfl))) (fun _ _ _ _ _ => pts_nil) (fun _ _ _ _ _ => (pe_meth (pv 0) c_Diagrams M_Diagrams_known_choice G_Diagrams_known_choice (hr.mono (by omega)) b_Diagrams_known_choice .nil pass0 (pa_cons (pv 13) pa_nil)))) (pg_unl rfl (pgs_cons (pg_name (i := 10) sc_Diagrams_choose.nd rfl (.inl rfl)) (pgs_cons (pg_name (i := 11) sc_Diagrams_choose.nd rfl (.inl rfl)) pgs_nil))))
        (pss_one (ps_asg (pe_meth (pv 0) c_Diagrams M_Diagrams_node G_Diagrams_node (hr.mono (by omega)) b_Diagrams_node .nil pass0 (pa_cons (pv 7) (pa_cons (pv 10) (pa_cons (pv 11) pa_nil)))) (pg_sub (pe_fld (pv 0) rfl) (pv 6) (set_dict (hu_of hr))))))))))))))
    (pss_one (ps_ret (pe_meth (pv 0) c_Diagrams M_Diagrams_known_choice G_Diagrams_known_choice (hr.mono (by omega)) b_Diagrams_known_choice .nil pass0 (pa_cons (pv 4) pa_nil))))))), ?_⟩
    have wpos := wT_pos us.length
    refine ⟨_, rfl, _, rfl, _, rfl, (by show 3 ≤ sizeLine; decide), fun gt ngt => ⟨_, rfl, (by show 1 ≤ sizeLine; decide), fun WL nWL => ?_⟩⟩
    have E1 : Ex H (upd H gt (.tup [.int (goal.c : Nat), .int (goal.a : Nat), .int (goal.b : Nat)])) := Ex.new ngt
    have hgt : TkAt (upd H gt (.tup [.int (goal.c : Nat), .int (goal.a : Nat), .int (goal.b : Nat)])) gt goal := upd_same
    generalize upd H gt (.tup [.int (goal.c : Nat), .int (goal.a : Nat), .int (goal.b : Nat)]) = H1 at *
    have nW0 : H WL = none := fresh_back E1 nWL
    have E2 : Ex H1 (upd H1 WL (.lst [.ref gt])) := Ex.new nWL
    have hWL : upd H1 WL (.lst [.ref gt]) WL = some (.lst (([gt] : List Addr).map V.ref)) := upd_same
    generalize upd H1 WL (.lst [.ref gt]) = H2 at *
    have E02 := E1.trans E2
    have D2 := D.ex E02
    obtain ⟨nWn, nWp, nWc, nWx⟩ : WL ≠ nl ∧ WL ≠ pl ∧ WL ≠ ch ∧ WL ≠ x := by
      obtain ⟨dx, h1⟩ := D.ob
      obtain ⟨na, h2, _⟩ := D.nodes
      obtain ⟨es, h4, _⟩ := D.fpl
      obtain ⟨cs, h7, _⟩ := D.fch
      exact ⟨(ne_of_none h2 nW0).symm, (ne_of_none h4 nW0).symm, (ne_of_none h7 nW0).symm, (ne_of_none h1 nW0).symm⟩
    refine ⟨fun μ σ H' => Kp nl pl ch H H' ∧ ∃ (N' : List Nd) (M' : Tsk → Option Nat) (cl' : Nat) (S : List Tsk) (ws : List Nat) (sa : List Addr) (y6 y7 y8 y9 y10 y11 : Option V), Dg C us cl' H' x nl pl ch N' M' ∧ N <+: N' ∧ SInv us N' M' goal S ws ∧ H' WL = some (.lst (sa.map V.ref)) ∧ All2 (TkAt H') sa S ∧ ws.sum = μ ∧
        N'.length + ws.sum ≤ N.length + wT us.length ∧ cl' + ws.sum ≤ cl + wT us.length ∧ TkAt H' gt goal ∧ σ = [some (.ref x), some (.int (goal.c : Nat)), some (.int (goal.a : Nat)), some (.int (goal.b : Nat)), some (.ref gt), some (.ref WL), y6, y7, y8, y9, y10, y11, none, none, none],
      ⟨wT us.length, .of E02, N, M, cl, [goal], [wT us.length], [gt], _, _, _, _, _, _, D2, List.prefix_refl _, SInv.start hok, hWL, .cons (E2 _ _ hgt) .nil, by simp, by simp, by simp, E2 _ _ hgt, rfl⟩, ?_⟩
    rintro μ σ H3 ⟨K3, N', M', cl', S, ws, sa, y6, y7, y8, y9, y10, y11, D3, p3, I3, hWL3, hA3, hμ, hb3, hb4, hgt3, rfl⟩
    obtain ⟨dx, h1⟩ := D3.ob
    refine ⟨_, rfl, !(sa.map V.ref).isEmpty, .inl ⟨_, SqL.of hWL3, rfl⟩, ite2 (fun c1 => ?_) (fun c1 => ?_)⟩
    · obtain ⟨sa0, ta, rfl⟩ : ∃ sa0 ta, sa = sa0 ++ [ta] := by
        rcases List.eq_nil_or_concat sa with rfl | ⟨L, b, rfl⟩
        · cases c1
        · exact ⟨L, b, List.concat_eq_append⟩
      obtain ⟨S0, τ, rfl⟩ : ∃ S0 τ, S = S0 ++ [τ] := by
        rcases List.eq_nil_or_concat S with rfl | ⟨L, b, rfl⟩
        · have := hA3.1; rw [List.length_append] at this; cases this
        · exact ⟨L, b, List.concat_eq_append⟩
      obtain ⟨ws0, m, rfl⟩ : ∃ ws0 m, ws = ws0 ++ [m] := by
        rcases List.eq_nil_or_concat ws with rfl | ⟨L, b, rfl⟩
        · have := I3.len; rw [List.length_append] at this; cases this
        · exact ⟨L, b, List.concat_eq_append⟩
      have hl0 : sa0.length = S0.length := by have := hA3.1; rw [List.length_append, List.length_append] at this; exact Nat.succ.inj this
      have hlw : S0.length = ws0.length := by have := I3.len; rw [List.length_append, List.length_append] at this; exact Nat.succ.inj this
      have hta : TkAt H3 ta τ := hA3.2 sa0.length ta τ (by rw [List.getElem?_append_right (Nat.le_refl _), Nat.sub_self]; rfl) (by rw [hl0, List.getElem?_append_right (Nat.le_refl _), Nat.sub_self]; rfl)
      have hA0 : All2 (TkAt H3) sa0 S0 := ⟨hl0, fun i a b ha hb => hA3.2 i a b (by rw [List.getElem?_append_left (List.getElem?_eq_some_iff.mp ha).1]; exact ha) (by rw [List.getElem?_append_left (List.getElem?_eq_some_iff.mp hb).1]; exact hb)⟩
      have hokτ := I3.ok τ (List.mem_append_right _ (List.mem_singleton.mpr rfl))
      have hm1 : 1 ≤ m := I3.one m (List.mem_append_right _ (List.mem_singleton.mpr rfl))
      have esum : (ws0 ++ [m]).sum = ws0.sum + m := by rw [List.sum_append]; simp
      have hbig : ∀ l : List Nat, (∀ y ∈ l, 1 ≤ y) → l.length ≤ l.sum := fun l => by
        induction l with
        | nil => intro _; exact Nat.le_refl _
        | cons a l ih => intro h; have := ih fun y hy => h y (List.mem_cons_of_mem _ hy); have := h a (List.mem_cons_self ..); rw [List.sum_cons, List.length_cons]; omega
      have hsz : (ws0 ++ [m]).length ≤ 9000000 := by
        have := hbig _ I3.one
        omega
      have hsz1 : ws0.length + 1 ≤ 9000000 := by rw [List.length_append] at hsz; exact hsz
      refine ⟨fun σ' H' => Kp nl pl ch H H' ∧ ∃ (N' : List Nd) (M' : Tsk → Option Nat) (cl' : Nat) (S : List Tsk) (ws : List Nat) (sa : List Addr) (y6 y7 y8 y9 y10 y11 : Option V), Dg C us cl' H' x nl pl ch N' M' ∧ N <+: N' ∧ SInv us N' M' goal S ws ∧ H' WL = some (.lst (sa.map V.ref)) ∧ All2 (TkAt H') sa S ∧ ws.sum < μ ∧
        N'.length + ws.sum ≤ N.length + wT us.length ∧ cl' + ws.sum ≤ cl + wT us.length ∧ TkAt H' gt goal ∧ σ' = [some (.ref x), some (.int (goal.c : Nat)), some (.int (goal.a : Nat)), some (.int (goal.b : Nat)), some (.ref gt), some (.ref WL), y6, y7, y8, y9, y10, y11, none, none, none], ?_, ?_⟩
      · rintro σ' H' ⟨b1, b2, b3, b4, b5, b6, b7, z6, z7, z8, z9, z10, z11, b8, b9, b10, b11, b12, b13, b14, b15, b16, rfl⟩
        exact ⟨b6.sum, b13, b1, b2, b3, b4, b5, b6, b7, z6, z7, z8, z9, z10, z11, b8, b9, b10, b11, b12, rfl, b14, b15, b16, rfl⟩
      refine ⟨_, rfl, _, rfl, _, _, _, _, rfl, rfl, SqL.of hWL3, at_lastc, ?_⟩
      refine ⟨_, rfl, x, dx, _, rfl, h1, noK _ _ _, _, rfl, x, nl, pl, ch, N', M', us, cl', ta, τ, rfl, D3, hta, rfl, _, rfl, ?_⟩
      rw [optV_non]
      cases hkn : knB τ (M' τ) with
      | some r =>
        refine iteY rfl ?_
        have epop : ((sa0 ++ [ta]).map V.ref).dropLast = sa0.map V.ref := by rw [List.map_append]; exact List.dropLast_concat
        have elast : ((sa0 ++ [ta]).map V.ref)[((sa0 ++ [ta]).map V.ref).length - 1]? = some (.ref ta) := by
          rw [List.length_map, List.length_append, List.getElem?_map, List.getElem?_append_right (by show _ ≤ _ + 1 - 1; omega)]
          show Option.map V.ref ([ta][sa0.length + 1 - 1 - sa0.length]?) = _
          rw [show sa0.length + 1 - 1 - sa0.length = 0 by omega]; rfl
        refine ⟨_, rfl, .inl ⟨rfl, _, SqL.of hWL3⟩, WL, _, _, rfl, rfl, hWL3, elast, ?_⟩
        rw [epop]
        have T4 : TupEx H3 (upd H3 WL (.lst (sa0.map V.ref))) := .put hWL3 fun _ z => nomatch z
        refine ⟨K3.mut nW0, N', M', cl', S0, ws0, sa0, _, _, _, _, _, _, D3.keep (fun b o hb h => ?_) T4, p3, I3.pop ⟨r, hkn⟩, upd_same, hA0.imp fun _ _ z => T4 _ _ z, by omega, by omega, by omega, T4 _ _ hgt3, rfl⟩
        rw [upd_ne fun z => by subst z; rcases hb with e | e | e | e; exact nWx e; exact nWn e; exact nWp e; exact nWc e]; exact h
      | none =>
        refine iteN rfl ?_
        have hnk : ¬ Kn M' τ := fun ⟨r, e⟩ => by rw [hkn] at e; cases e
        have hc2 := (kn_none hkn).1
        -- the top
        refine ⟨_, rfl, ta, rfl, ⟨_, SqT.of (tk_nV hta)⟩, fun L nL => wk_tup (K := K) (a := ta) (xs := nV (partsT τ)) (fun j H' => Ex H3 H' ∧ H' L = some (.lst (nV ((((partsT τ).take j).filter fun p => decide (2 ≤ p)).map fun p => (ndA N' p).k)))) ⟨Ex.new nL, upd_same⟩ (fun j H' _ g => SqT.of (g.1 _ _ (tk_nV hta))) ?_ ?_⟩
        · rintro j y H4 hy ⟨E4, hL⟩
          obtain ⟨p, hp, rfl⟩ := nV_get hy
          have hj : j < 3 := (List.getElem?_eq_some_iff.mp hp).1
          have hfl : ((((partsT τ).take j).filter fun p => decide (2 ≤ p)).map fun p => (ndA N' p).k).length ≤ 3 := by
            rw [List.length_map]
            have h1 := List.length_filter_le (fun p => decide (2 ≤ p)) ((partsT τ).take j)
            rw [List.length_take] at h1
            omega
          have hpl : p < N'.length := by
            have hm := List.mem_of_getElem? hp
            unfold partsT at hm
            simp only [List.mem_cons, List.not_mem_nil, or_false] at hm
            exact or3 (P := fun q => q < N'.length) hm hokτ.1 hokτ.2.1 hokτ.2.2
          refine ⟨rfl, ?_⟩
          simp only [wipe, _root_.L2.start, List.map_cons, List.map_nil, List.length_cons, List.length_nil, Nat.reduceAdd, Nat.reduceSub, List.replicate_succ, List.replicate_zero, List.cons_append, List.nil_append, List.set_cons_zero, List.set_cons_succ]
          refine ⟨_, rfl, _, _, rfl, rfl, _, rfl, ite2 (fun c2 => ?_) (fun c2 => ?_)⟩
          · have hp2 : 2 ≤ p := by have := of_decide_eq_true c2; omega
            obtain ⟨na, b, h2, hb, hn⟩ := (D3.ex E4).nd hpl
            refine ⟨_, rfl, x, C, dx, _, _, rfl, E4 _ _ h1, W.cl, W.n_nodes, dfl_n _ _ _, _, rfl, _, _, _, _, rfl, rfl, SqL.of h2, at_of (j := p) rfl hb, _, _, _, _, rfl, rfl, SqT.of hn, atI_nat (j := 0) rfl, _, hL, sz_lt (by rw [nV_len]; omega), E4.mut nL, ?_⟩
            rw [upd_same, take_snoc1 hp, List.filter_append, List.map_append, List.filter_cons, decide_eq_true hp2, if_pos rfl, ← nV_snoc]; rfl
          · have hp2 : ¬ 2 ≤ p := fun z => c2 (decide_eq_true (by omega))
            refine ⟨E4, ?_⟩
            rw [hL, take_snoc1 hp, List.filter_append, List.filter_cons, decide_eq_false hp2, if_neg Bool.false_ne_true, List.filter_nil, List.append_nil]
        rintro H4 ⟨E4, hL⟩
        rw [nV_len, List.take_length] at hL
        refine ⟨L, _, rfl, SqL.of hL, ?_, fun tI htm hmin => ?_⟩
        · rw [List.length_map, List.length_map]
          refine List.length_pos_of_mem (List.mem_filter.mpr ⟨?_, decide_eq_true hc2⟩)
          exact List.mem_cons_self ..
        obtain ⟨t, ht, rfl⟩ := List.mem_map.mp htm
        obtain ⟨p, hp, rfl⟩ := List.mem_map.mp ht
        obtain ⟨hpm, hp2⟩ := List.mem_filter.mp hp
        have hp2 := of_decide_eq_true hp2
        have hpm3 : p = τ.c ∨ p = τ.a ∨ p = τ.b := by
          unfold partsT at hpm
          simpa only [List.mem_cons, List.not_mem_nil, or_false] using hpm
        have hge : ∀ p', (p' = τ.c ∨ p' = τ.a ∨ p' = τ.b) → lvGe N' (ndA N' p).k p' := fun p' hp' n h2 hn => by
          have := hmin ((ndA N' p').k : Nat) (List.mem_map.mpr ⟨_, List.mem_map.mpr ⟨p', List.mem_filter.mpr ⟨by unfold partsT; simpa only [List.mem_cons, List.not_mem_nil, or_false] using hp', decide_eq_true h2⟩, rfl⟩, rfl⟩)
          rw [ndA_of hn] at this
          omega
        have hTop : IsTop N' (ndA N' p).k τ := ⟨⟨p, hpm3, hp2, rfl⟩, hge _ (.inl rfl), hge _ (.inr (.inl rfl)), hge _ (.inr (.inr rfl))⟩
        generalize (ndA N' p).k = t at *
        have K4 := K3.more E4
        have D4 := D3.ex E4
        -- halves
        refine ⟨(by show 2 ≤ sizeLine; decide), fun tt ntt => ?_⟩
        have E5 : Ex H4 (upd H4 tt (.tup [.bl false, .bl true])) := Ex.new ntt
        have htt : upd H4 tt (.tup [.bl false, .bl true]) tt = some (.tup (([false, true] : List Bool).map V.bl)) := upd_same
        generalize upd H4 tt (.tup [.bl false, .bl true]) = H5 at *
        have D5 := D4.ex E5
        have E35 := E4.trans E5
        refine ⟨tt, rfl, ⟨_, SqT.of htt⟩, fun HL nHL => wk_tup (K := K) (a := tt) (xs := ([false, true] : List Bool).map V.bl) (fun j H' => Ex H5 H' ∧ ∃ qs : List Addr, H' HL = some (.lst (qs.map V.ref)) ∧ All2 (TkAt H') qs ((([false, true] : List Bool).take j).map fun v => halfT N' τ t v)) ⟨Ex.new nHL, [], upd_same, .nil⟩ (fun j H' _ g => SqT.of (g.1 _ _ htt)) ?_ ?_⟩
        · rintro j y H6 hy ⟨E6, qs, hHL, hq⟩
          obtain ⟨v, hv, rfl⟩ := bls_get hy
          have hj : j < 2 := (List.getElem?_eq_some_iff.mp hv).1
          have hql : qs.length ≤ 2 := by rw [hq.1, List.length_map, List.length_take]; exact Nat.min_le_right _ _
          have hta6 := tk_nV (hta.te (TupEx.of (E35.trans E6)))
          have h16 := (E35.trans E6) _ _ h1
          have D6 := D5.ex E6
          refine ⟨rfl, tYes_in ?_⟩
          simp only [wipe, _root_.L2.start, List.map_cons, List.map_nil, List.length_cons, List.length_nil, Nat.reduceAdd, Nat.reduceSub, List.replicate_succ, List.replicate_zero, List.cons_append, List.nil_append, List.set_cons_zero, List.set_cons_succ]
          refine ⟨_, rfl, ta, rfl, ⟨_, SqT.of hta6⟩, fun L2 nL2 => wk_tup (K := K) (a := ta) (xs := nV (partsT τ)) (fun i H' => Ex H6 H' ∧ H' L2 = some (.lst (nV (((partsT τ).take i).map fun p => halfA N' p t v)))) ⟨Ex.new nL2, upd_same⟩ (fun i H' _ g => SqT.of (g.1 _ _ hta6)) ?_ ?_⟩
          · rintro i y H7 hy ⟨E7, hL2⟩
            obtain ⟨p, hp, rfl⟩ := nV_get hy
            have hi : i < 3 := (List.getElem?_eq_some_iff.mp hp).1
            have hpl : p < N'.length := by
              have hm := List.mem_of_getElem? hp
              unfold partsT at hm
              simp only [List.mem_cons, List.not_mem_nil, or_false] at hm
              exact or3 (P := fun q => q < N'.length) hm hokτ.1 hokτ.2.1 hokτ.2.2
            refine ⟨rfl, tYes_in ?_⟩
            simp only [wipe, _root_.L2.start, List.map_cons, List.map_nil, List.length_cons, List.length_nil, Nat.reduceAdd, Nat.reduceSub, List.replicate_succ, List.replicate_zero, List.cons_append, List.nil_append, List.set_cons_zero, List.set_cons_succ]
            refine ⟨_, rfl, x, dx, _, rfl, E7 _ _ h16, noH _ _ _, _, rfl, _, rfl, _, rfl, x, nl, pl, ch, N', M', us, cl', p, t, v, rfl, D6.ex E7, hpl, _, hL2, sz_lt (by rw [nV_len, List.length_map, List.length_take]; omega), E7.mut nL2, ?_⟩
            rw [upd_same, take_snoc1 hp, List.map_append, ← nV_snoc]; rfl
          rintro H7 ⟨E7, hL2⟩
          rw [nV_len, List.take_length] at hL2
          refine ⟨L2, _, rfl, .inl ⟨SqL.of hL2, fun q nq => ?_⟩⟩
          have E8 : Ex H7 (upd H7 q (.tup (nV ((partsT τ).map fun p => halfA N' p t v)))) := Ex.new nq
          have hq8 : TkAt (upd H7 q (.tup (nV ((partsT τ).map fun p => halfA N' p t v)))) q (halfT N' τ t v) := upd_same
          generalize upd H7 q (.tup (nV ((partsT τ).map fun p => halfA N' p t v))) = H8 at *
          have E68 := E7.trans E8
          have hHL8 := E68 _ _ hHL
          have T9 : TupEx H8 (upd H8 HL (.lst (qs.map V.ref ++ [.ref q]))) := .put hHL8 fun _ z => nomatch z
          refine ⟨_, hHL8, sz_lt (by rw [List.length_map]; omega), (E6.trans E68).mut nHL, qs ++ [q], by rw [upd_same, List.map_append]; rfl, ?_⟩
          rw [take_snoc1 hv, List.map_append]
          exact (hq.imp fun _ _ z => T9 _ _ (E68 _ _ z)).snoc (T9 _ _ hq8)
        rintro H6 ⟨E6, qs, hHL, hq⟩
        obtain ⟨q0, q1, rfl⟩ : ∃ q0 q1, qs = [q0, q1] := by
          have := hq.1
          match qs, this with
          | [a, b], _ => exact ⟨a, b, rfl⟩
        have hq0 : TkAt H6 q0 (halfT N' τ t false) := hq.2 0 _ _ rfl rfl
        have hq1 : TkAt H6 q1 (halfT N' τ t true) := hq.2 1 _ _ rfl rfl
        have E36 := E35.trans E6
        have h16 := E36 _ _ h1
        have D6 := D3.ex E36
        -- those that are open
        refine ⟨_, rfl, HL, rfl, ⟨_, SqL.of hHL⟩, fun OL nOL => wk_list (K := K) (a := HL) (xs := ([q0, q1] : List Addr).map V.ref) (fun j H' => Ex H6 H' ∧ H' OL = some (.lst ((opens M' (([(q0, halfT N' τ t false), (q1, halfT N' τ t true)] : List (Addr × Tsk)).take j)).map fun p => V.ref p.1))) ⟨Ex.new nOL, upd_same⟩ (fun j H' _ g => SqL.of (g.1 _ _ hHL)) ?_ ?_⟩
        · rintro j y H7 hy ⟨E7, hOL⟩
          obtain ⟨b, hb, rfl⟩ := refs_get hy
          have hj : j < 2 := (List.getElem?_eq_some_iff.mp hb).1
          obtain ⟨σ, hσ, hbσ⟩ : ∃ σ, ([(q0, halfT N' τ t false), (q1, halfT N' τ t true)] : List (Addr × Tsk))[j]? = some (b, σ) ∧ TkAt H7 b σ := by
            match j, hj with
            | 0, _ => cases hb; exact ⟨_, rfl, E7 _ _ hq0⟩
            | 1, _ => cases hb; exact ⟨_, rfl, E7 _ _ hq1⟩
          have hol : (opens M' (([(q0, halfT N' τ t false), (q1, halfT N' τ t true)] : List (Addr × Tsk)).take j)).length ≤ 2 := by
            have h1 := List.length_filter_le (fun p : Addr × Tsk => (knB p.2 (M' p.2)).isNone) (([(q0, halfT N' τ t false), (q1, halfT N' τ t true)] : List (Addr × Tsk)).take j)
            rw [List.length_take] at h1
            unfold opens
            omega
          refine ⟨rfl, ?_⟩
          simp only [wipe, _root_.L2.start, List.map_cons, List.map_nil, List.length_cons, List.length_nil, Nat.reduceAdd, Nat.reduceSub, List.replicate_succ, List.replicate_zero, List.cons_append, List.nil_append, List.set_cons_zero, List.set_cons_succ]
          refine ⟨_, rfl, x, dx, _, rfl, E7 _ _ h16, noK _ _ _, _, rfl, x, nl, pl, ch, N', M', us, cl', b, σ, rfl, D6.ex E7, hbσ, rfl, _, rfl, ?_⟩
          rw [optV_non]
          cases hks : (knB σ (M' σ)).isNone with
          | true =>
            refine iteY rfl ⟨_, rfl, _, hOL, sz_lt (by rw [List.length_map]; omega), E7.mut nOL, ?_⟩
            unfold opens
            rw [upd_same, take_snoc1 hσ, List.filter_append, List.map_append, List.filter_cons, hks, if_pos rfl]; rfl
          | false =>
            refine iteN rfl ⟨E7, ?_⟩
            rw [hOL]
            unfold opens
            rw [take_snoc1 hσ, List.filter_append, List.filter_cons, hks, if_neg Bool.false_ne_true, List.filter_nil, List.append_nil]
        rintro H7 ⟨E7, hOL⟩
        have hOL : H7 OL = some (.lst ((opens M' [(q0, halfT N' τ t false), (q1, halfT N' τ t true)]).map fun p => V.ref p.1)) := hOL
        have E37 := E36.trans E7
        have D7 := D3.ex E37
        have h17 := E37 _ _ h1
        have hWL7 := E37 _ _ hWL3
        have hop : ∀ p ∈ opens M' [(q0, halfT N' τ t false), (q1, halfT N' τ t true)], TkAt H7 p.1 p.2 ∧ ∃ v, p.2 = halfT N' τ t v ∧ ¬ Kn M' p.2 := fun p hp => by
          obtain ⟨hm, hk⟩ := List.mem_filter.mp hp
          have hk' : ¬ Kn M' p.2 := fun ⟨r, e⟩ => by rw [e] at hk; cases hk
          simp only [List.mem_cons, List.not_mem_nil, or_false] at hm
          rcases hm with e | e
          · subst e; exact ⟨E7 _ _ hq0, false, rfl, hk'⟩
          · subst e; exact ⟨E7 _ _ hq1, true, rfl, hk'⟩
        have hall : ∀ v, Kn M' (halfT N' τ t v) ∨ ∃ b, (b, halfT N' τ t v) ∈ opens M' [(q0, halfT N' τ t false), (q1, halfT N' τ t true)] := fun v => by
          cases hks : knB (halfT N' τ t v) (M' (halfT N' τ t v)) with
          | some r => exact .inl ⟨r, hks⟩
          | none =>
            refine .inr ?_
            cases v with
            | false => exact ⟨q0, List.mem_filter.mpr ⟨List.mem_cons_self .., by show (knB (halfT N' τ t false) (M' (halfT N' τ t false))).isNone = true; rw [hks]; rfl⟩⟩
            | true => exact ⟨q1, List.mem_filter.mpr ⟨List.mem_cons_of_mem _ (List.mem_cons_self ..), by show (knB (halfT N' τ t true) (M' (halfT N' τ t true))).isNone = true; rw [hks]; rfl⟩⟩
        have hol2 : (opens M' [(q0, halfT N' τ t false), (q1, halfT N' τ t true)]).length ≤ 2 := List.length_filter_le _ _
        generalize opens M' [(q0, halfT N' τ t false), (q1, halfT N' τ t true)] = op at *
        refine ⟨_, rfl, !(op.map fun p => V.ref p.1).isEmpty, .inl ⟨_, SqL.of hOL, rfl⟩, ite2 (fun c2 => ?_) (fun c2 => ?_)⟩
        · have hne : op ≠ [] := fun z => by rw [z] at c2; cases c2
          refine ⟨_, rfl, .inl ⟨rfl, _, SqL.of hWL7⟩, _, rfl, WL, OL, _, _, rfl, rfl, hWL7, hOL, Nat.le_of_lt (szM' (by rw [List.length_map, List.length_map, List.length_append]; show _ + 1 + _ ≤ _; omega)), ?_⟩
          have ew : (sa0 ++ [ta]).map V.ref ++ op.map (fun p => V.ref p.1) = (sa0 ++ [ta] ++ op.map (·.1)).map V.ref := by rw [List.map_append (l₁ := sa0 ++ [ta]), List.map_map]; rfl
          rw [ew]
          obtain ⟨ws', I', hlt⟩ := I3.push (op := op.map (·.2)) D3.good D3.vars hnk hTop (fun v => (hall v).imp id fun ⟨b, hb⟩ => List.mem_map.mpr ⟨_, hb, rfl⟩) (fun σ hσ => by obtain ⟨p, hp, rfl⟩ := List.mem_map.mp hσ; exact (hop p hp).2) (fun z => hne (List.map_eq_nil_iff.mp z)) (by rw [List.length_map]; exact hol2)
          have T8 : TupEx H7 (upd H7 WL (.lst ((sa0 ++ [ta] ++ op.map (·.1)).map V.ref))) := .put hWL7 fun _ z => nomatch z
          refine ⟨(K3.more E37).mut nW0, N', M', cl', _, ws', sa0 ++ [ta] ++ op.map (·.1), _, _, _, _, _, _, D7.keep (fun b o hb h => ?_) T8, p3, I', upd_same, ((hA3.imp fun _ _ z => T8 _ _ (E37 _ _ z)).app ?_), by omega, by omega, by omega, T8 _ _ (E37 _ _ hgt3), rfl⟩
          · rw [upd_ne fun z => by subst z; rcases hb with e | e | e | e; exact nWx e; exact nWn e; exact nWp e; exact nWc e]; exact h
          · exact All2.pairs fun p hp => T8 _ _ (hop p hp).1
        · have hop0 : op = [] := by
            cases op with
            | nil => rfl
            | cons a l => exact absurd rfl c2
          subst hop0
          have hkn2 : ∀ v, ∃ r, knB (halfT N' τ t v) (M' (halfT N' τ t v)) = some r := fun v => (hall v).elim id fun ⟨b, hb⟩ => nomatch hb
          obtain ⟨r0, hr0⟩ := hkn2 false
          obtain ⟨r1, hr1⟩ := hkn2 true
          have hHL7 := E7 _ _ hHL
          -- low, high
          refine ⟨_, rfl, HL, rfl, ⟨_, SqL.of hHL7⟩, fun LL nLL => wk_list (K := K) (a := HL) (xs := ([q0, q1] : List Addr).map V.ref) (fun j H' => Ex H7 H' ∧ H' LL = some (.lst (nV (([r0, r1] : List Nat).take j)))) ⟨Ex.new nLL, upd_same⟩ (fun j H' _ g => SqL.of (g.1 _ _ hHL7)) ?_ ?_⟩
          · rintro j y H8 hy ⟨E8, hLL⟩
            obtain ⟨b, hb, rfl⟩ := refs_get hy
            have hj : j < 2 := (List.getElem?_eq_some_iff.mp hb).1
            obtain ⟨σ, r, hσ, hkr, hbσ⟩ : ∃ σ r, ([r0, r1] : List Nat)[j]? = some r ∧ knB σ (M' σ) = some r ∧ TkAt H8 b σ := by
              match j, hj with
              | 0, _ => cases hb; exact ⟨_, _, rfl, hr0, E8 _ _ (E7 _ _ hq0)⟩
              | 1, _ => cases hb; exact ⟨_, _, rfl, hr1, E8 _ _ (E7 _ _ hq1)⟩
            refine ⟨rfl, tYes_in ?_⟩
            simp only [wipe, _root_.L2.start, List.map_cons, List.map_nil, List.length_cons, List.length_nil, Nat.reduceAdd, Nat.reduceSub, List.replicate_succ, List.replicate_zero, List.cons_append, List.nil_append, List.set_cons_zero, List.set_cons_succ]
            refine ⟨_, rfl, x, dx, _, rfl, E8 _ _ h17, noK _ _ _, _, rfl, x, nl, pl, ch, N', M', us, cl', b, σ, rfl, D7.ex E8, hbσ, _, hLL, sz_lt (by rw [nV_len, List.length_take]; show min j 2 < _; omega), E8.mut nLL, ?_⟩
            rw [upd_same, take_snoc1 hσ, nV_snoc, hkr]; rfl
          rintro H8 ⟨E8, hLL⟩
          have hLL : H8 LL = some (.lst [.int (r0 : Nat), .int (r1 : Nat)]) := hLL
          have E38 := E37.trans E8
          have D8 := D3.ex E38
          have h18 := E38 _ _ h1
          have hkok : ∀ v r, knB (halfT N' τ t v) (M' (halfT N' τ t v)) = some r → r < N'.length ∧ ∀ f, ev N' r f = tF N' (halfT N' τ t v) f := fun v r e => kn_ok (halfT_ok D3.good hokτ hTop.2).1 (fun r' e' => (D3.mem _ r' e').2) r e
          obtain ⟨lv0, lv1, hev⟩ := node_choice D3.good hokτ hTop.2 (hkok false r0 hr0) (hkok true r1 hr1)
          refine ⟨LL, _, rfl, SqL.of hLL, rfl, _, _, rfl, _, _, rfl, rfl, ?_⟩
          refine ⟨_, rfl, x, dx, _, rfl, h18, noN _ _ _, _, rfl, _, rfl, _, rfl, x, nl, pl, ch, N', M', us, cl', t, r0, r1, rfl, D8, hTop.mem hokτ D3.vars, (hkok false r0 hr0).1, (hkok true r1 hr1).1, lv0, lv1, by omega, fun r N2 H9 K9 D9 p9 hl9 hr9 hev9 => ?_⟩
          obtain ⟨dx9, h19⟩ := D9.ob
          obtain ⟨cs, h7, h8, h9⟩ := D9.fch
          have T89 := D8.tup K9
          have hta9 : TkAt H9 ta τ := T89 _ _ (E38 _ _ hta)
          refine ⟨_, rfl, x, C, dx9, _, _, rfl, h19, W.cl, W.n_chosen, dfl_c _ _ _, _, rfl, ch, _, rfl, DPut.t (k := keyT τ) h7 hta9 (szM (by omega)), ?_⟩
          have hWL9 : H9 WL = some (.lst ((sa0 ++ [ta]).map V.ref)) := K9 _ _ (E38 _ _ hWL3) nWn nWp nWc
          have T10 : TupEx H9 (upd H9 ch (.dT (putK cs (keyT τ) (.int (r : Nat))))) := .put h7 fun _ z => nomatch z
          have T310 := (TupEx.of E38).trans (T89.trans T10)
          have e2 : M' τ = none := (kn_none hkn).2
          have hM2 : ∀ σ r', M' σ = some r' → putM M' τ r σ = some r' := fun σ r' e => by
            unfold putM
            by_cases z : σ = τ
            · rw [z, e2] at e; cases e
            · rw [if_neg z]; exact e
          have hKn2 : Kn (putM M' τ r) τ := by
            refine ⟨r, ?_⟩
            have : putM M' τ r τ = some r := by unfold putM; rw [if_pos rfl]
            rw [this]
            have hkn' := hkn
            unfold knB at hkn' ⊢
            by_cases z1 : τ.c = 1 ∨ τ.a = τ.b
            · rw [if_pos z1] at hkn'; cases hkn'
            · rw [if_neg z1] at hkn' ⊢
              by_cases z2 : τ.c = 0
              · rw [if_pos z2] at hkn'; cases hkn'
              · rw [if_neg z2] at hkn' ⊢
                by_cases z3 : (τ.a = 1 ∨ τ.a = τ.c) ∧ (τ.b = 0 ∨ τ.b = τ.c)
                · rw [if_pos z3] at hkn'; cases hkn'
                · rw [if_neg z3]
          obtain ⟨I', hs'⟩ := I3.done (M' := putM M' τ r) D3.vars hnk hTop p9 hM2 hKn2
          obtain ⟨na9, hn9, hA9⟩ := D9.nodes
          obtain ⟨es9, hp9, hP9, hPl9⟩ := D9.fpl
          have nxc : x ≠ ch := ne_of h19 h7 (fun z => nomatch z)
          have nnc : nl ≠ ch := ne_of hn9 h7 (fun z => nomatch z)
          refine ⟨((K3.more E38).trans K9).trans (.own (.inr (.inr rfl))), N2, putM M' τ r, cl' + 1, S0 ++ [τ], ws0 ++ [1], sa0 ++ [ta], _, _, _, _, _, _,
            ⟨⟨dx9, by rw [upd_ne nxc]; exact h19⟩, ⟨na9, by rw [upd_ne nnc]; exact hn9, hA9.imp fun _ _ z => T10 _ _ z⟩, ⟨es9, by rw [upd_ne D9.ne]; exact hp9, hP9, hPl9⟩, ⟨_, upd_same, h8.put τ r, Nat.le_trans (length_putK _ _ _) (Nat.succ_le_succ h9)⟩, D9.good, ?_, D9.vars, D9.ne⟩,
            p3.trans p9, I', by rw [upd_ne nWc]; exact hWL9, hA3.imp fun _ _ z => T310 _ _ z, by omega, by omega, by omega, T310 _ _ hgt3, rfl⟩
          intro σ r' e
          unfold putM at e
          by_cases z : σ = τ
          · rw [if_pos z] at e
            cases e
            subst z
            refine ⟨hokτ.pre p9, hr9, fun f => ?_⟩
            rw [hev9, pre_tF D3.good p9 hokτ, ← hev f]
          · rw [if_neg z] at e
            exact D9.mem σ r' e
    · have hsa : sa = [] := by
        cases sa with
        | nil => rfl
        | cons a l => exact absurd rfl c1
      subst hsa
      have hS : S = [] := List.eq_nil_of_length_eq_zero hA3.1.symm
      subst hS
      obtain ⟨r, hr⟩ := I3.goal.elim id fun z => nomatch z
      have hokg := hok.pre p3
      obtain ⟨k1, k2⟩ := kn_ok hokg (fun r' e' => (D3.mem _ r' e').2) r hr
      refine ⟨_, rfl, x, dx, _, rfl, h1, noK _ _ _, _, rfl, x, nl, pl, ch, N', M', us, cl', gt, goal, rfl, D3, hgt3, ?_⟩
      rw [hr]
      exact q r N' M' H3 K3 (D3.cl_le (by omega)) p3 (by omega) k1 fun f => by rw [k2, pre_tF D.good p3 hok]
end
end G
namespace G
open PySem PySem.Spec PyProof.Rows L2 Evl TL
/-! ## what a class's __init__ keeps: all but the new object -/
def ExB (x : Addr) (H H' : Hp) : Prop := ∀ b o, H b = some o → b ≠ x → H' b = some o
theorem ExB.of {x : Addr} {H H' : Hp} (e : Ex H H') : ExB x H H' := fun b o h _ => e b o h
theorem ExB.trans {x : Addr} {H H1 H2 : Hp} (a : ExB x H H1) (b : ExB x H1 H2) : ExB x H H2 := fun c o h n => b c o (a c o h n) n
theorem ExB.put {x : Addr} {H : Hp} {o : HO} : ExB x H (upd H x o) := fun b q h n => by rw [upd_ne n]; exact h
theorem ExB.made {x dx : Addr} {H H' : Hp} {o1 o2 : HO} (nx : H x = none) (nd : H dx = none) (e : ExB x (upd (upd H dx o1) x o2) H') : Ex H H' := fun b o h => by
  have h1 : b ≠ x := ne_of_none h nx
  have h2 : b ≠ dx := ne_of_none h nd
  exact e b o (by rw [upd_ne h1, upd_ne h2]; exact h) h1
theorem bmade_free {x dx L : Addr} {H : Hp} {o1 o2 : HO} (h : upd (upd H dx o1) x o2 L = none) : H L = none := by
  have h1 : L ≠ x := fun z => by rw [z, upd_same] at h; cases h
  rw [upd_ne h1] at h
  have h2 : L ≠ dx := fun z => by rw [z, upd_same] at h; cases h
  rw [upd_ne h2] at h; exact h
def N0 : List Nd := [⟨0, 0, 0⟩, ⟨0, 1, 1⟩]
theorem good0 : GoodN N0 := by
  have no : ∀ i n, 2 ≤ i → N0[i]? = some n → False := fun i n h e => by
    have := (List.getElem?_eq_some_iff.mp e).1
    have : i < 2 := this
    omega
  exact ⟨rfl, rfl, fun i n h e => (no i n h e).elim, fun i n h e => (no i n h e).elim, fun i j n h _ e => (no i n h e).elim⟩
section
variable {P : Program} {w : World} {K : PySem.W.Frag} {mg : Str → Option Value} {base : Heap} {C : Addr}
def spDInit (C : Addr) : Sp := fun vs H Q _ => ∃ (x dx : Addr), vs = [.ref x] ∧ H x = some (.ins C dx []) ∧ ∀ (nl pl ch : Addr) (H' : Hp), H nl = none → H pl = none → H ch = none → ExB x H H' → (∀ us, Dg C us 0 H' x nl pl ch N0 fun _ => none) → Q .non H'
theorem sc_Diagrams_init : FnScope ["self"] ["self"] (defScope s_Diagrams_init) := ⟨rfl, rfl, rfl, by decide +kernel, rfl, by decide +kernel, by decide +kernel⟩
theorem ok_Diagrams_init {f : Addr} {fd : FuncData} (F : Fun K "__init__" "Diagrams.__init__" s_Diagrams_init f fd) (W : Cl_Diagrams K mg C) (T : TxtG mg) : FnOk P w K mg base CX0 1 f fd ["self"] (spDInit C) := by
  obtain ⟨tT, g_TRUE⟩ := T.tT
  obtain ⟨tF, g_FALSE⟩ := T.fF
  refine F.ok sc_Diagrams_init (fun vs H Q E h => ?_) (fun cdv A outer s H vs Q E hr h => ?_)
  · obtain ⟨x, dx, rfl, _⟩ := h
    rfl
  · obtain ⟨x, dx, rfl, hx, q⟩ := h
    refine ⟨_, (pss_cons (ps_fld (pv 0) (pe_lst (pa_cons (pe_tup (pa_cons pe_int (pa_cons (gInt rfl g_FALSE) (pa_cons (gInt rfl g_FALSE) pa_nil)))) (pa_cons (pe_tup (pa_cons pe_int (pa_cons (gInt rfl g_TRUE) (pa_cons (gInt rfl g_TRUE) pa_nil)))) pa_nil))) rfl)
    (pss_cons (ps_fld (pv 0) pe_dnewT rfl)
    (pss_one (ps_fld (pv 0) pe_dnewT rfl)))), ?_⟩
    refine ⟨(by show 3 ≤ sizeLine; decide), fun t0 n0 => ⟨(by show 3 ≤ sizeLine; decide), fun t1 n1 => ⟨(by show 2 ≤ sizeLine; decide), fun nl nnl => ?_⟩⟩⟩
    have h0 : NdAt (upd H t0 (.tup [.int 0, .int 0, .int 0])) t0 ⟨0, 0, 0⟩ := upd_same
    have E0 : Ex H (upd H t0 (.tup [.int 0, .int 0, .int 0])) := Ex.new n0
    generalize upd H t0 (.tup [.int 0, .int 0, .int 0]) = H0 at *
    have h1 : NdAt (upd H0 t1 (.tup [.int 0, .int 1, .int 1])) t1 ⟨0, 1, 1⟩ := upd_same
    have E1 : Ex H0 (upd H0 t1 (.tup [.int 0, .int 1, .int 1])) := Ex.new n1
    generalize upd H0 t1 (.tup [.int 0, .int 1, .int 1]) = H1 at *
    have nn0 : H nl = none := fresh_back (E0.trans E1) nnl
    have E2 : Ex H1 (upd H1 nl (.lst [.ref t0, .ref t1])) := Ex.new nnl
    have hnl : upd H1 nl (.lst [.ref t0, .ref t1]) nl = some (.lst (([t0, t1] : List Addr).map V.ref)) := upd_same
    generalize upd H1 nl (.lst [.ref t0, .ref t1]) = H2 at *
    have E02 := E0.trans (E1.trans E2)
    have hA2 : All2 (NdAt H2) [t0, t1] N0 := .cons (E2 _ _ (E1 _ _ h0)) (.cons (E2 _ _ h1) .nil)
    have nxn : nl ≠ x := (ne_of_none hx nn0).symm
    refine ⟨_, rfl, x, C, dx, _, rfl, E02 _ _ hx, W.cl, W.n_nodes, (by show 0 < 1000; decide), ?_⟩
    have B3 : ExB x H (upd H2 x (.ins C dx (putF "_nodes" (.ref nl) []))) := (ExB.of E02).trans ExB.put
    have hx3 : upd H2 x (.ins C dx (putF "_nodes" (.ref nl) [])) x = some (.ins C dx (putF "_nodes" (.ref nl) [])) := upd_same
    have T3 : TupEx H2 (upd H2 x (.ins C dx (putF "_nodes" (.ref nl) []))) := .put (E02 _ _ hx) fun _ z => nomatch z
    have hnl3 : upd H2 x (.ins C dx (putF "_nodes" (.ref nl) [])) nl = some (.lst (([t0, t1] : List Addr).map V.ref)) := by rw [upd_ne nxn]; exact hnl
    have fr : ∀ b, upd H2 x (.ins C dx (putF "_nodes" (.ref nl) [])) b = none → H b = none := fun b z => by
      have hb : b ≠ x := fun y => by rw [y, upd_same] at z; cases z
      rw [upd_ne hb] at z
      exact fresh_back E02 z
    generalize upd H2 x (.ins C dx (putF "_nodes" (.ref nl) [])) = H3 at *
    refine fun pl npl => ?_
    have np0 := fr pl npl
    have E4 : Ex H3 (upd H3 pl (.dT [])) := Ex.new npl
    have hpl : upd H3 pl (.dT []) pl = some (.dT []) := upd_same
    generalize upd H3 pl (.dT []) = H4 at *
    have nxp : pl ≠ x := (ne_of_none hx np0).symm
    refine ⟨_, rfl, x, C, dx, _, rfl, E4 _ _ hx3, W.cl, W.n_places, (by show 1 < 1000; decide), ?_⟩
    have B5 : ExB x H3 (upd H4 x (.ins C dx (putF "_places" (.ref pl) (putF "_nodes" (.ref nl) [])))) := (ExB.of E4).trans ExB.put
    have hx5 : upd H4 x (.ins C dx (putF "_places" (.ref pl) (putF "_nodes" (.ref nl) []))) x = some (.ins C dx (putF "_places" (.ref pl) (putF "_nodes" (.ref nl) []))) := upd_same
    have T5 : TupEx H4 (upd H4 x (.ins C dx (putF "_places" (.ref pl) (putF "_nodes" (.ref nl) [])))) := .put (E4 _ _ hx3) fun _ z => nomatch z
    have hpl5 : upd H4 x (.ins C dx (putF "_places" (.ref pl) (putF "_nodes" (.ref nl) []))) pl = some (.dT []) := by rw [upd_ne nxp]; exact hpl
    have fr5 : ∀ b, upd H4 x (.ins C dx (putF "_places" (.ref pl) (putF "_nodes" (.ref nl) []))) b = none → H3 b = none := fun b z => by
      have hb : b ≠ x := fun y => by rw [y, upd_same] at z; cases z
      rw [upd_ne hb] at z
      exact fresh_back E4 z
    generalize upd H4 x (.ins C dx (putF "_places" (.ref pl) (putF "_nodes" (.ref nl) []))) = H5 at *
    refine fun ch nch => ?_
    have nc0 := fr ch (fr5 ch nch)
    have E6 : Ex H5 (upd H5 ch (.dT [])) := Ex.new nch
    have hch : upd H5 ch (.dT []) ch = some (.dT []) := upd_same
    have npc : pl ≠ ch := ne_of_none hpl5 nch
    generalize upd H5 ch (.dT []) = H6 at *
    have nxc : ch ≠ x := (ne_of_none hx nc0).symm
    refine ⟨_, rfl, x, C, dx, _, rfl, E6 _ _ hx5, W.cl, W.n_chosen, (by show 2 < 1000; decide), ?_⟩
    have B7 : ExB x H5 (upd H6 x (.ins C dx (dfl nl pl ch))) := (ExB.of E6).trans ExB.put
    have T7 : TupEx H6 (upd H6 x (.ins C dx (dfl nl pl ch))) := .put (E6 _ _ hx5) fun _ z => nomatch z
    have T27 : TupEx H2 (upd H6 x (.ins C dx (dfl nl pl ch))) := T3.trans ((TupEx.of E4).trans (T5.trans ((TupEx.of E6).trans T7)))
    refine q nl pl ch _ nn0 np0 nc0 (B3.trans (B5.trans B7)) fun us => ⟨⟨dx, upd_same⟩, ⟨[t0, t1], (B5.trans B7) _ _ hnl3 nxn, hA2.imp fun _ _ z => T27 _ _ z⟩, ⟨[], B7 _ _ hpl5 nxp, fun n => .inr ⟨fun i hi z => ?_, rfl⟩, Nat.zero_le _⟩, ⟨[], by rw [upd_ne nxc]; exact hch, fun _ => rfl, Nat.le_refl _⟩, good0, (fun _ _ z => nomatch z), fun i n hi z => ?_, npc⟩
    · have := (List.getElem?_eq_some_iff.mp z).1
      have : i < 2 := this
      omega
    · have := (List.getElem?_eq_some_iff.mp z).1
      have : i < 2 := this
      omega
def spVariable (C B : Addr) : Sp := fun vs H Q E => ∃ (x nl pl ch : Addr) (N : List Nd) (M : Tsk → Option Nat) (us : List Nat) (cl : Nat) (k : Int), vs = [.ref x, .int k] ∧ Dg C us cl H x nl pl ch N M ∧ N.length ≤ 9000000 ∧
  (∀ n : Nat, k = n → n ∈ us ∧ ∀ (r : Nat) (N' : List Nd) (H' : Hp), Kp nl pl ch H H' → Dg C us cl H' x nl pl ch N' M → N <+: N' → N'.length ≤ N.length + 1 → r < N'.length → (∀ f, ev N' r f = f n) → Q (.int (r : Nat)) H') ∧ (k < 0 → ∀ H', Ex H H' → E (.ref B) none H')
theorem sc_Diagrams_variable : FnScope ["self", "k"] ["self", "k"] (defScope s_Diagrams_variable) := ⟨rfl, rfl, rfl, by decide +kernel, rfl, by decide +kernel, by decide +kernel⟩
theorem ok_Diagrams_variable {B f2 : Addr} {d2 : FuncData} {f : Addr} {fd : FuncData} (F : Fun K "variable" "Diagrams.variable" s_Diagrams_variable f fd) (W : Cl_Diagrams K mg C) (T : TxtG mg) (UB : ExcT K mg "BadArgument" B)
    (M_Diagrams_node : Meth K C "_node" f2) (G_Diagrams_node : FnOk P w K mg base CX0 1 f2 d2 ["self", "k", "low", "high"] (spNode C)) (b_Diagrams_node : Binds K d2 ["self", "k", "low", "high"] []) : FnOk P w K mg base (L2.CX P w) 2 f fd ["self", "k"] (spVariable C B) := by
  have c_Diagrams := W.cl
  obtain ⟨tT, g_TRUE⟩ := T.tT
  obtain ⟨tF, g_FALSE⟩ := T.fF
  refine F.okX sc_Diagrams_variable (fun vs H Q E h => ?_) (fun cdv A outer s H vs Q E hr h => ?_)
  · obtain ⟨x, nl, pl, ch, N, M, us, cl, k, rfl, _⟩ := h
    rfl
  · obtain ⟨x, nl, pl, ch, N, M, us, cl, k, rfl, D, hn, q1, q2⟩ := h
    refine ⟨_, (pss_cons (ps_if (pt_cmpR op_lt (pv 1) pe_int (nomark _))
      (pss_one (ps_raise rfl (takes_of rfl rfl rfl rfl) (pmk_ownA PySem.F.excBase_ValueError UB.xP UB.gC UB.kC (raises_own UB.bC UB.tC) rfl (pa_cons pe_str pa_nil))))
      pss_nil)
    (pss_one (ps_ret (pe_meth (pv 0) c_Diagrams M_Diagrams_node G_Diagrams_node (hr.mono (by omega)) b_Diagrams_node .nil pass0 (pa_cons (pv 1) (pa_cons (gInt rfl g_FALSE) (pa_cons (gInt rfl g_TRUE) pa_nil))))))), ?_⟩
    obtain ⟨dx, h1⟩ := D.ob
    have two := D.good.two
    refine ⟨_, rfl, _, _, rfl, rfl, _, rfl, ite2 (fun c1 => ?_) (fun c1 => ?_)⟩
    · exact ⟨(by show 1 ≤ sizeLine; decide), q2 (of_decide_eq_true c1) H (.refl _)⟩
    · have hk : ¬ k < 0 := fun z => c1 (decide_eq_true z)
      obtain ⟨n, rfl⟩ : ∃ n : Nat, k = n := ⟨k.toNat, by omega⟩
      obtain ⟨hu, q⟩ := q1 n rfl
      refine ⟨_, rfl, x, dx, _, rfl, h1, dfl_no _ _ _ (by decide +kernel) (by decide +kernel) (by decide +kernel), _, rfl, x, nl, pl, ch, N, M, us, cl, n, 0, 1, rfl, D, hu, by omega, by omega, (fun _ h => absurd h (by decide)), (fun _ h => absurd h (by decide)), hn, fun r N' H' K' D' p hl hr hev => q r N' H' K' D' p hl hr fun f => ?_⟩
      rw [hev, ev_lt2 (a := 0) (by decide), ev_lt2 (a := 1) (by decide)]
      cases f n <;> rfl
def bitF (bs : List Bool) : Nat → Bool := fun k => bs.getD k false
def spValue (C : Addr) : Sp := fun vs H Q _ => ∃ (x nl pl ch : Addr) (N : List Nd) (M : Tsk → Option Nat) (us : List Nat) (cl a : Nat) (b : Addr) (bs : List Bool), vs = [.ref x, .int (a : Nat), .ref b] ∧ Dg C us cl H x nl pl ch N M ∧ a < N.length ∧ (H b = some (.lst (bs.map V.bl)) ∨ H b = some (.tup (bs.map V.bl))) ∧ (∀ u ∈ us, u < bs.length) ∧ Q (.bl (ev N a (bitF bs))) H
theorem sc_Diagrams_value : FnScope ["self", "a", "bits", "node"] ["self", "a", "bits"] (defScope s_Diagrams_value) := ⟨rfl, rfl, rfl, by decide +kernel, rfl, by decide +kernel, by decide +kernel⟩
theorem ok_Diagrams_value {f0 : Addr} {d0 : FuncData} {f : Addr} {fd : FuncData} (F : Fun K "value" "Diagrams.value" s_Diagrams_value f fd) (W : Cl_Diagrams K mg C) (T : TxtG mg)
    (M_Diagrams_half : Meth K C "_half" f0) (G_Diagrams_half : FnOk P w K mg base CX0 1 f0 d0 ["self", "a", "k", "value"] (spHalf C)) (b_Diagrams_half : Binds K d0 ["self", "a", "k", "value"] []) : FnOk P w K mg base CX0 2 f fd ["self", "a", "bits"] (spValue C) := by
  have c_Diagrams := W.cl
  obtain ⟨tT, g_TRUE⟩ := T.tT
  refine F.ok sc_Diagrams_value (fun vs H Q E h => ?_) (fun cdv A outer s H vs Q E hr h => ?_)
  · obtain ⟨x, nl, pl, ch, N, M, us, cl, a, b, bs, rfl, _⟩ := h
    rfl
  · obtain ⟨x, nl, pl, ch, N, M, us, cl, a, b, bs, rfl, D, ha, hb, hu, q⟩ := h
    refine ⟨_, (pss_cons (ps_set (i := 3) sc_Diagrams_value.nd rfl (.inl rfl) (pv 1))
    (pss_cons (ps_while PassesOwn.never (pt_cmpR op_gt (pv 3) (gInt rfl g_TRUE) (nomark _))
      (pss_one (ps_set (i := 3) sc_Diagrams_value.nd rfl (.inl rfl) (pe_meth (pv 0) c_Diagrams M_Diagrams_half G_Diagrams_half (hr.mono (by omega)) b_Diagrams_half .nil pass0 (pa_cons (pv 3) (pa_cons (pe_ix ix_tup (pe_ix ix_list (pe_fld (pv 0) rfl) (pv 3) (fun _ _ => rfl)) pe_int (fun _ _ => rfl)) (pa_cons (pe_ix ix_seq (pv 2) (pe_ix ix_tup (pe_ix ix_list (pe_fld (pv 0) rfl) (pv 3) (fun _ _ => rfl)) pe_int (fun _ _ => rfl)) (fun _ _ => rfl)) pa_nil)))))))
    (pss_one (ps_ret (pe_cmpR op_eq (pv 3) (gInt rfl g_TRUE) (nomark _)))))), ?_⟩
    obtain ⟨dx, h1⟩ := D.ob
    refine ⟨_, rfl, ?_⟩
    refine ⟨fun μ σ H' => H' = H ∧ μ < N.length ∧ ev N μ (bitF bs) = ev N a (bitF bs) ∧ σ = [some (.ref x), some (.int (a : Nat)), some (.ref b), some (.int (μ : Nat))], ⟨a, rfl, ha, rfl, rfl⟩, ?_⟩
    rintro μ σ H' ⟨rfl, hμ, hev, rfl⟩
    refine ⟨_, rfl, _, _, rfl, rfl, _, rfl, ite2 (fun c1 => ?_) (fun c1 => ?_)⟩
    · have h2 : 2 ≤ μ := by have := of_decide_eq_true c1; omega
      obtain ⟨na, c, hn, hc, hnd⟩ := D.nd hμ
      have hku := D.vars μ _ h2 (nd_at hμ)
      have hkl := hu _ hku
      have hlk : (bs.map V.bl)[(ndA N μ).k]? = some (.bl (bitF bs (ndA N μ).k)) := by
        unfold bitF
        rw [List.getElem?_map, List.getD_eq_getElem?_getD, List.getElem?_eq_getElem hkl]; rfl
      have go : ∀ R : VK, R (.bl (bitF bs (ndA N μ).k)) H' → rIx K (.ref b) (.int ((ndA N μ).k : Nat)) H' R := fun R r => hb.elim (fun z => .inl ⟨_, _, _, _, rfl, rfl, SqL.of z, at_of (j := (ndA N μ).k) rfl hlk, r⟩) fun z => .inr (.inl ⟨_, _, _, _, rfl, rfl, SqT.of z, at_of (j := (ndA N μ).k) rfl hlk, r⟩)
      refine ⟨fun σ' H2 => H2 = H' ∧ ∃ a', a' < μ ∧ ev N a' (bitF bs) = ev N a (bitF bs) ∧ σ' = [some (.ref x), some (.int (a : Nat)), some (.ref b), some (.int (a' : Nat))], ?_, ?_⟩
      · rintro σ' H2 ⟨rfl, a', b1, b2, rfl⟩
        exact ⟨a', b1, rfl, by omega, b2, rfl⟩
      refine ⟨_, rfl, x, dx, _, rfl, h1, dfl_no _ _ _ (by decide +kernel) (by decide +kernel) (by decide +kernel), _, rfl, _, rfl, x, C, dx, _, _, rfl, h1, W.cl, W.n_nodes, dfl_n _ _ _, _, rfl, _, _, _, _, rfl, rfl, SqL.of hn, at_of (j := μ) rfl hc, _, _, _, _, rfl, rfl, SqT.of hnd, atI_nat (j := 0) rfl, _, rfl, _, rfl, x, C, dx, _, _, rfl, h1, W.cl, W.n_nodes, dfl_n _ _ _, _, rfl, _, _, _, _, rfl, rfl, SqL.of hn, at_of (j := μ) rfl hc, _, _, _, _, rfl, rfl, SqT.of hnd, atI_nat (j := 0) rfl, go _ ?_⟩
      refine ⟨x, nl, pl, ch, N, M, us, cl, μ, (ndA N μ).k, bitF bs (ndA N μ).k, rfl, D, hμ, ?_⟩
      obtain ⟨l1, l2, _⟩ := D.good.lt μ _ h2 (nd_at hμ)
      have eh : halfA N μ (ndA N μ).k (bitF bs (ndA N μ).k) = if bitF bs (ndA N μ).k = true then (ndA N μ).hi else (ndA N μ).lo := by
        unfold halfA
        rw [if_neg fun z => z.elim (fun y => by omega) fun y => y rfl]
      refine ⟨rfl, _, ?_, ?_, rfl⟩
      · rw [eh]; split <;> assumption
      · rw [eh, ← ev_node D.good h2 (nd_at hμ)]; exact hev
    · have h2 : μ < 2 := by
        have : ¬ (μ : Int) > 1 := fun z => c1 (decide_eq_true z)
        omega
      refine ⟨_, rfl, rfl, ?_⟩
      have e : decide (V.int (μ : Nat) = V.int 1) = ev N a (bitF bs) := by
        rw [← hev, ev_lt2 h2, Bool.eq_iff_iff, decide_eq_true_iff, beq_iff_eq]
        exact ⟨fun z => by injection z; omega, fun z => by rw [z]; rfl⟩
      rw [e]
      exact q
end
end G
namespace G
open PySem PySem.Spec PyProof.Rows L2 Evl TL
section
variable {P : Program} {w : World} {K : PySem.W.Frag} {mg : Str → Option Value} {base : Heap} {C : Addr}
def spTwo (C : Addr) (g : Bool → Bool → Bool) : Sp := fun vs H Q _ => ∃ (x nl pl ch : Addr) (N : List Nd) (M : Tsk → Option Nat) (us : List Nat) (cl a b : Nat), vs = [.ref x, .int (a : Nat), .int (b : Nat)] ∧ Dg C us cl H x nl pl ch N M ∧ a < N.length ∧ b < N.length ∧ N.length + wT us.length ≤ 9000000 ∧ cl + wT us.length ≤ 9000000 ∧
  ∀ (r : Nat) (N' : List Nd) (M' : Tsk → Option Nat) (H' : Hp), Kp nl pl ch H H' → Dg C us (cl + wT us.length) H' x nl pl ch N' M' → N <+: N' → N'.length ≤ N.length + wT us.length → r < N'.length → (∀ f, ev N' r f = g (ev N a f) (ev N b f)) → Q (.int (r : Nat)) H'
def spNeg (C : Addr) : Sp := fun vs H Q _ => ∃ (x nl pl ch : Addr) (N : List Nd) (M : Tsk → Option Nat) (us : List Nat) (cl a : Nat), vs = [.ref x, .int (a : Nat)] ∧ Dg C us cl H x nl pl ch N M ∧ a < N.length ∧ N.length + wT us.length ≤ 9000000 ∧ cl + wT us.length ≤ 9000000 ∧
  ∀ (r : Nat) (N' : List Nd) (M' : Tsk → Option Nat) (H' : Hp), Kp nl pl ch H H' → Dg C us (cl + wT us.length) H' x nl pl ch N' M' → N <+: N' → N'.length ≤ N.length + wT us.length → r < N'.length → (∀ f, ev N' r f = !ev N a f) → Q (.int (r : Nat)) H'
theorem minN {a b : Nat} : (if (b : Int) < (a : Int) then (b : Int) else (a : Int)) = ((if b < a then b else a : Nat) : Int) := by
  by_cases h : b < a
  · rw [if_pos h, if_pos (by omega)]
  · rw [if_neg h, if_neg (by omega)]
theorem maxN {a b : Nat} : (if (b : Int) > (a : Int) then (b : Int) else (a : Int)) = ((if b > a then b else a : Nat) : Int) := by
  by_cases h : b > a
  · rw [if_pos h, if_pos (by omega)]
  · rw [if_neg h, if_neg (by omega)]
theorem sc_Diagrams_negate : FnScope ["self", "a"] ["self", "a"] (defScope s_Diagrams_negate) := ⟨rfl, rfl, rfl, by decide +kernel, rfl, by decide +kernel, by decide +kernel⟩
theorem ok_Diagrams_negate {f2 : Addr} {d2 : FuncData} {f : Addr} {fd : FuncData} (F : Fun K "negate" "Diagrams.negate" s_Diagrams_negate f fd) (W : Cl_Diagrams K mg C) (T : TxtG mg)
    (M_Diagrams_choose : Meth K C "choose" f2) (G_Diagrams_choose : FnOk P w K mg base CX0 2 f2 d2 ["self", "c", "a", "b"] (spChoose C)) (b_Diagrams_choose : Binds K d2 ["self", "c", "a", "b"] []) : FnOk P w K mg base CX0 3 f fd ["self", "a"] (spNeg C) := by
  have c_Diagrams := W.cl
  obtain ⟨tT, g_TRUE⟩ := T.tT
  obtain ⟨tF, g_FALSE⟩ := T.fF
  refine F.ok sc_Diagrams_negate (fun vs H Q E h => ?_) (fun cdv A outer s H vs Q E hr h => ?_)
  · obtain ⟨x, nl, pl, ch, N, M, us, cl, a, rfl, _⟩ := h
    rfl
  · obtain ⟨x, nl, pl, ch, N, M, us, cl, a, rfl, D, ha, hb1, hb2, q⟩ := h
    refine ⟨_, (pss_one (ps_ret (pe_meth (pv 0) c_Diagrams M_Diagrams_choose G_Diagrams_choose (hr.mono (by omega)) b_Diagrams_choose .nil pass0 (pa_cons (pv 1) (pa_cons (gInt rfl g_FALSE) (pa_cons (gInt rfl g_TRUE) pa_nil)))))), ?_⟩
    obtain ⟨dx, h1⟩ := D.ob
    have two := D.good.two
    refine ⟨_, rfl, x, dx, _, rfl, h1, dfl_no _ _ _ (by decide +kernel) (by decide +kernel) (by decide +kernel), _, rfl, x, nl, pl, ch, N, M, us, cl, ⟨a, 0, 1⟩, rfl, D, ⟨ha, by show 0 < _; omega, by show 1 < _; omega⟩, hb1, hb2, fun r N' M' H' K' D' p hl hr hev => q r N' M' H' K' D' p hl hr fun f => ?_⟩
    rw [hev]
    show (if ev N a f = true then ev N 0 f else ev N 1 f) = _
    rw [ev_lt2 (a := 0) (by decide), ev_lt2 (a := 1) (by decide)]
    cases ev N a f <;> rfl
theorem sc_Diagrams_both : FnScope ["self", "a", "b"] ["self", "a", "b"] (defScope s_Diagrams_both) := ⟨rfl, rfl, rfl, by decide +kernel, rfl, by decide +kernel, by decide +kernel⟩
theorem ok_Diagrams_both {f2 : Addr} {d2 : FuncData} {f : Addr} {fd : FuncData} (F : Fun K "both" "Diagrams.both" s_Diagrams_both f fd) (W : Cl_Diagrams K mg C) (T : TxtG mg) (Tx : mg "max" = none)
    (M_Diagrams_choose : Meth K C "choose" f2) (G_Diagrams_choose : FnOk P w K mg base CX0 2 f2 d2 ["self", "c", "a", "b"] (spChoose C)) (b_Diagrams_choose : Binds K d2 ["self", "c", "a", "b"] []) : FnOk P w K mg base CX0 3 f fd ["self", "a", "b"] (spTwo C (· && ·)) := by
  have c_Diagrams := W.cl
  obtain ⟨tF, g_FALSE⟩ := T.fF
  refine F.ok sc_Diagrams_both (fun vs H Q E h => ?_) (fun cdv A outer s H vs Q E hr h => ?_)
  · obtain ⟨x, nl, pl, ch, N, M, us, cl, a, b, rfl, _⟩ := h
    rfl
  · obtain ⟨x, nl, pl, ch, N, M, us, cl, a, b, rfl, D, ha, hb, hb1, hb2, q⟩ := h
    refine ⟨_, (pss_one (ps_ret (pe_meth (pv 0) c_Diagrams M_Diagrams_choose G_Diagrams_choose (hr.mono (by omega)) b_Diagrams_choose .nil pass0 (pa_cons (pe_callB (call_min2 rfl) (by rfl) T.min (by decide +kernel) (pa_cons (pv 1) (pa_cons (pv 2) pa_nil))) (pa_cons (pe_callB (call_max2 rfl) (by rfl) Tx (by decide +kernel) (pa_cons (pv 1) (pa_cons (pv 2) pa_nil))) (pa_cons (gInt rfl g_FALSE) pa_nil)))))), ?_⟩
    obtain ⟨dx, h1⟩ := D.ob
    have two := D.good.two
    refine ⟨_, rfl, x, dx, _, rfl, h1, dfl_no _ _ _ (by decide +kernel) (by decide +kernel) (by decide +kernel), _, rfl, _, rfl, _, _, rfl, _, rfl, _, rfl, _, _, rfl, ?_⟩
    rw [minN, maxN]
    refine ⟨x, nl, pl, ch, N, M, us, cl, ⟨if b < a then b else a, if b > a then b else a, 0⟩, rfl, D, ⟨by show (if b < a then b else a) < _; split <;> assumption, by show (if b > a then b else a) < _; split <;> assumption, by show 0 < _; omega⟩, hb1, hb2, fun r N' M' H' K' D' p hl hr hev => q r N' M' H' K' D' p hl hr fun f => ?_⟩
    rw [hev]
    show (if ev N (if b < a then b else a) f = true then ev N (if b > a then b else a) f else ev N 0 f) = _
    rw [ev_lt2 (a := 0) (by decide)]
    by_cases h : b < a
    · rw [if_pos h, if_neg (show ¬ b > a by omega)]
      cases ev N a f <;> cases ev N b f <;> rfl
    · by_cases h2 : b > a
      · rw [if_neg h, if_pos h2]
        cases ev N a f <;> cases ev N b f <;> rfl
      · obtain rfl : a = b := by omega
        rw [if_neg h]
        cases ev N a f <;> rfl
theorem sc_Diagrams_either : FnScope ["self", "a", "b"] ["self", "a", "b"] (defScope s_Diagrams_either) := ⟨rfl, rfl, rfl, by decide +kernel, rfl, by decide +kernel, by decide +kernel⟩
theorem ok_Diagrams_either {f2 : Addr} {d2 : FuncData} {f : Addr} {fd : FuncData} (F : Fun K "either" "Diagrams.either" s_Diagrams_either f fd) (W : Cl_Diagrams K mg C) (T : TxtG mg) (Tx : mg "max" = none)
    (M_Diagrams_choose : Meth K C "choose" f2) (G_Diagrams_choose : FnOk P w K mg base CX0 2 f2 d2 ["self", "c", "a", "b"] (spChoose C)) (b_Diagrams_choose : Binds K d2 ["self", "c", "a", "b"] []) : FnOk P w K mg base CX0 3 f fd ["self", "a", "b"] (spTwo C (· || ·)) := by
  have c_Diagrams := W.cl
  obtain ⟨tT, g_TRUE⟩ := T.tT
  refine F.ok sc_Diagrams_either (fun vs H Q E h => ?_) (fun cdv A outer s H vs Q E hr h => ?_)
  · obtain ⟨x, nl, pl, ch, N, M, us, cl, a, b, rfl, _⟩ := h
    rfl
  · obtain ⟨x, nl, pl, ch, N, M, us, cl, a, b, rfl, D, ha, hb, hb1, hb2, q⟩ := h
    refine ⟨_, (pss_one (ps_ret (pe_meth (pv 0) c_Diagrams M_Diagrams_choose G_Diagrams_choose (hr.mono (by omega)) b_Diagrams_choose .nil pass0 (pa_cons (pe_callB (call_min2 rfl) (by rfl) T.min (by decide +kernel) (pa_cons (pv 1) (pa_cons (pv 2) pa_nil))) (pa_cons (gInt rfl g_TRUE) (pa_cons (pe_callB (call_max2 rfl) (by rfl) Tx (by decide +kernel) (pa_cons (pv 1) (pa_cons (pv 2) pa_nil))) pa_nil)))))), ?_⟩
    obtain ⟨dx, h1⟩ := D.ob
    have two := D.good.two
    refine ⟨_, rfl, x, dx, _, rfl, h1, dfl_no _ _ _ (by decide +kernel) (by decide +kernel) (by decide +kernel), _, rfl, _, rfl, _, _, rfl, _, rfl, _, rfl, _, _, rfl, ?_⟩
    rw [minN, maxN]
    refine ⟨x, nl, pl, ch, N, M, us, cl, ⟨if b < a then b else a, 1, if b > a then b else a⟩, rfl, D, ⟨by show (if b < a then b else a) < _; split <;> assumption, by show 1 < _; omega, by show (if b > a then b else a) < _; split <;> assumption⟩, hb1, hb2, fun r N' M' H' K' D' p hl hr hev => q r N' M' H' K' D' p hl hr fun f => ?_⟩
    rw [hev]
    show (if ev N (if b < a then b else a) f = true then ev N 1 f else ev N (if b > a then b else a) f) = _
    rw [ev_lt2 (a := 1) (by decide)]
    by_cases h : b < a
    · rw [if_pos h, if_neg (show ¬ b > a by omega)]
      cases ev N a f <;> cases ev N b f <;> rfl
    · by_cases h2 : b > a
      · rw [if_neg h, if_pos h2]
        cases ev N a f <;> cases ev N b f <;> rfl
      · obtain rfl : a = b := by omega
        rw [if_neg h]
        cases ev N a f <;> rfl
end
end G
namespace G
open PySem PySem.Spec PyProof.Rows L2 Evl
section
open AutoSeq1 (wpAny_loadPart')
theorem ext_tup (l : Addr) (items : Array Value) (n : Nat) (b : Addr) (items2 : Array Value) (n2 : Nat) (dd : Option Addr) (sl : Array (Option Value)) (h0 : ¬(!items.isEmpty && Builtin.List.listTooLong (items.size + items2.size)) = true) (h1 : items.size ≤ sizeLine) (h2 : items.size + items2.size ≤ sizeLine + 1) :
    Meets (Builtin.«list.extend» ⟨[.ref l, .ref b], []⟩) (fun _ R s => s.heap.get? l = some { cls := .type "list", dict := none, data := .seq items n, slots := #[] } ∧ s.heap.get? b = some { cls := .type "tuple", dict := dd, data := .seq items2 n2, slots := sl } ∧ R (.ok (.ret Value.none)) { s with heap := s.heap.update l (Obj.mapSeq fun x => x ++ items2), toks := s.toks }) :=
  .of_wp fun prog w A R s h => by
    obtain ⟨hp, g, d, tk, os⟩ := s; obtain ⟨hl, hb, h⟩ := h; have f1 := AutoSeq1.idx_int; have f2 := AutoSeq1.sub_tuple_tuple; have f3 := AutoSeq1.sub_list_list; have f4 := AutoSeq1.sub_tuple_list; have f5 := AutoSeq1.sub_list_tuple
    have hz : (items ++ items2).size ≤ sizeLine + 1 := by rw [Array.size_append]; exact h2
    wp_walk using (wpAny_updateSeq hl rfl (hz := h1) (_hz' := hz)), wpAny_loadPart' hl, wpAny_loadPart' hb; exact ⟨_, rfl, h⟩
end
section
variable {X : Cx}
/-- list.extend by a tuple -/
def rExtT (K : PySem.W.Frag) : V → List V → Hp → VK → Prop := fun x vs H Q => ∃ l b xs zs, x = .ref l ∧ vs = [.ref b] ∧ H l = some (.lst xs) ∧ SqT K H b zs ∧ xs.length + zs.length ≤ sizeLine ∧ Q .non (upd H l (.lst (xs ++ zs)))
theorem mt_extT : MtM X "list.extend" (rExtT X.K) := by
  intro pins s σ H x vs v us Q I rx rv h
  obtain ⟨l, b, xs, zs, rfl, rfl, hH, hB, hz, q⟩ := h
  cases rx
  obtain ⟨u, rfl, ru⟩ := rv.one
  cases ru
  obtain ⟨z, its, n, r, hl, e⟩ := I.lstM hH
  obtain ⟨its2, r2, ⟨⟨oc, od, oda, os⟩, ho, hcl, n2, hda⟩, hz2⟩ := I.tuple hB
  simp only at hcl hda
  subst hcl; subst hda
  have l2 : its2.length = zs.length := r2.length.symm
  have hsz : its.toArray.size + its2.length ≤ sizeLine := by rw [List.size_toArray, l2, ← hl]; exact hz
  have hlong : ¬ (!its.toArray.isEmpty && Builtin.List.listTooLong (its.toArray.size + its2.toArray.size)) = true := by
    rw [List.size_toArray (as := its2), notLongL hsz, Bool.and_false]
    exact Bool.false_ne_true
  refine call_meets F.slot_list_extend ⟨_, e, rfl⟩ F.entry_list_extend (F.args_list_extend_2 _ _)
    (ext_tup l its.toArray n b its2.toArray n2 od os hlong (by omega) (by rw [List.size_toArray (as := its2)]; omega)) ⟨e, ho, ?_⟩
  refine ⟨.non, _, I.lset (its' := its ++ its2) hH e (by simp) (r.append r2) ?_, rfl, q⟩
  rw [List.length_append]
  rw [List.size_toArray] at hsz
  omega
end
end G
namespace XS
open PySem PySem.Spec PyProof.Rows L2
/-! set comprehensions of ints -/
def eI (w : World) : Obj := { cls := .type "set", dict := none, data := .set #[] 0 (.fresh 0 0 (!w.params.followText "set-order")) }
section
variable {X : Cx}
def tAddI (w : World) (D : Addr) (y : V) (H : Hp) (Nx : Hp → Prop) : Prop := ∃ (k : Int) (S : Int → Bool) (n : Nat), y = .int k ∧ H D = some (SetO w D S n) ∧ n + 1 < scanBound ∧ Nx (upd H D (SetO w D (fun j => S j || decide (j = k)) (if S k = true then n else n + 1)))
theorem addI_run {pins : List (Addr × Obj)} {σ : L2.St} {H : Hp} {s : Shared} {E : Value → Shared → Prop} {D : Addr} {y : V} {u : Value} {Nx : Hp → Prop} {Q : Value → Shared → Prop} (I : Inv X pins σ H s) (ry : RelV y u) (h : tAddI X.w D y H Nx)
    (hQ : ∀ r s' H', Inv X pins σ H' s' → Nx H' → Q r s') : wpAny (model X.prog X.w) X.A (call (.builtin "set.add") [.ref D, u]) Q E s := by
  obtain ⟨k, S, n, rfl, hD, few, nx⟩ := h
  obtain ⟨t, rfl⟩ := ry
  refine setR_add (setO_get I hD) few fun h' sb T => hQ _ _ _ (I.write (e := D) (t' := s.toks + 1) (by rw [hD]; trivial) (.inl rfl) (fun b u hb e => (sb.2 b hb).trans e) ?_ (setO_new T)) nx
  have ⟨o, _, _, _, ho, _⟩ := T
  exact ⟨o, ho⟩
/-- {v for target in iter if ..} of ints: D the new set -/
def tScI (w : World) (wi : TI) (g : TG) (tt : TT) (tv : TE) (vs : List Nat) : TE := fun σ H Q => wi σ H fun J H1 => ∀ D, H1 D = none → ∃ W : Nat → Nat → Hp → Prop, (∃ m, W 0 m (upd H1 D (SetO w D (fun _ => false) 0))) ∧ ∀ i m H, W i m H →
  (J.stop i H ∧ Q (.ref D) H) ∨ (J.go i H ∧ ∃ Nx : Hp → Prop, (∀ H', Nx H' → ∃ m', m' < m ∧ W (i + 1) m' H') ∧ ∀ x H', J.yld i H x H' → g x (wipe σ vs) H' fun σ2 H2 => wipe σ2 vs = wipe σ vs ∧ tt σ2 H2 fun b H3 =>
    if b = true then tv σ2 H3 fun y H4 => tAddI w D y H4 Nx else Nx H3)
theorem pe_scI {ev tg iter : Expr} {ifs : List Expr} {scope : Scope} {own : List (Str × Nat)} {pos : Pos} {wi : TI} {g : TG} {tt : TT} {tv : TE} (hc : X.calm = true) (hN : X.N.Nodup) (hi : PI X tg iter wi) (ok : BlkOk X.N X.env.scope scope own)
    (hg : ∀ (s : Shared) (H : Hp) (C : Addr) (cl : List (Str × Addr)) (fp : List Addr), PG (X.blk s H scope (compEnvC scope cl C X.env) fp) tg g) (ht : ∀ (s : Shared) (H : Hp) (C : Addr) (cl : List (Str × Addr)) (fp : List Addr), PTs (X.blk s H scope (compEnvC scope cl C X.env) fp) ifs tt)
    (he : ∀ (s : Shared) (H : Hp) (C : Addr) (cl : List (Str × Addr)) (fp : List Addr), PE (X.blk s H scope (compEnvC scope cl C X.env) fp) ev tv) (hs : ∀ x, foldedSetIterable iter X.env x = pure x := by intro _; rfl) :
    PE X (.SetComp ev [⟨tg, iter, ifs, 0⟩] scope pos) (tScI X.w wi g tt tv (own.map (·.2))) := by
  refine ⟨fun pins s σ H Q I h => ?_⟩
  rw [arm_eval_SetComp]
  have hfree : ∀ y ∈ scope.names, y.2 = .free → ∃ c, X.env.cells.lookup y.1 = some c := fun y hy e => (ok.free y hy e).elim (fun k => I.ok.has _ (.inl k)) fun k => I.ok.has _ (.inr k)
  refine wpAny_comprehension_free (use := none) rfl hs (closure_ok hfree) ok.kind (fun y hy e => by rw [ok.uniq y hy, e]) (thn (hi.run pins s σ H _ I h) fun xv s1 hx => thn hx fun itv s2 h2 => ?_)
  obtain ⟨it, fp, tn, J, H2, rfl, I2, T, st2, f2, q⟩ := h2
  refine wpAny_newSet_raw fun led hled => newEnv_comp ?_
  subst hled
  have hDn : H2 s2.heap.objs.size = none := I2.hok.fresh (Nat.le_refl _)
  obtain ⟨W, ⟨m0, w0⟩, turn⟩ := q s2.heap.objs.size hDn
  generalize hD : s2.heap.objs.size = D at *
  generalize hs3 : ({ s2 with heap := s2.heap.push { cls := .type "set", dict := none, data := .set #[] 0 (.fresh 0 0 (!(X.w.params.followText "set-order"))) } } : Shared) = s3
  have h3 : s3.heap = s2.heap.push (eI X.w) := by rw [← hs3]; rfl
  have oldk : ∀ b o, s2.heap.get? b = some o → s3.heap.get? b = some o := fun b o e => by rw [h3]; exact Heap.get?_push_of_some _ e
  have I3 : Inv X pins σ (upd H2 D (SetO X.w D (fun _ => false) 0)) s3 := by
    rw [← hs3]
    refine I2.laid (t' := s2.toks) (fun b o e => Heap.get?_push_of_some _ e) (Nat.le_of_eq hD) (setO_new ?_)
    rw [← hD]
    exact setR_fresh X.w
  have sz : ∀ b ∈ fp, b < s2.heap.objs.size := fun b hb => by
    obtain ⟨o, e, _⟩ := T.obj _ _ st2 b hb
    exact Heap.lt_size e
  generalize hH3 : upd H2 D (SetO X.w D (fun _ => false) 0) = H3 at I3 w0
  have f3 : ∀ b ∈ fp, FpOk X pins H3 b ∧ b < s3.heap.objs.size := fun b hb => by
    have lt := sz b hb
    refine ⟨⟨?_, (f2 b hb).2⟩, by rw [h3, Heap.size_push]; exact Nat.lt_succ_of_lt lt⟩
    rw [← hH3, upd_ne (by rw [← hD]; exact Nat.ne_of_lt lt)]
    exact (f2 b hb).1
  have st3 : tn 0 s3.heap := T.keep _ _ _ st2 fun b _ o e => oldk b o e
  have I4 := block_start I3 ok hN f3
  have pg := hg s3 H3 s3.heap.objs.size (cellsFrom (s3.heap.objs.size + 1) scope.names (cloFrom X.env.cells scope.names [])) fp
  have pt := ht s3 H3 s3.heap.objs.size (cellsFrom (s3.heap.objs.size + 1) scope.names (cloFrom X.env.cells scope.names [])) fp
  have pe := he s3 H3 s3.heap.objs.size (cellsFrom (s3.heap.objs.size + 1) scope.names (cloFrom X.env.cells scope.names [])) fp
  show codeAny _ _ (.compStart (.SetComp ev [⟨tg, iter, ifs, 0⟩] scope pos) 0 (.ref it) (.ref D) (compEnvC scope (cellsFrom (s3.heap.objs.size + 1) scope.names (cloFrom X.env.cells scope.names [])) s3.heap.objs.size X.env)) (compPost (model X.prog X.w) X.A X.xe none (EP X pins σ Q) (.ref D) s3.heap.objs.size) { s3 with heap := pushCells (s3.heap.push { cls := .type "dict", data := .dict #[] }) scope.names }
  have nfp : ∀ b ∈ fp, H3 b = none := fun b hb => (f3 b hb).1.1
  generalize hce : compEnvC scope (cellsFrom (s3.heap.objs.size + 1) scope.names (cloFrom X.env.cells scope.names [])) s3.heap.objs.size X.env = ce at I4 pg pt pe ⊢
  have cL : ce.locals = s3.heap.objs.size := by subst hce; rfl
  generalize hs4 : ({ s3 with heap := pushCells (s3.heap.push { cls := .type "dict", data := .dict #[] }) scope.names } : Shared) = s4 at I4 ⊢
  have st4 : tn 0 s4.heap := T.keep _ _ _ st3 fun b _ o e => by rw [← hs4]; exact pushCells_keeps _ _ _ _ (Heap.get?_push_of_some _ e)
  have stat : ∀ {σ' : L2.St} {H' : Hp} {s' : Shared}, Inv (X.blk s3 H3 scope ce fp) [] σ' H' s' → (∀ b ∈ fp, H' b = none) → ∀ b ∈ fp, FpOk (X.blk s3 H3 scope ce fp) [] H' b := fun {σ' H' s'} I' hn b hb =>
    ⟨hn b hb, (I'.ok.exf b hb).1, I'.ok.exfs b hb, .inl hb, fun x c e => (I'.ok.exf b hb).2 x c e, fun p hp => absurd (show p ∈ ([] : List (Addr × Obj)) ++ [] from hp) (by simp)⟩
  have loop : codeAny (model X.prog X.w) X.A (.compLoop (.SetComp ev [⟨tg, iter, ifs, 0⟩] scope pos) 0 (.ref it) (.ref D) ce) (compPost (model X.prog X.w) X.A X.xe none (EP X pins σ Q) (.ref D) s3.heap.objs.size) s4 := by
    refine compLoop_set_any (fun n s' => ∃ i H', Inv (X.blk s3 H3 scope ce fp) [] (wipe σ (own.map (·.2))) H' s' ∧ tn i s'.heap ∧ (∀ b ∈ fp, H' b = none) ∧ W i n H') ?_ m0 ⟨0, H3, I4, st4, nfp, w0⟩
    rintro n s5 ⟨i, H5, I5, st5, n5, w5⟩
    rcases turn i n H5 w5 with ⟨stop, qq⟩ | ⟨go, Nx, hNx, step⟩
    · refine thnF (T.done (X.blk s3 H3 scope ce fp) rfl rfl rfl hc i [] s5 _ H5 (fun _ _ => False) I5 (stat I5 n5) st5 stop) fun r s6 ⟨hr, I6⟩ => ?_
      subst hr
      have I7 : Inv X pins σ H5 s6 := I3.call' (ch := fp) I6.os I6.base I6.hok I6.bare fun b hb => ⟨(f3 b hb).1.2.2.2.1, (f3 b hb).1.2.1, (f3 b hb).1.2.2.2.2.1, (f3 b hb).1.2.2.2.2.2⟩
      have nC : H5 s3.heap.objs.size = none := by
        have z : H5 ce.locals = none := I6.free
        rw [cL] at z
        exact z
      obtain ⟨m, hn, _⟩ := I6.loc
      have hn : s6.heap.Ns ce.locals m := hn
      rw [cL] at hn
      obtain ⟨f0, f1, f2, f3, f4, f5⟩ := I3.fpOk (Nat.le_refl _) nC
      exact ⟨m, hn, fun h'' sb => ⟨.ref D, H5, I7.turned (t' := s6.toks) (fun b o hb e => (sb.2 b hb).trans e) f0 f1 f3 f4 f5, rfl, qq⟩⟩
    · refine thnF (T.item (X.blk s3 H3 scope ce fp) rfl rfl rfl hc i [] s5 _ H5 (fun _ _ => False) I5 (stat I5 n5) st5 go) fun r s6 ⟨u, hr, h6⟩ => ?_
      subst hr
      refine thnF h6 fun _ s7 ⟨x, H7, I7, r7, y7, st7, n7⟩ => ?_
      have I7' := I7.pinned (stat I7 n7) (T.obj _ _ st7)
      refine thnF (pg.run _ s7 _ H7 x u _ I7' r7 (step x H7 y7)) fun _ s8 ⟨σ8, H8, I8, hw8, q8⟩ => ?_
      refine thnF (pt.run _ s8 σ8 H8 _ I8 q8) fun b s9 ⟨H9, I9, q9⟩ => ?_
      have fin : ∀ {s' : Shared} {H' : Hp}, Inv (X.blk s3 H3 scope ce fp) ([] ++ pinsAt fp s7.heap) σ8 H' s' → Nx H' → ∃ m, m < n ∧ ∃ i H', Inv (X.blk s3 H3 scope ce fp) [] (wipe σ (own.map (·.2))) H' s' ∧ tn i s'.heap ∧ (∀ b ∈ fp, H' b = none) ∧ W i m H' := fun {s' H'} I' nx => by
        obtain ⟨m', hm, w'⟩ := hNx H' nx
        have pin' : ∀ b ∈ fp, ∀ o, s7.heap.get? b = some o → s'.heap.get? b = some o ∧ H' b = none := fun b hb o e =>
          let z := I'.pin (b, o) (List.mem_append_right _ (List.mem_append_right _ (mem_pinsAt hb e)))
          ⟨z.1, z.2.1⟩
        refine ⟨m', hm, i + 1, H', (I'.unpinned (pins := [])).weak (by rw [← hw8, wipe_length]) (fun j v e => ?_), T.keep _ _ _ st7 fun b hb o e => (pin' b hb o e).1, fun b hb => ?_, w'⟩
        · rw [← hw8] at e
          exact (wipe_some e).1
        · obtain ⟨o, e, _⟩ := T.obj _ _ st7 b hb
          exact (pin' b hb o e).2
      cases b with
      | false =>
        simp only [Bool.false_eq_true, if_false] at q9 ⊢
        exact fin I9 q9
      | true =>
        simp only [if_true] at q9 ⊢
        refine thnF (pe.run _ s9 σ8 H9 _ I9 q9) fun z s10 ⟨y, H10, I10, r10, q10⟩ => ?_
        exact addI_run (X := X.blk s3 H3 scope ce fp) I10 r10 q10 fun r s11 H11 I11 nx => fin I11 nx
  exact codeAny_compStart_set loop (T.self X.A 0 _ _ _ st4 loop)
end
end XS
namespace G
/-! ## the nodes under a reference -/
def pathL (N : List Nd) : Nat → Nat → List Nat
  | 0, _ => []
  | r + 1, a => if a < 2 then [] else a :: (pathL N r (ndA N a).lo ++ pathL N r (ndA N a).hi)
theorem pathL_len (N : List Nd) : ∀ r a, (pathL N r a).length + 1 ≤ 2 ^ r
  | 0, _ => Nat.le_refl _
  | r + 1, a => by
    show (if a < 2 then [] else _ : List Nat).length + 1 ≤ _
    have h0 : 0 < 2 ^ r := Nat.pow_pos (by decide)
    rw [Nat.pow_succ]
    split
    · show 0 + 1 ≤ _; omega
    · have h1 := pathL_len N r (ndA N a).lo
      have h2 := pathL_len N r (ndA N a).hi
      rw [List.length_cons, List.length_append]; omega
/-- small, or in the list -/
def In2 (l : List Nat) (c : Nat) : Prop := c < 2 ∨ c ∈ l
theorem pathL_self (N : List Nd) {r a : Nat} (h : 0 < r) : In2 (pathL N r a) a := by
  obtain ⟨r, rfl⟩ : ∃ s, r = s + 1 := ⟨r - 1, by omega⟩
  by_cases ha : a < 2
  · exact .inl ha
  · refine .inr ?_
    show a ∈ (if a < 2 then [] else _ : List Nat)
    rw [if_neg ha]; exact List.mem_cons_self
theorem pathL_shut {N : List Nd} (G : GoodN N) {vs : List Nat} (hV : VarsIn vs N) : ∀ r t a, a < N.length → lvGe N t a → cntV vs t ≤ r →
    ∀ b ∈ pathL N r a, 2 ≤ b ∧ b < N.length ∧ In2 (pathL N r a) (ndA N b).lo ∧ In2 (pathL N r a) (ndA N b).hi
  | 0, _, _, _, _, _, b, hb => nomatch hb
  | r + 1, t, a, ha, hl, hc, b, hb => by
    have hb : b ∈ (if a < 2 then [] else a :: (pathL N r (ndA N a).lo ++ pathL N r (ndA N a).hi) : List Nat) := hb
    show _ ∧ _ ∧ In2 (if a < 2 then [] else a :: (pathL N r (ndA N a).lo ++ pathL N r (ndA N a).hi)) _ ∧ In2 (if a < 2 then [] else a :: (pathL N r (ndA N a).lo ++ pathL N r (ndA N a).hi)) _
    by_cases h2 : a < 2
    · rw [if_pos h2] at hb; cases hb
    rw [if_neg h2] at hb ⊢
    have hn := nd_at ha
    have hk : (ndA N a).k ∈ vs := hV a _ (by omega) hn
    have ht : t ≤ (ndA N a).k := hl _ (by omega) hn
    have hcn := cnt_next hk ht
    have kid : ∀ c, (c = (ndA N a).lo ∨ c = (ndA N a).hi) → (∀ b ∈ pathL N r c, 2 ≤ b ∧ b < N.length ∧ In2 (pathL N r c) (ndA N b).lo ∧ In2 (pathL N r c) (ndA N b).hi) ∧ In2 (pathL N r c) c := fun c hc' => by
      obtain ⟨l1, l2⟩ := kid_lv G (by omega) hn hc'
      refine ⟨pathL_shut G hV r _ c l1 l2 (by omega), ?_⟩
      by_cases c2 : c < 2
      · exact .inl c2
      · have hn2 := nd_at l1
        have hk2 : (ndA N c).k ∈ vs := hV c _ (by omega) hn2
        have ht2 : (ndA N a).k + 1 ≤ (ndA N c).k := l2 _ (by omega) hn2
        have := cnt_next hk2 ht2
        exact pathL_self N (by omega)
    have lo := kid _ (.inl rfl)
    have hi := kid _ (.inr rfl)
    have upL : ∀ {c}, In2 (pathL N r (ndA N a).lo) c → In2 (a :: (pathL N r (ndA N a).lo ++ pathL N r (ndA N a).hi)) c := fun h => h.imp id fun z => List.mem_cons_of_mem _ (List.mem_append_left _ z)
    have upH : ∀ {c}, In2 (pathL N r (ndA N a).hi) c → In2 (a :: (pathL N r (ndA N a).lo ++ pathL N r (ndA N a).hi)) c := fun h => h.imp id fun z => List.mem_cons_of_mem _ (List.mem_append_right _ z)
    rcases List.mem_cons.mp hb with z | z
    · subst z
      exact ⟨by omega, ha, upL lo.2, upH hi.2⟩
    · rcases List.mem_append.mp z with z | z
      · obtain ⟨q1, q2, q3, q4⟩ := lo.1 b z
        exact ⟨q1, q2, upL q3, upL q4⟩
      · obtain ⟨q1, q2, q3, q4⟩ := hi.1 b z
        exact ⟨q1, q2, upH q3, upH q4⟩
theorem nat_sub : ∀ {l ks : List Nat}, l.Nodup → (∀ x ∈ l, x ∈ ks) → l.length ≤ ks.length
  | [], _, _, _ => Nat.zero_le _
  | x :: l, ks, d, m => by
    obtain ⟨d1, d2⟩ := List.nodup_cons.mp d
    have hx := m x List.mem_cons_self
    have h := nat_sub d2 (fun y hy => (List.mem_erase_of_ne fun e : y = x => d1 (e ▸ hy)).mpr (m y (List.mem_cons_of_mem _ hy)))
    rw [List.length_erase_of_mem hx] at h
    have := List.length_pos_of_mem hx
    rw [List.length_cons]; omega
/-- what `_below` returns for a -/
structure Below (N : List Nd) (vs : List Nat) (a : Nat) (bl : List Nat) : Prop where
  up : bl.Pairwise (· < ·)
  top : In2 bl a
  shut : ∀ b ∈ bl, 2 ≤ b ∧ b < N.length ∧ In2 bl (ndA N b).lo ∧ In2 bl (ndA N b).hi
  path : ∀ b ∈ bl, b ∈ pathL N vs.length a
  few : bl.length + 1 ≤ 2 ^ vs.length
end G
namespace G
open PySem PySem.Spec PyProof.Rows L2 Evl TL
structure TxtB (mg : Str → Option Value) : Prop where
  set : mg "set" = none
  sorted : mg "sorted" = none
section
variable {P : Program} {w : World} {K : PySem.W.Frag} {mg : Str → Option Value} {base : Heap} {C : Addr}
def spLevel (C : Addr) : Sp := fun vs H Q _ => ∃ (x nl pl ch : Addr) (N : List Nd) (M : Tsk → Option Nat) (us : List Nat) (cl a many : Nat), vs = [.ref x, .int (a : Nat), .int (many : Nat)] ∧ Dg C us cl H x nl pl ch N M ∧ a < N.length ∧ Q (.int (((if a < 2 then many else (ndA N a).k) : Nat) : Int)) H
theorem sc_Diagrams_level : FnScope ["self", "a", "many"] ["self", "a", "many"] (defScope s_Diagrams_level) := ⟨rfl, rfl, rfl, by decide +kernel, rfl, by decide +kernel, by decide +kernel⟩
theorem ok_Diagrams_level {f : Addr} {fd : FuncData} (F : Fun K "_level" "Diagrams._level" s_Diagrams_level f fd) (W : Cl_Diagrams K mg C) (T : TxtG mg) : FnOk P w K mg base CX0 1 f fd ["self", "a", "many"] (spLevel C) := by
  have c_Diagrams := W.cl
  obtain ⟨tT, g_TRUE⟩ := T.tT
  refine F.ok sc_Diagrams_level (fun vs H Q E h => ?_) (fun cdv A outer s H vs Q E hr h => ?_)
  · obtain ⟨x, nl, pl, ch, N, M, us, cl, a, many, rfl, _⟩ := h
    rfl
  · obtain ⟨x, nl, pl, ch, N, M, us, cl, a, many, rfl, D, ha, q⟩ := h
    refine ⟨_, (pss_one (ps_ret (pe_ifExp (pt_cmpR op_le (pv 1) (gInt rfl g_TRUE) (nomark _)) (pv 2) (pe_ix ix_tup (pe_ix ix_list (pe_fld (pv 0) rfl) (pv 1) (fun _ _ => rfl)) pe_int (fun _ _ => rfl))))), ?_⟩
    obtain ⟨dx, h1⟩ := D.ob
    refine ⟨_, rfl, _, _, rfl, rfl, _, rfl, ite2 (fun c1 => ?_) (fun c1 => ?_)⟩
    · have h2 : a < 2 := by have := of_decide_eq_true c1; omega
      rw [if_pos h2] at q
      exact ⟨_, rfl, q⟩
    · have h2 : ¬ a < 2 := fun z => c1 (decide_eq_true (by omega))
      rw [if_neg h2] at q
      obtain ⟨na, c, hn, hc, hnd⟩ := D.nd ha
      exact ⟨_, rfl, x, C, dx, _, _, rfl, h1, W.cl, W.n_nodes, dfl_n _ _ _, _, rfl, _, _, _, _, rfl, rfl, SqL.of hn, at_of (j := a) rfl hc, _, _, _, _, rfl, rfl, SqT.of hnd, atI_nat (j := 0) rfl, q⟩
theorem lt97 {w B m : Nat} (h1 : B < 32) (h2 : w + 1 + 3 * (32 - B) = m) : w + 2 + 3 * (32 - (B + 1)) < m := by omega
/-- small, found, or waiting -/
def In3 (fl ws : List Nat) (c : Nat) : Prop := c < 2 ∨ c ∈ fl ∨ c ∈ ws
def spBelow (C : Addr) : Sp := fun vs H Q _ => ∃ (x nl pl ch : Addr) (N : List Nd) (M : Tsk → Option Nat) (us : List Nat) (cl a : Nat), vs = [.ref x, .int (a : Nat)] ∧ Dg C us cl H x nl pl ch N M ∧ a < N.length ∧ us.length ≤ 5 ∧ 0 < us.length ∧
  ∀ (p : Addr) (bl : List Nat) (H' : Hp), Ex H H' → H p = none → H' p = some (.lst (nV bl)) → Below N us a bl → Q (.ref p) H'
theorem sc_Diagrams_below : FnScope ["self", "a", "found", "waiting", "node"] ["self", "a"] (defScope s_Diagrams_below) := ⟨rfl, rfl, rfl, by decide +kernel, rfl, by decide +kernel, by decide +kernel⟩
theorem ok_Diagrams_below {f : Addr} {fd : FuncData} (F : Fun K "_below" "Diagrams._below" s_Diagrams_below f fd) (W : Cl_Diagrams K mg C) (TG : TxtG mg) (T : TxtB mg) : FnOk P w K mg base CX0 1 f fd ["self", "a"] (spBelow C) := by
  have c_Diagrams := W.cl
  obtain ⟨tT, g_TRUE⟩ := TG.tT
  refine F.ok sc_Diagrams_below (fun vs H Q E h => ?_) (fun cdv A outer s H vs Q E hr h => ?_)
  · obtain ⟨x, nl, pl, ch, N, M, us, cl, a, rfl, _⟩ := h
    rfl
  · obtain ⟨x, nl, pl, ch, N, M, us, cl, a, rfl, D, ha, hu5, hu0, q⟩ := h
    refine ⟨_, (pss_cons (ps_set (i := 2) sc_Diagrams_below.nd rfl (.inl rfl) (pe_callTy0 cr_set0 (by rfl) T.set (by decide +kernel)))
    (pss_cons (ps_set (i := 3) sc_Diagrams_below.nd rfl (.inl rfl) (pe_lst (pa_cons (pv 1) pa_nil)))
    (pss_cons (ps_while PassesOwn.never (pt_truth (pv 3) (by intro _; rfl))
      (pss_cons (ps_set (i := 4) sc_Diagrams_below.nd rfl (.inl rfl) (pe_bm0 PySem.F.plainAttrs_list PySem.F.slot_list_pop PySem.F.type_list_pop mt_pop (pv 3)))
      (pss_one (ps_if (PW.pt (pw_and (pt_cmpR op_gt (pv 4) (gInt rfl g_TRUE) (nomark _)) (pw_and1 (pt_cmpR or_snotin (pv 4) (pv 2) (by rfl)))))
        (pss_cons (ps_expr (pe_sadd (pv 2) (pa_cons (pv 4) pa_nil)))
        (pss_one (ps_expr (pe_bm PySem.F.plainAttrs_list PySem.F.slot_list_extend PySem.F.type_list_extend mt_extT (pv 3) (pa_cons (pe_slice sl_tupA (pe_ix ix_list (pe_fld (pv 0) rfl) (pv 4) (fun _ _ => rfl)) (po_some pe_int) po_none) pa_nil)))))
        pss_nil))))
    (pss_one (ps_ret (pe_callB (cr_sortedSet rfl) (by rfl) T.sorted (by decide +kernel) (pa_cons (pv 2) pa_nil))))))), ?_⟩
    obtain ⟨dx, h1⟩ := D.ob
    have hPl : (pathL N us.length a).length < 32 := by
      have h1 := pathL_len N us.length a
      have h2 : 2 ^ us.length ≤ 2 ^ 5 := Nat.pow_le_pow_right (by decide) hu5
      have h3 : (2 : Nat) ^ 5 = 32 := rfl
      omega
    have hsh := pathL_shut D.good D.vars us.length 0 a ha (fun m _ _ => Nat.zero_le _) (cnt_le us 0)
    refine ⟨rfl, fun S nS => ⟨_, rfl, (by show 1 ≤ sizeLine; decide), fun WL nW => ?_⟩⟩
    have nW0 : H WL = none := fresh_back (Ex.new nS) nW
    have nSW : S ≠ WL := ne_of_none upd_same nW
    have ES : Ex H (upd (upd H S (SetO w S (fun _ => false) 0)) WL (.lst [.int (a : Nat)])) := (Ex.new nS).trans (Ex.new nW)
    refine ⟨fun μ σ H' => Ex H H' ∧ ∃ (fl ws : List Nat) (Sf : Int → Bool) (n : Nat) (y4 : Option V), H' S = some (SetO w S Sf n) ∧ (∀ j : Int, Sf j = true ↔ ∃ m ∈ fl, j = ((m : Nat) : Int)) ∧ n = fl.length ∧ H' WL = some (.lst (nV ws)) ∧ fl.Nodup ∧ (∀ b ∈ fl, b ∈ pathL N us.length a) ∧ (∀ c ∈ ws, In2 (pathL N us.length a) c) ∧
        (∀ b ∈ fl, In3 fl ws (ndA N b).lo ∧ In3 fl ws (ndA N b).hi) ∧ In3 fl ws a ∧ ws.length + 3 * (32 - fl.length) = μ ∧ μ ≤ 97 ∧ σ = [some (.ref x), some (.int (a : Nat)), some (.ref S), some (.ref WL), y4],
      ⟨97, ES, [], [a], _, 0, _, (upd_ne nSW).trans upd_same, (fun j => ⟨fun z => (nomatch z), fun ⟨_, h, _⟩ => (nomatch h)⟩), rfl, upd_same, List.nodup_nil, (fun _ h => nomatch h), (fun c hc => by rw [List.mem_singleton.mp hc]; exact pathL_self N hu0), (fun _ h => nomatch h), .inr (.inr (List.mem_singleton.mpr rfl)), rfl, Nat.le_refl _, rfl⟩, ?_⟩
    rintro μ σ H2 ⟨E2, fl, ws, Sf, n, y4, hS, hSf, hn, hWL, nd, hfl, hws, hcl, hia, hμ, hμ97, rfl⟩
    have hflen : fl.length < 32 := Nat.lt_of_le_of_lt (nat_sub nd hfl) hPl
    refine ⟨_, rfl, !(nV ws).isEmpty, .inl ⟨_, SqL.of hWL, rfl⟩, ite2 (fun c1 => ?_) (fun c1 => ?_)⟩
    · obtain ⟨ws', c, rfl⟩ : ∃ ws' c, ws = ws' ++ [c] := by
        rcases List.eq_nil_or_concat ws with rfl | ⟨l, b, rfl⟩
        · cases c1
        · exact ⟨l, b, List.concat_eq_append⟩
      have hmu : ws'.length + 1 + 3 * (32 - fl.length) = μ := by rw [← hμ, List.length_append]; rfl
      have hc2 := hws c (List.mem_append_right _ (List.mem_singleton.mpr rfl))
      have hws' : ∀ d ∈ ws', In2 (pathL N us.length a) d := fun d h => hws d (List.mem_append_left _ h)
      refine ⟨fun σ' H' => Ex H H' ∧ ∃ (fl ws : List Nat) (Sf : Int → Bool) (n : Nat) (y4 : Option V), H' S = some (SetO w S Sf n) ∧ (∀ j : Int, Sf j = true ↔ ∃ m ∈ fl, j = ((m : Nat) : Int)) ∧ n = fl.length ∧ H' WL = some (.lst (nV ws)) ∧ fl.Nodup ∧ (∀ b ∈ fl, b ∈ pathL N us.length a) ∧ (∀ c ∈ ws, In2 (pathL N us.length a) c) ∧
        (∀ b ∈ fl, In3 fl ws (ndA N b).lo ∧ In3 fl ws (ndA N b).hi) ∧ In3 fl ws a ∧ ws.length + 3 * (32 - fl.length) < μ ∧ σ' = [some (.ref x), some (.int (a : Nat)), some (.ref S), some (.ref WL), y4], ?_, ?_⟩
      · rintro σ' H' ⟨b1, fl, ws, Sf, n, y, b2, b3, b4, b5, b6, b7, b8, b9, b10, b11, b12⟩
        exact ⟨_, b11, b1, fl, ws, Sf, n, y, b2, b3, b4, b5, b6, b7, b8, b9, b10, rfl, by omega, b12⟩
      have lastc : (nV (ws' ++ [c]))[(nV (ws' ++ [c])).length - 1]? = some (.int ((c : Nat) : Int)) ∧ (nV (ws' ++ [c])).dropLast = nV ws' := by
        rw [nV_snoc]; simp
      refine ⟨_, rfl, .inl ⟨rfl, _, SqL.of hWL⟩, WL, _, _, rfl, rfl, hWL, lastc.1, ?_⟩
      rw [lastc.2]
      have E3 : Ex H (upd H2 WL (.lst (nV ws'))) := E2.mut nW0
      have hW3 : upd H2 WL (.lst (nV ws')) WL = some (.lst (nV ws')) := upd_same
      have hS3 : upd H2 WL (.lst (nV ws')) S = some (SetO w S Sf n) := (upd_ne nSW).trans hS
      generalize upd H2 WL (.lst (nV ws')) = H3 at *
      have drop3 : ∀ d, (c < 2 ∨ c ∈ fl) → In3 fl (ws' ++ [c]) d → In3 fl ws' d := fun d hc h => by
        rcases h with z | z | z
        · exact .inl z
        · exact .inr (.inl z)
        · rcases List.mem_append.mp z with z | z
          · exact .inr (.inr z)
          · rw [List.mem_singleton.mp z]; exact hc.imp id .inl
      have skip : (c < 2 ∨ c ∈ fl) → Ex H H3 ∧ ∃ (fl ws : List Nat) (Sf : Int → Bool) (n : Nat) (y4 : Option V), H3 S = some (SetO w S Sf n) ∧ (∀ j : Int, Sf j = true ↔ ∃ m ∈ fl, j = ((m : Nat) : Int)) ∧ n = fl.length ∧ H3 WL = some (.lst (nV ws)) ∧ fl.Nodup ∧ (∀ b ∈ fl, b ∈ pathL N us.length a) ∧ (∀ c ∈ ws, In2 (pathL N us.length a) c) ∧
        (∀ b ∈ fl, In3 fl ws (ndA N b).lo ∧ In3 fl ws (ndA N b).hi) ∧ In3 fl ws a ∧ ws.length + 3 * (32 - fl.length) < μ ∧ [some (V.ref x), some (.int (a : Nat)), some (.ref S), some (.ref WL), some (.int (c : Nat))] = [some (.ref x), some (.int (a : Nat)), some (.ref S), some (.ref WL), y4] := fun hc =>
        ⟨E3, fl, ws', Sf, n, _, hS3, hSf, hn, hW3, nd, hfl, hws', (fun b hb => ⟨drop3 _ hc (hcl b hb).1, drop3 _ hc (hcl b hb).2⟩), drop3 _ hc hia, by omega, rfl⟩
      refine ⟨_, rfl, _, _, rfl, rfl, _, rfl, ite2 (fun c2 => ?_) (fun c2 => ?_)⟩
      · have h2 : 2 ≤ c := by have := of_decide_eq_true c2; omega
        refine ⟨_, rfl, _, rfl, _, S, Sf, n, rfl, rfl, hS3, _, rfl, ite2 (fun c3 => ?_) (fun c3 => ?_)⟩
        · have hno : c ∉ fl := fun z => by
            have : Sf ((c : Nat) : Int) = true := (hSf _).mpr ⟨c, z, rfl⟩
            rw [this] at c3; cases c3
          have hSk : Sf ((c : Nat) : Int) = false := by
            cases e : Sf ((c : Nat) : Int) with
            | false => rfl
            | true =>
              obtain ⟨m, hm, e2⟩ := (hSf _).mp e
              exact absurd (by rw [show c = m by omega]; exact hm) hno
          have hcp : c ∈ pathL N us.length a := hc2.elim (fun z => absurd z (by omega)) id
          obtain ⟨q1, q2, q3, q4⟩ := hsh c hcp
          obtain ⟨na, b, hnl, hb, hnd⟩ := D.nd q2
          refine ⟨_, rfl, ⟨S, Sf, n, rfl, hS3⟩, _, rfl, S, _, Sf, n, rfl, rfl, hS3, by unfold scanBound; omega, ?_⟩
          rw [if_neg (by rw [hSk]; decide)]
          have E4 : Ex H (upd H3 S (SetO w S (fun j => Sf j || decide (j = ((c : Nat) : Int))) (n + 1))) := E3.mut nS
          have hW4 : upd H3 S (SetO w S (fun j => Sf j || decide (j = ((c : Nat) : Int))) (n + 1)) WL = some (.lst (nV ws')) := (upd_ne nSW.symm).trans hW3
          refine ⟨_, rfl, .inl ⟨rfl, _, SqL.of hW4⟩, _, rfl, x, C, dx, _, _, rfl, E4 _ _ h1, W.cl, W.n_nodes, dfl_n _ _ _, _, rfl, _, _, _, _, rfl, rfl, SqL.of (E4 _ _ hnl), at_of (j := c) rfl hb, _, rfl, b, _, rfl, SqT.of (E4 _ _ hnd), fun z => ?_, fun _ p np => ?_⟩
          · have := z.1
            unfold HT.sIx at this
            simp at this
          have ecut : cutV [V.int ((ndA N c).k : Nat), .int ((ndA N c).lo : Nat), .int ((ndA N c).hi : Nat)] (some 1) none = nV [(ndA N c).lo, (ndA N c).hi] := by
            unfold cutV HT.sIx; rfl
          refine ⟨WL, p, _, _, rfl, rfl, (Ex.new np) _ _ hW4, SqT.of upd_same, ?_, ?_⟩
          · rw [nV_len, ecut, nV_len]
            exact sz_of (by show ws'.length + 2 ≤ _; omega)
          · rw [ecut]
            have enV : nV ws' ++ nV [(ndA N c).lo, (ndA N c).hi] = nV (ws' ++ [(ndA N c).lo, (ndA N c).hi]) := by unfold nV; rw [List.map_append, List.map_append]
            rw [enV]
            have hup : ∀ d, In3 fl (ws' ++ [c]) d → In3 (c :: fl) (ws' ++ [(ndA N c).lo, (ndA N c).hi]) d := fun d h => by
              rcases h with z | z | z
              · exact .inl z
              · exact .inr (.inl (List.mem_cons_of_mem _ z))
              · rcases List.mem_append.mp z with z | z
                · exact .inr (.inr (List.mem_append_left _ z))
                · rw [List.mem_singleton.mp z]; exact .inr (.inl List.mem_cons_self)
            refine ⟨(E4.trans (Ex.new np)).mut nW0, c :: fl, ws' ++ [(ndA N c).lo, (ndA N c).hi], _, n + 1, _, (upd_ne nSW).trans ((Ex.new np) _ _ upd_same), fun j => ?_, by rw [hn]; rfl, upd_same, List.nodup_cons.mpr ⟨hno, nd⟩, fun b hb => ?_, fun d hd => ?_, fun b hb => ?_, hup _ hia, ?_, rfl⟩
            · rw [Bool.or_eq_true, decide_eq_true_eq, hSf j]
              constructor
              · rintro (⟨m, h1, h2⟩ | h)
                · exact ⟨m, List.mem_cons_of_mem _ h1, h2⟩
                · exact ⟨c, List.mem_cons_self, h⟩
              · rintro ⟨m, h1, h2⟩
                rcases List.mem_cons.mp h1 with z | z
                · rw [z] at h2; exact .inr h2
                · exact .inl ⟨m, z, h2⟩
            · rcases List.mem_cons.mp hb with z | z
              · rw [z]; exact hcp
              · exact hfl b z
            · rcases List.mem_append.mp hd with z | z
              · exact hws' d z
              · simp only [List.mem_cons, List.not_mem_nil, or_false] at z
                rcases z with z | z <;> rw [z]
                · exact q3
                · exact q4
            · rcases List.mem_cons.mp hb with z | z
              · rw [z]
                exact ⟨.inr (.inr (List.mem_append_right _ (by simp))), .inr (.inr (List.mem_append_right _ (by simp)))⟩
              · exact ⟨hup _ (hcl b z).1, hup _ (hcl b z).2⟩
            · rw [List.length_append, List.length_cons]
              exact lt97 hflen hmu
        · refine skip (.inr ?_)
          have e : Sf ((c : Nat) : Int) = true := by
            cases e : Sf ((c : Nat) : Int) with
            | true => rfl
            | false => rw [e] at c3; exact absurd rfl c3
          obtain ⟨m, hm, e2⟩ := (hSf _).mp e
          rw [show c = m by omega]; exact hm
      · exact iteF (skip (.inl (by
          have : ¬ ((c : Nat) : Int) > 1 := fun z => c2 (decide_eq_true z)
          omega)))
    · have e0 : ws = [] := by
        cases ws with
        | nil => rfl
        | cons x l => exact absurd rfl c1
      subst e0
      have in2 : ∀ {d}, In3 fl [] d → In2 fl d := fun h => h.imp id fun z => z.elim id fun y => nomatch y
      refine ⟨_, rfl, S, Sf, n, rfl, hS, by omega, fun ns p hps hm hl np => ?_⟩
      have hnat : ∀ k ∈ ns, ((k.toNat : Nat) : Int) = k := fun k hk => by
        obtain ⟨m, _, e⟩ := (hSf k).mp ((hm k).mp hk)
        rw [e, Int.toNat_natCast]
      have env : ns.map V.int = nV (ns.map Int.toNat) := by
        unfold nV
        rw [List.map_map, List.map_map]
        refine List.map_congr_left fun k hk => ?_
        show V.int k = V.int ((k.toNat : Nat) : Int)
        rw [hnat k hk]
      rw [env]
      have hmem : ∀ b, b ∈ ns.map Int.toNat ↔ b ∈ fl := fun b => by
        rw [List.mem_map]
        constructor
        · rintro ⟨k, hk, rfl⟩
          obtain ⟨m, h1, e⟩ := (hSf k).mp ((hm k).mp hk)
          rw [e, Int.toNat_natCast]; exact h1
        · intro h
          exact ⟨((b : Nat) : Int), (hm _).mpr ((hSf _).mpr ⟨b, h, rfl⟩), Int.toNat_natCast _⟩
      have in2' : ∀ {d}, In2 fl d → In2 (ns.map Int.toNat) d := fun h => h.imp id fun z => (hmem _).mpr z
      refine q p (ns.map Int.toNat) _ (E2.trans (Ex.new np)) (fresh_back E2 np) upd_same ⟨?_, in2' (in2 hia), fun b hb => ?_, fun b hb => hfl b ((hmem b).mp hb), ?_⟩
      · rw [List.pairwise_map]
        refine List.Pairwise.imp_of_mem (fun {x y} hx hy h => ?_) hps
        have := hnat x hx
        have := hnat y hy
        omega
      · have hb' := (hmem b).mp hb
        obtain ⟨q1, q2, _, _⟩ := hsh b (hfl b hb')
        exact ⟨q1, q2, in2' (in2 (hcl b hb').1), in2' (in2 (hcl b hb').2)⟩
      · rw [List.length_map, hl, hn]
        have h1 := nat_sub nd hfl
        have h2 := pathL_len N us.length a
        omega
end
end G
namespace G
open PySem PySem.Spec PyProof.Rows L2 Evl TL
section
variable {P : Program} {w : World} {K : PySem.W.Frag} {mg : Str → Option Value} {base : Heap} {C : Addr}
def spSupport (C : Addr) : Sp := fun vs H Q _ => ∃ (x nl pl ch : Addr) (N : List Nd) (M : Tsk → Option Nat) (us : List Nat) (cl a : Nat), vs = [.ref x, .int (a : Nat)] ∧ Dg C us cl H x nl pl ch N M ∧ a < N.length ∧ us.length ≤ 5 ∧ 0 < us.length ∧
  ∀ (p : Addr) (ks bl : List Nat) (H' : Hp), Ex H H' → H p = none → H' p = some (.lst (nV ks)) → ks.Pairwise (· < ·) → Below N us a bl → (∀ k, k ∈ ks ↔ ∃ b ∈ bl, (ndA N b).k = k) → Q (.ref p) H'
theorem sc_Diagrams_support : FnScope ["self", "a", "node"] ["self", "a"] (defScope s_Diagrams_support) := ⟨rfl, rfl, rfl, by decide +kernel, rfl, by decide +kernel, by decide +kernel⟩
theorem ok_Diagrams_support {f0 : Addr} {d0 : FuncData} {f : Addr} {fd : FuncData} (F : Fun K "support" "Diagrams.support" s_Diagrams_support f fd) (W : Cl_Diagrams K mg C) (T : TxtB mg)
    (M_Diagrams_below : Meth K C "_below" f0) (G_Diagrams_below : FnOk P w K mg base CX0 1 f0 d0 ["self", "a"] (spBelow C)) (b_Diagrams_below : Binds K d0 ["self", "a"] []) : FnOk P w K mg base CX0 2 f fd ["self", "a"] (spSupport C) := by
  have c_Diagrams := W.cl
  refine F.ok sc_Diagrams_support (fun vs H Q E h => ?_) (fun cdv A outer s H vs Q E hr h => ?_)
  · obtain ⟨x, nl, pl, ch, N, M, us, cl, a, rfl, _⟩ := h
    rfl
  · obtain ⟨x, nl, pl, ch, N, M, us, cl, a, rfl, D, ha, hu5, hu0, q⟩ := h
    refine ⟨_, (pss_one (ps_ret (pe_callB (cr_sortedSet rfl) (by rfl) T.sorted (by decide +kernel) (pa_cons (XS.pe_scI (own := [("node", 2)]) (g := gName 2) (tt := tYes) rfl sc_Diagrams_support.nd (pi_list (pe_meth (pv 0) c_Diagrams M_Diagrams_below G_Diagrams_below (hr.mono (by omega)) b_Diagrams_below .nil pass0 (pa_cons (pv 1) pa_nil))) (blkOk_by (N := ["self", "a", "node"]) (sc := defScope s_Diagrams_support) (own := [("node", 2)]) (by decide +kernel)) (fun _ _ _ _ _ => (pg_name (i := 2) sc_Diagrams_support.nd rfl (.inl rfl))) (fun _ _ _ _ _ => pts_nil) (fun _ _ _ _ _ => (pe_ix (kIxT (K := K) rfl) (pe_ix (kIxL (K := K) rfl) (kFld (K := K) rfl (pv 0) rfl) (pv 2) (fun _ _ => rfl)) pe_int (fun _ _ => rfl)))) pa_nil)))), ?_⟩
    obtain ⟨dx, h1⟩ := D.ob
    have n1 : (dfl nl pl ch).lookup ("_below" : Str) = none := dfl_no _ _ _ (by decide +kernel) (by decide +kernel) (by decide +kernel)
    refine ⟨_, rfl, x, dx, _, rfl, h1, n1, _, rfl, x, nl, pl, ch, N, M, us, cl, a, rfl, D, ha, hu5, hu0, fun L bl H1 E1 nL hL hB => ⟨_, rfl, ⟨_, SqL.of hL⟩, fun S nS => ?_⟩⟩
    have hbl : bl.length < 32 := by
      have h1 := hB.few
      have h2 : 2 ^ us.length ≤ 2 ^ 5 := Nat.pow_le_pow_right (by decide) hu5
      have h3 : (2 : Nat) ^ 5 = 32 := rfl
      omega
    refine wk_list (K := K) (a := L) (xs := nV bl) (fun j H' => Ex H1 H' ∧ ∃ (Sf : Int → Bool) (n : Nat), H' S = some (SetO w S Sf n) ∧ n ≤ j ∧ ∀ i : Int, Sf i = true ↔ ∃ b ∈ bl.take j, (((ndA N b).k : Nat) : Int) = i)
      ⟨Ex.new nS, _, 0, upd_same, Nat.le_refl _, fun i => ⟨fun z => (nomatch z), fun ⟨b, hb, _⟩ => by rw [List.take_zero] at hb; cases hb⟩⟩ (fun j H' _ g => SqL.of (g.1 _ _ hL)) ?_ ?_
    · rintro j z H2 hz ⟨E2, Sf, n, hS, hn, hSf⟩
      obtain ⟨b, hb, rfl⟩ := nV_get hz
      obtain ⟨b2, b1, _, _⟩ := hB.shut b (List.mem_of_getElem? hb)
      obtain ⟨na, c, hnl, hc, hnd⟩ := D.nd b1
      have E02 := E1.trans E2
      have hj : j < bl.length := (List.getElem?_eq_some_iff.mp hb).1
      refine ⟨rfl, tYes_in ⟨_, rfl, x, C, dx, _, _, rfl, E02 _ _ h1, W.cl, W.n_nodes, dfl_n _ _ _, _, rfl, _, _, _, _, rfl, rfl, SqL.of (E02 _ _ hnl), at_of (j := b) rfl hc, _, _, _, _, rfl, rfl, SqT.of (E02 _ _ hnd), atI_nat (j := 0) rfl, _, Sf, n, rfl, hS, by unfold scanBound; omega, E2.mut nS, _, _, upd_same, by split <;> omega, fun i => ?_⟩⟩
      rw [Bool.or_eq_true, decide_eq_true_eq, hSf i, take_snoc1 hb]
      constructor
      · rintro (⟨m, h1, h2⟩ | h)
        · exact ⟨m, List.mem_append_left _ h1, h2⟩
        · exact ⟨b, List.mem_append_right _ (List.mem_singleton.mpr rfl), h.symm⟩
      · rintro ⟨m, h1, h2⟩
        rcases List.mem_append.mp h1 with z | z
        · exact .inl ⟨m, z, h2⟩
        · rw [List.mem_singleton.mp z] at h2; exact .inr h2.symm
    · rintro H2 ⟨E2, Sf, n, hS, hn, hSf⟩
      rw [nV_len, List.take_length] at hSf
      rw [nV_len] at hn
      refine ⟨S, Sf, n, rfl, hS, by omega, fun ns p hps hm hl np => ?_⟩
      have hnat : ∀ k ∈ ns, ((k.toNat : Nat) : Int) = k := fun k hk => by
        obtain ⟨m, _, e⟩ := (hSf k).mp ((hm k).mp hk)
        rw [← e, Int.toNat_natCast]
      have env : ns.map V.int = nV (ns.map Int.toNat) := by
        unfold nV
        rw [List.map_map, List.map_map]
        refine List.map_congr_left fun k hk => ?_
        show V.int k = V.int ((k.toNat : Nat) : Int)
        rw [hnat k hk]
      rw [env]
      refine q p (ns.map Int.toNat) bl _ ((E1.trans E2).trans (Ex.new np)) (fresh_back (E1.trans E2) np) upd_same ?_ hB fun k => ?_
      · rw [List.pairwise_map]
        refine List.Pairwise.imp_of_mem (fun {x y} hx hy h => ?_) hps
        have := hnat x hx
        have := hnat y hy
        omega
      · rw [List.mem_map]
        constructor
        · rintro ⟨i, hi, rfl⟩
          obtain ⟨m, h1, e⟩ := (hSf i).mp ((hm i).mp hi)
          exact ⟨m, h1, by rw [← e, Int.toNat_natCast]⟩
        · rintro ⟨b, hb, e⟩
          exact ⟨((k : Nat) : Int), (hm _).mpr ((hSf _).mpr ⟨b, hb, by rw [e]⟩), Int.toNat_natCast _⟩
end
end G
namespace G
open PySem PySem.Spec PyProof.Rows L2 Evl TL
/-- the walk of `least` from a node with the bits so far -/
inductive LeastR (N : List Nd) : Nat → List Bool → List Bool → Prop where
  | done (bits : List Bool) : LeastR N 1 bits bits
  | step {a : Nat} {bits out : List Bool} (h2 : 2 ≤ a) (ha : a < N.length) (r : LeastR N (if (ndA N a).lo = 0 then (ndA N a).hi else (ndA N a).lo) (bits.set (ndA N a).k (decide ((ndA N a).lo = 0))) out) : LeastR N a bits out
structure TxtQ (mg : Str → Option Value) : Prop where
  tuple : mg "tuple" = none
section
variable {P : Program} {w : World} {K : PySem.W.Frag} {mg : Str → Option Value} {base : Heap} {C : Addr}
def spLeast (C : Addr) : Sp := fun vs H Q _ => ∃ (x nl pl ch : Addr) (N : List Nd) (M : Tsk → Option Nat) (us : List Nat) (cl a many : Nat), vs = [.ref x, .int (a : Nat), .int (many : Nat)] ∧ Dg C us cl H x nl pl ch N M ∧ a < N.length ∧ many ≤ 1000 ∧ (∀ u ∈ us, u < many) ∧
  (a = 0 → Q .non H) ∧ ∀ (p : Addr) (out : List Bool) (H' : Hp), a ≠ 0 → Ex H H' → H p = none → H' p = some (.tup (out.map V.bl)) → out.length = many → LeastR N a (List.replicate many false) out → Q (.ref p) H'
theorem sc_Diagrams_least : FnScope ["self", "a", "many", "bits", "node", "k", "low", "high"] ["self", "a", "many"] (defScope s_Diagrams_least) := ⟨rfl, rfl, rfl, by decide +kernel, rfl, by decide +kernel, by decide +kernel⟩
theorem ok_Diagrams_least {f : Addr} {fd : FuncData} (F : Fun K "least" "Diagrams.least" s_Diagrams_least f fd) (W : Cl_Diagrams K mg C) (T : TxtG mg) (TQ : TxtQ mg) : FnOk P w K mg base CX0 1 f fd ["self", "a", "many"] (spLeast C) := by
  have c_Diagrams := W.cl
  obtain ⟨tT, g_TRUE⟩ := T.tT
  obtain ⟨tF, g_FALSE⟩ := T.fF
  refine F.ok sc_Diagrams_least (fun vs H Q E h => ?_) (fun cdv A outer s H vs Q E hr h => ?_)
  · obtain ⟨x, nl, pl, ch, N, M, us, cl, a, many, rfl, _⟩ := h
    rfl
  · obtain ⟨x, nl, pl, ch, N, M, us, cl, a, many, rfl, D, ha, hm, hu, q0, q⟩ := h
    refine ⟨_, (pss_cons (ps_if (pt_cmpR op_eq (pv 1) (gInt rfl g_FALSE) (nomark _))
      (pss_one (ps_ret pe_non))
      pss_nil)
    (pss_cons (ps_set (i := 3) sc_Diagrams_least.nd rfl (.inl rfl) (pe_op op_rep (pe_lst (pa_cons pe_bl pa_nil)) (pv 2)))
    (pss_cons (ps_set (i := 4) sc_Diagrams_least.nd rfl (.inl rfl) (pv 1))
    (pss_cons (ps_while PassesOwn.never (pt_cmpR op_ne (pv 4) (gInt rfl g_TRUE) (nomark _))
      (pss_cons (ps_asg (pe_ix ix_list (pe_fld (pv 0) rfl) (pv 4) (fun _ _ => rfl)) (pg_tup rfl (pgs_cons (pg_name (i := 5) sc_Diagrams_least.nd rfl (.inl rfl)) (pgs_cons (pg_name (i := 6) sc_Diagrams_least.nd rfl (.inl rfl)) (pgs_cons (pg_name (i := 7) sc_Diagrams_least.nd rfl (.inl rfl)) pgs_nil)))))
      (pss_cons (ps_asg (pe_cmpR op_eq (pv 6) (gInt rfl g_FALSE) (nomark _)) (pg_sub (pv 3) (pv 5) set_list))
      (pss_one (ps_set (i := 4) sc_Diagrams_least.nd rfl (.inl rfl) (pe_ifExp (pt_cmpR op_eq (pv 6) (gInt rfl g_FALSE) (nomark _)) (pv 7) (pv 6)))))))
    (pss_one (ps_ret (pe_callTy call_tuple_of (by rfl) TQ.tuple (by decide +kernel) (pa_cons (pv 3) pa_nil)))))))), ?_⟩
    obtain ⟨dx, h1⟩ := D.ob
    refine ⟨_, rfl, rfl, _, rfl, ite2 (fun c1 => ?_) (fun c1 => ?_)⟩
    · refine q0 ?_
      have := V.int.inj (of_decide_eq_true c1)
      omega
    have a0 : a ≠ 0 := fun z => c1 (decide_eq_true (by rw [z]; rfl))
    refine ⟨(by show 1 ≤ sizeLine; decide), fun l nl0 => ?_⟩
    have E1 : Ex H (upd H l (.lst [.bl false])) := Ex.new nl0
    have hl1 : upd H l (.lst [.bl false]) l = some (.lst [.bl false]) := upd_same
    generalize upd H l (.lst [.bl false]) = H1 at *
    refine ⟨_, rfl, l, (many : Nat), _, rfl, rfl, hl1, by omega, by omega, sz_of (by rw [List.length_singleton, Int.toNat_natCast]; omega), fun BL nBL => ?_⟩
    have erep : (List.replicate ((many : Nat) : Int).toNat [V.bl false]).flatten = (List.replicate many false).map V.bl := by
      rw [Int.toNat_natCast, List.map_replicate]
      clear q hm hu
      induction many with
      | zero => rfl
      | succ m ih => rw [List.replicate_succ, List.replicate_succ, List.flatten_cons, ih]; rfl
    rw [erep]
    have nB0 : H BL = none := fresh_back E1 nBL
    have E2 : Ex H (upd H1 BL (.lst ((List.replicate many false).map V.bl))) := E1.trans (Ex.new nBL)
    refine ⟨_, rfl, fun μ σ H' => Ex H H' ∧ ∃ (bits : List Bool) (y5 y6 y7 : Option V), μ < N.length ∧ μ ≠ 0 ∧ H' BL = some (.lst (bits.map V.bl)) ∧ bits.length = many ∧ (∀ out, LeastR N μ bits out → LeastR N a (List.replicate many false) out) ∧ σ = [some (.ref x), some (.int (a : Nat)), some (.int (many : Nat)), some (.ref BL), some (.int (μ : Nat)), y5, y6, y7],
      ⟨a, E2, _, _, _, _, ha, a0, upd_same, by rw [List.length_replicate], (fun _ r => r), rfl⟩, ?_⟩
    rintro μ σ H2 ⟨E3, bits, y5, y6, y7, hμ, hμ0, hB, hbl, hR, rfl⟩
    refine ⟨_, rfl, rfl, _, rfl, ite2 (fun c2 => ?_) (fun c2 => ?_)⟩
    · have h2 : 2 ≤ μ := by
        have : μ ≠ 1 := fun z => by rw [z] at c2; simp at c2
        omega
      obtain ⟨na, b, hn, hb, hnd⟩ := D.nd hμ
      obtain ⟨l1, l2, l3⟩ := D.good.lt μ _ h2 (nd_at hμ)
      have hk := hu _ (D.vars μ _ h2 (nd_at hμ))
      refine ⟨fun σ' H' => Ex H H' ∧ ∃ (nx : Nat) (bits : List Bool) (y5 y6 y7 : Option V), nx < μ ∧ nx < N.length ∧ nx ≠ 0 ∧ H' BL = some (.lst (bits.map V.bl)) ∧ bits.length = many ∧ (∀ out, LeastR N nx bits out → LeastR N a (List.replicate many false) out) ∧ σ' = [some (.ref x), some (.int (a : Nat)), some (.int (many : Nat)), some (.ref BL), some (.int (nx : Nat)), y5, y6, y7], fun σ' H' ⟨b1, nx, bits, y5, y6, y7, b2, b3, b4, b5, b6, b7, b8⟩ => ⟨nx, b2, b1, bits, y5, y6, y7, b3, b4, b5, b6, b7, b8⟩, ?_⟩
      refine ⟨_, rfl, x, C, dx, _, _, rfl, E3 _ _ h1, W.cl, W.n_nodes, dfl_n _ _ _, _, rfl, _, _, _, _, rfl, rfl, SqL.of (E3 _ _ hn), at_of (j := μ) rfl hb, b, _, rfl, SqT.of (E3 _ _ hnd), rfl, _, _, rfl, _, _, rfl, _, _, rfl, rfl, ?_⟩
      have ev0 : decide (V.int ((ndA N μ).lo : Nat) = V.int 0) = decide ((ndA N μ).lo = 0) := by
        by_cases z : (ndA N μ).lo = 0
        · rw [decide_eq_true z, z]; rfl
        · rw [decide_eq_false z, decide_eq_false fun y => z (by have := V.int.inj y; omega)]
      have hset : (bits.map V.bl).set (ndA N μ).k (.bl (decide (V.int ((ndA N μ).lo : Nat) = V.int 0))) = (bits.set (ndA N μ).k (decide ((ndA N μ).lo = 0))).map V.bl := by
        rw [ev0, List.map_set]
      have E4 : Ex H (upd H2 BL (.lst ((bits.map V.bl).set (ndA N μ).k (.bl (decide (V.int ((ndA N μ).lo : Nat) = V.int 0)))))) := E3.mut nB0
      have hR' : ∀ nx, nx = (if (ndA N μ).lo = 0 then (ndA N μ).hi else (ndA N μ).lo) → ∀ out, LeastR N nx (bits.set (ndA N μ).k (decide ((ndA N μ).lo = 0))) out → LeastR N a (List.replicate many false) out := fun nx e out r => hR out (.step h2 hμ (e ▸ r))
      refine ⟨_, rfl, rfl, _, rfl, _, rfl, BL, _, _, (ndA N μ).k, rfl, rfl, hB, by rw [List.length_map, hbl]; exact ixN_nat hk, ?_⟩
      refine ⟨_, rfl, rfl, _, rfl, ite2 (fun c3 => ?_) (fun c3 => ?_)⟩
      · have z : (ndA N μ).lo = 0 := by rw [ev0] at c3; exact of_decide_eq_true c3
        exact ⟨_, rfl, E4, (ndA N μ).hi, _, _, _, _, l2, by omega, by omega, by rw [upd_same, hset], by rw [List.length_set]; exact hbl, hR' _ (by rw [if_pos z]), rfl⟩
      · have z : (ndA N μ).lo ≠ 0 := fun y => c3 (by rw [ev0, decide_eq_true y])
        exact ⟨_, rfl, E4, (ndA N μ).lo, _, _, _, _, l1, by omega, z, by rw [upd_same, hset], by rw [List.length_set]; exact hbl, hR' _ (by rw [if_neg z]), rfl⟩
    · have e1 : μ = 1 := by
        have h : ¬ (!decide (V.int (μ : Nat) = V.int 1)) = true := c2
        simp at h
        omega
      subst e1
      refine ⟨_, rfl, BL, _, rfl, .inl ⟨SqL.of hB, fun p np => q p bits _ a0 (E3.trans (Ex.new np)) (fresh_back E3 np) upd_same hbl (hR _ (.done _))⟩⟩
end
end G
namespace G
/-! ## the number of true rows, by the levels -/
def levN (N : List Nd) (many a : Nat) : Nat := if a < 2 then many else (ndA N a).k
def cnF (N : List Nd) (many : Nat) : Nat → Nat → Nat
  | 0, a => a
  | n + 1, a => if a < 2 then a else cnF N many n (ndA N a).lo * 2 ^ (levN N many (ndA N a).lo - (ndA N a).k - 1) + cnF N many n (ndA N a).hi * 2 ^ (levN N many (ndA N a).hi - (ndA N a).k - 1)
def cn (N : List Nd) (many a : Nat) : Nat := cnF N many a a
theorem cnF_enough {N : List Nd} (G : GoodN N) (many : Nat) : ∀ n m a, a ≤ n → a ≤ m → a < N.length → cnF N many n a = cnF N many m a
  | 0, 0, _, _, _, _ => rfl
  | 0, m + 1, a, h, _, _ => by
    show a = if a < 2 then a else _
    rw [if_pos (by omega)]
  | n + 1, 0, a, _, h, _ => by
    show (if a < 2 then a else _) = a
    rw [if_pos (by omega)]
  | n + 1, m + 1, a, h1, h2, hl => by
    show (if a < 2 then a else _) = if a < 2 then a else _
    by_cases h : a < 2
    · rw [if_pos h, if_pos h]
    · rw [if_neg h, if_neg h]
      obtain ⟨l1, l2, _⟩ := G.lt a _ (by omega) (nd_at hl)
      rw [cnF_enough G many n m (ndA N a).lo (by omega) (by omega) (by omega), cnF_enough G many n m (ndA N a).hi (by omega) (by omega) (by omega)]
theorem cn_lt2 {N : List Nd} {many a : Nat} (h : a < 2) : cn N many a = a := by
  unfold cn
  cases a with
  | zero => rfl
  | succ a => show (if a + 1 < 2 then _ else _) = _; rw [if_pos h]
theorem cn_node {N : List Nd} (G : GoodN N) (many : Nat) {a : Nat} (h2 : 2 ≤ a) (ha : a < N.length) :
    cn N many a = cn N many (ndA N a).lo * 2 ^ (levN N many (ndA N a).lo - (ndA N a).k - 1) + cn N many (ndA N a).hi * 2 ^ (levN N many (ndA N a).hi - (ndA N a).k - 1) := by
  obtain ⟨l1, l2, _⟩ := G.lt a _ h2 (nd_at ha)
  obtain ⟨b, rfl⟩ : ∃ b, a = b + 1 := ⟨a - 1, by omega⟩
  unfold cn
  show (if b + 1 < 2 then _ else _) = _
  rw [if_neg (by omega), cnF_enough G many b _ _ (by omega) (Nat.le_refl _) (by omega), cnF_enough G many b (ndA N (b + 1)).hi _ (by omega) (Nat.le_refl _) (by omega)]
theorem cn_le {N : List Nd} (G : GoodN N) {many : Nat} (hk : ∀ i n, 2 ≤ i → N[i]? = some n → n.k < many) : ∀ n a, a < n → a < N.length → cn N many a ≤ 2 ^ (many - levN N many a)
  | 0, _, h, _ => absurd h (by omega)
  | n + 1, a, h, ha => by
    by_cases h2 : a < 2
    · rw [cn_lt2 h2]
      have := Nat.pow_pos (n := many - levN N many a) (show 0 < 2 by decide)
      omega
    · obtain ⟨l1, l2, _⟩ := G.lt a _ (by omega) (nd_at ha)
      have ka := hk a _ (by omega) (nd_at ha)
      have lev : ∀ c, (c = (ndA N a).lo ∨ c = (ndA N a).hi) → c < N.length → (ndA N a).k < levN N many c ∧ levN N many c ≤ many := fun c hc hl => by
        unfold levN
        split
        · exact ⟨ka, Nat.le_refl _⟩
        · rename_i h2'
          exact ⟨G.ord a _ (by omega) (nd_at ha) c _ hc (by omega) (nd_at hl), Nat.le_of_lt (hk c _ (by omega) (nd_at hl))⟩
      have b1 := cn_le G hk n (ndA N a).lo (by omega) (by omega)
      have b2 := cn_le G hk n (ndA N a).hi (by omega) (by omega)
      obtain ⟨c1, c2⟩ := lev _ (.inl rfl) (by omega)
      obtain ⟨d1, d2⟩ := lev _ (.inr rfl) (by omega)
      rw [cn_node G many (by omega) ha]
      have e0 : levN N many a = (ndA N a).k := by unfold levN; rw [if_neg h2]
      have half : ∀ c, (ndA N a).k < levN N many c → levN N many c ≤ many → cn N many c ≤ 2 ^ (many - levN N many c) → cn N many c * 2 ^ (levN N many c - (ndA N a).k - 1) ≤ 2 ^ (many - (ndA N a).k - 1) := fun c h1 h2 h3 => by
        refine Nat.le_trans (Nat.mul_le_mul_right _ h3) ?_
        rw [← Nat.pow_add]
        exact Nat.pow_le_pow_right (by decide) (by omega)
      have f1 := half _ c1 c2 b1
      have f2 := half _ d1 d2 b2
      rw [e0, show many - (ndA N a).k = (many - (ndA N a).k - 1) + 1 by omega, Nat.pow_succ]
      omega
end G
namespace G
open PySem PySem.Spec PyProof.Rows L2 Evl TL
theorem up_take {bl : List Nat} (up : bl.Pairwise (· < ·)) {j b c : Nat} (hb : bl[j]? = some b) (hc : c ∈ bl) (h : c < b) : c ∈ bl.take j := by
  obtain ⟨i, hi, e⟩ := List.getElem_of_mem hc
  obtain ⟨hj, e2⟩ := List.getElem?_eq_some_iff.mp hb
  by_cases q : i < j
  · rw [List.mem_take_iff_getElem]
    exact ⟨i, by omega, e⟩
  · rcases Nat.lt_or_ge j i with z | z
    · have := List.pairwise_iff_getElem.mp up j i hj hi z
      omega
    · have : i = j := by omega
      subst this
      omega
structure TxtC (mg : Str → Option Value) : Prop where
  sum : mg "sum" = none
section
variable {P : Program} {w : World} {K : PySem.W.Frag} {mg : Str → Option Value} {base : Heap} {C : Addr}
def spCount (C : Addr) : Sp := fun vs H Q _ => ∃ (x nl pl ch : Addr) (N : List Nd) (M : Tsk → Option Nat) (us : List Nat) (cl a many : Nat), vs = [.ref x, .int (a : Nat), .int (many : Nat)] ∧ Dg C us cl H x nl pl ch N M ∧ a < N.length ∧ us.length ≤ 5 ∧ 0 < us.length ∧ many ≤ 60 ∧ (∀ u ∈ us, u < many) ∧
  ∀ H', Ex H H' → Q (.int ((cn N many a * 2 ^ levN N many a : Nat) : Int)) H'
theorem sc_Diagrams_count : FnScope ["self", "a", "many", "numbers", "node", "k", "low", "high", "half"] ["self", "a", "many"] (defScope s_Diagrams_count) := ⟨rfl, rfl, rfl, by decide +kernel, rfl, by decide +kernel, by decide +kernel⟩
theorem ok_Diagrams_count {f0 f1 : Addr} {d0 d1 : FuncData} {f : Addr} {fd : FuncData} (F : Fun K "count" "Diagrams.count" s_Diagrams_count f fd) (W : Cl_Diagrams K mg C) (TG : TxtG mg) (T : TxtC mg)
    (M_Diagrams_below : Meth K C "_below" f0) (G_Diagrams_below : FnOk P w K mg base CX0 1 f0 d0 ["self", "a"] (spBelow C)) (b_Diagrams_below : Binds K d0 ["self", "a"] [])
    (M_Diagrams_level : Meth K C "_level" f1) (G_Diagrams_level : FnOk P w K mg base CX0 1 f1 d1 ["self", "a", "many"] (spLevel C)) (b_Diagrams_level : Binds K d1 ["self", "a", "many"] []) : FnOk P w K mg base CX0 2 f fd ["self", "a", "many"] (spCount C) := by
  have c_Diagrams := W.cl
  obtain ⟨tT, g_TRUE⟩ := TG.tT
  obtain ⟨tF, g_FALSE⟩ := TG.fF
  refine F.ok sc_Diagrams_count (fun vs H Q E h => ?_) (fun cdv A outer s H vs Q E hr h => ?_)
  · obtain ⟨x, nl, pl, ch, N, M, us, cl, a, many, rfl, _⟩ := h
    rfl
  · obtain ⟨x, nl, pl, ch, N, M, us, cl, a, many, rfl, D, ha, hu5, hu0, hm, hu, q⟩ := h
    refine ⟨_, (pss_cons (ps_set (i := 3) sc_Diagrams_count.nd rfl (.inr rfl) (pe_disp (pps_cons (gInt rfl g_FALSE) pe_int (pps_cons (gInt rfl g_TRUE) pe_int pps_nil)) rfl rfl (List.cons_ne_nil _ _) (by decide)))
    (pss_cons (ps_for PassesOwn.never rfl (pi_list (pe_meth (pv 0) c_Diagrams M_Diagrams_below G_Diagrams_below (hr.mono (by omega)) b_Diagrams_below .nil pass0 (pa_cons (pv 1) pa_nil))) (pg_name (i := 4) sc_Diagrams_count.nd rfl (.inl rfl))
      (pss_cons (ps_asg (pe_ix ix_list (pe_fld (pv 0) rfl) (pv 4) (fun _ _ => rfl)) (pg_tup rfl (pgs_cons (pg_name (i := 5) sc_Diagrams_count.nd rfl (.inr rfl)) (pgs_cons (pg_name (i := 6) sc_Diagrams_count.nd rfl (.inl rfl)) (pgs_cons (pg_name (i := 7) sc_Diagrams_count.nd rfl (.inl rfl)) pgs_nil)))))
      (pss_one (ps_asg (pe_callB (cr_sum rfl) (by rfl) T.sum (by decide +kernel) (pa_cons (pe_lc (own := [("half", 8)]) (g := gName 8) (tt := tYes) rfl sc_Diagrams_count.nd (pi_tup (pe_tup (pa_cons (pv 6) (pa_cons (pv 7) pa_nil)))) (blkOk_by (N := ["self", "a", "many", "numbers", "node", "k", "low", "high", "half"]) (sc := defScope s_Diagrams_count) (own := [("half", 8)]) (by decide +kernel)) (fun _ _ _ _ _ => (pg_name (i := 8) sc_Diagrams_count.nd rfl (.inl rfl))) (fun _ _ _ _ _ => pts_nil) (fun _ _ _ _ _ => (pe_op op_shl (pe_dget (hu_of hr) (pv 3) (pv 8) (fun _ _ => rfl)) (pe_op op_sub (pe_op op_sub (pe_meth (pv 0) c_Diagrams M_Diagrams_level G_Diagrams_level (hr.mono (by omega)) b_Diagrams_level .nil pass0 (pa_cons (pv 8) (pa_cons (pv 2) pa_nil))) (pv 5)) pe_int)))) pa_nil)) (pg_sub (pv 3) (pv 4) (set_dict (hu_of hr)))))))
    (pss_one (ps_ret (pe_op op_shl (pe_dget (hu_of hr) (pv 3) (pv 1) (fun _ _ => rfl)) (pe_meth (pv 0) c_Diagrams M_Diagrams_level G_Diagrams_level (hr.mono (by omega)) b_Diagrams_level .nil pass0 (pa_cons (pv 1) (pa_cons (pv 2) pa_nil)))))))), ?_⟩
    obtain ⟨dx, h1⟩ := D.ob
    have hk : ∀ i n, 2 ≤ i → N[i]? = some n → n.k < many := fun i n hi h => hu _ (D.vars i n hi h)
    have lB : ∀ c, c < N.length → levN N many c ≤ many := fun c hc => by
      unfold levN
      split
      · exact Nat.le_refl _
      · rename_i z; exact Nat.le_of_lt (hk c _ (by omega) (nd_at hc))
    have cB : ∀ c, c < N.length → cn N many c < 2 ^ 64 := fun c hc => Nat.lt_of_le_of_lt (cn_le D.good hk (c + 1) c (by omega) hc) (Nat.pow_lt_pow_right (by decide) (by omega))
    have pw : ∀ (c e : Nat), V.int ((c : Int) * 2 ^ ((e : Nat) : Int).toNat) = .int ((c * 2 ^ e : Nat) : Int) := fun c e => by
      rw [Int.toNat_natCast, Int.natCast_mul, Int.natCast_pow]; rfl
    have n1 : (dfl nl pl ch).lookup ("_below" : Str) = none := dfl_no _ _ _ (by decide +kernel) (by decide +kernel) (by decide +kernel)
    have n2 : (dfl nl pl ch).lookup ("_level" : Str) = none := dfl_no _ _ _ (by decide +kernel) (by decide +kernel) (by decide +kernel)
    refine fun Dc nDc => ⟨upd_same, [(.inl 0, .int 0), (.inl 1, .int 1)], rfl, by decide, ?_⟩
    have E1 : Ex H (upd (upd H Dc (.dK [])) Dc (.dK (mergeK [] [(.inl 0, .int 0), (.inl 1, .int 1)]))) := (Ex.new nDc).mut nDc
    have hD1 : upd (upd H Dc (.dK [])) Dc (.dK (mergeK [] [(.inl 0, .int 0), (.inl 1, .int 1)])) Dc = some (.dK [(.inl 0, .int 0), (.inl 1, .int 1)]) := upd_same
    generalize upd (upd H Dc (.dK [])) Dc (.dK (mergeK [] [(.inl 0, .int 0), (.inl 1, .int 1)])) = H1 at *
    refine ⟨_, rfl, x, dx, _, rfl, E1 _ _ h1, n1, _, rfl, x, nl, pl, ch, N, M, us, cl, a, rfl, D.ex E1, ha, hu5, hu0, fun L bl H2 E2 nL hL hB => ⟨_, rfl, ⟨_, SqL.of hL⟩, ?_⟩⟩
    have E02 := E1.trans E2
    have hbl : bl.length < 32 := by
      have h1 := hB.few
      have h2 : 2 ^ us.length ≤ 2 ^ 5 := Nat.pow_le_pow_right (by decide) hu5
      have h3 : (2 : Nat) ^ 5 = 32 := rfl
      omega
    have nLD : L ≠ Dc := fun z => by rw [z, hD1] at nL; cases nL
    refine for_list (K := K) (a := L) (xs := nV bl) (fun j σ H' => Ex H H' ∧ H' L = some (.lst (nV bl)) ∧ ∃ (es : List (Key × V)) (y4 y5 y6 y7 : Option V), H' Dc = some (.dK es) ∧ es.length ≤ 2 + j ∧ (∀ c : Nat, In2 (bl.take j) c → valV es (.inl ((c : Nat) : Int)) = some (.int ((cn N many c : Nat) : Int))) ∧
        σ = [some (.ref x), some (.int (a : Nat)), some (.int (many : Nat)), some (.ref Dc), y4, y5, y6, y7, none])
      ⟨E02, hL, _, _, _, _, _, E2 _ _ hD1, by decide, (fun c hc => ?_), rfl⟩ (fun j σ H' _ g => SqL.of g.2.1) ?_ ?_
    · rw [List.take_zero] at hc
      rcases hc with z | z
      · rw [cn_lt2 z]
        match c, z with
        | 0, _ => rfl
        | 1, _ => rfl
      · cases z
    · rintro j z σ H3 hz ⟨E3, hL3, es, y4, y5, y6, y7, hD3, hel, hv, rfl⟩
      obtain ⟨b, hb, rfl⟩ := nV_get hz
      obtain ⟨b2, b1, blo, bhi⟩ := hB.shut b (List.mem_of_getElem? hb)
      obtain ⟨na, c, hnl, hc, hnd⟩ := D.nd b1
      have hj : j < bl.length := (List.getElem?_eq_some_iff.mp hb).1
      refine ⟨_, rfl, x, C, dx, _, _, rfl, E3 _ _ h1, W.cl, W.n_nodes, dfl_n _ _ _, _, rfl, _, _, _, _, rfl, rfl, SqL.of (E3 _ _ hnl), at_of (j := b) rfl hc, c, _, rfl, SqT.of (E3 _ _ hnd), rfl, _, _, rfl, _, _, rfl, _, _, rfl, rfl, ?_⟩
      refine ⟨_, rfl, _, rfl, (by show 2 ≤ sizeLine; decide), fun t nt => ⟨t, rfl, ⟨_, SqT.of upd_same⟩, fun R nR => ?_⟩⟩
      let term : Nat → Int := fun c => ((cn N many c * 2 ^ (levN N many c - (ndA N b).k - 1) : Nat) : Int)
      have E4 : Ex H3 (upd H3 t (.tup [.int ((ndA N b).lo : Nat), .int ((ndA N b).hi : Nat)])) := Ex.new nt
      have ht4 : upd H3 t (.tup [.int ((ndA N b).lo : Nat), .int ((ndA N b).hi : Nat)]) t = some (.tup (nV [(ndA N b).lo, (ndA N b).hi])) := upd_same
      generalize upd H3 t (.tup [.int ((ndA N b).lo : Nat), .int ((ndA N b).hi : Nat)]) = H4 at *
      refine wk_tup (K := K) (a := t) (xs := nV [(ndA N b).lo, (ndA N b).hi]) (fun i H' => Ex H4 H' ∧ H' R = some (.lst ((([(ndA N b).lo, (ndA N b).hi].take i).map term).map V.int))) ⟨Ex.new nR, upd_same⟩ (fun i H' _ g => SqT.of (g.1 _ _ ht4)) ?_ ?_
      · rintro i z H5 hz2 ⟨E5, hR⟩
        obtain ⟨c', hc', rfl⟩ := nV_get hz2
        have hkid : c' = (ndA N b).lo ∨ c' = (ndA N b).hi := by
          have := List.mem_of_getElem? hc'
          simpa using this
        obtain ⟨kl, kv⟩ := kid_lv D.good b2 (nd_at b1) hkid
        have hlt : c' < b := by
          obtain ⟨l1, l2, _⟩ := D.good.lt b _ b2 (nd_at b1)
          rcases hkid with z | z <;> omega
        have hin : In2 (bl.take j) c' := by
          have : In2 bl c' := by rcases hkid with z | z <;> rw [z] <;> assumption
          exact this.imp id fun z => up_take hB.up hb z hlt
        have hlev : (ndA N b).k < levN N many c' := by
          unfold levN
          split
          · exact hk b _ b2 (nd_at b1)
          · rename_i z; exact kv _ (by omega) (nd_at kl)
        have hl2 := lB c' kl
        have E35 := E4.trans E5
        have hget : DGet H5 Dc (.int (c' : Nat)) (some (.int ((cn N many c' : Nat) : Int))) := by
          have := DGet.k (k := Sum.inl ((c' : Nat) : Int)) (E35 _ _ hD3)
          rw [hv c' hin] at this
          exact this
        have ej : ((levN N many c' : Nat) : Int) - ((ndA N b).k : Nat) - 1 = ((levN N many c' - (ndA N b).k - 1 : Nat) : Int) := by omega
        have hcb := cB c' kl
        have hi2 : i < 2 := (List.getElem?_eq_some_iff.mp hc').1
        refine ⟨rfl, tYes_in ⟨_, rfl, _, rfl, Dc, _, rfl, hget, _, rfl, x, dx, _, rfl, (E3.trans E35) _ _ h1, n2, _, rfl, _, rfl, x, nl, pl, ch, N, M, us, cl, c', many, rfl, D.ex (E3.trans E35), kl, _, rfl, _, _, rfl, rfl, _, _, rfl, rfl, ?_⟩⟩
        have e2 : ((((if c' < 2 then many else (ndA N c').k : Nat) : Int) - ((ndA N b).k : Nat)) - 1) = ((levN N many c' - (ndA N b).k - 1 : Nat) : Int) := ej
        dsimp only
        rw [e2]
        refine ⟨_, _, rfl, rfl, ⟨Int.natCast_nonneg _, by omega, by rw [Int.natAbs_natCast]; exact hcb⟩, _, hR, sz_lt (by rw [List.length_map, List.length_map, List.length_take]; omega), E5.mut nR, ?_⟩
        rw [upd_same, take_snoc1 hc', List.map_append, List.map_append]
        exact congrArg (fun z => some (HO.lst (_ ++ [z]))) (pw _ _)
      · rintro H5 ⟨E5, hR⟩
        have E35 := E4.trans E5
        have hR2 : H5 R = some (.lst ([term (ndA N b).lo, term (ndA N b).hi].map V.int)) := hR
        refine ⟨R, [term (ndA N b).lo, term (ndA N b).hi], rfl, SqL.of hR2, _, rfl, _, rfl, Dc, _, rfl, .inl ⟨es, .inl ((b : Nat) : Int), E35 _ _ hD3, rfl, sz_lt (by omega), rfl⟩, (E3.trans E35).mut nDc, by rw [upd_ne nLD]; exact E35 _ _ hL3, _, _, _, _, _, upd_same, Nat.le_trans (length_putK _ _ _) (by omega), fun c' hc' => ?_, rfl⟩
        rw [valV_put]
        by_cases e : c' = b
        · subst e
          rw [if_pos rfl, cn_node D.good many b2 b1]
          show some (V.int (term _ + (term _ + 0))) = _
          rw [Int.add_zero, Int.natCast_add]
        · rw [if_neg fun z => e (by have := Sum.inl.inj z; omega)]
          refine hv c' (hc'.imp id fun z => ?_)
          rw [take_snoc1 hb] at z
          rcases List.mem_append.mp z with z | z
          · exact z
          · exact absurd (List.mem_singleton.mp z) e
    · rintro σ H3 ⟨E3, hL3, es, y4, y5, y6, y7, hD3, hel, hv, rfl⟩
      rw [nV_len, List.take_length] at hv
      have hget : DGet H3 Dc (.int (a : Nat)) (some (.int ((cn N many a : Nat) : Int))) := by
        have := DGet.k (k := Sum.inl ((a : Nat) : Int)) hD3
        rw [hv a hB.top] at this
        exact this
      refine ⟨_, rfl, _, rfl, Dc, _, rfl, hget, _, rfl, x, dx, _, rfl, E3 _ _ h1, n2, _, rfl, _, rfl, x, nl, pl, ch, N, M, us, cl, a, many, rfl, D.ex E3, ha, _, _, rfl, rfl, ?_⟩
      have hcb := cB a ha
      have hla := lB a ha
      have e3 : (((if a < 2 then many else (ndA N a).k : Nat) : Int)) = ((levN N many a : Nat) : Int) := rfl
      rw [e3]
      refine ⟨⟨Int.natCast_nonneg _, by omega, by rw [Int.natAbs_natCast]; exact hcb⟩, ?_⟩
      dsimp only
      rw [pw]
      exact q H3 E3
end
end G
namespace G
open PySem PySem.Spec PyProof.Rows L2 Evl TL
section
variable {P : Program} {w : World} {K : PySem.W.Frag} {mg : Str → Option Value} {base : Heap} {C : Addr}
def spFix (C : Addr) : Sp := fun vs H Q _ => ∃ (x nl pl ch : Addr) (N : List Nd) (M : Tsk → Option Nat) (us : List Nat) (cl a k : Nat) (v : Bool), vs = [.ref x, .int (a : Nat), .int (k : Nat), .bl v] ∧ Dg C us cl H x nl pl ch N M ∧ a < N.length ∧ us.length ≤ 5 ∧ 0 < us.length ∧ N.length + 40 ≤ 9000000 ∧
  ∀ (r : Nat) (N' : List Nd) (H' : Hp), Kp nl pl ch H H' → Dg C us cl H' x nl pl ch N' M → N <+: N' → N'.length ≤ N.length + 40 → r < N'.length → (∀ f, ev N' r f = ev N a (setF f k v)) → Q (.int (r : Nat)) H'
theorem sc_Diagrams_fix : FnScope ["self", "a", "k", "value", "fixed", "node", "top", "low", "high"] ["self", "a", "k", "value"] (defScope s_Diagrams_fix) := ⟨rfl, rfl, rfl, by decide +kernel, rfl, by decide +kernel, by decide +kernel⟩
theorem ok_Diagrams_fix {f0 f1 : Addr} {d0 d1 : FuncData} {f : Addr} {fd : FuncData} (F : Fun K "fix" "Diagrams.fix" s_Diagrams_fix f fd) (W : Cl_Diagrams K mg C) (TG : TxtG mg)
    (M_Diagrams_below : Meth K C "_below" f0) (G_Diagrams_below : FnOk P w K mg base CX0 1 f0 d0 ["self", "a"] (spBelow C)) (b_Diagrams_below : Binds K d0 ["self", "a"] [])
    (M_Diagrams_node : Meth K C "_node" f1) (G_Diagrams_node : FnOk P w K mg base CX0 1 f1 d1 ["self", "k", "low", "high"] (spNode C)) (b_Diagrams_node : Binds K d1 ["self", "k", "low", "high"] []) : FnOk P w K mg base CX0 2 f fd ["self", "a", "k", "value"] (spFix C) := by
  have c_Diagrams := W.cl
  obtain ⟨tT, g_TRUE⟩ := TG.tT
  obtain ⟨tF, g_FALSE⟩ := TG.fF
  refine F.ok sc_Diagrams_fix (fun vs H Q E h => ?_) (fun cdv A outer s H vs Q E hr h => ?_)
  · obtain ⟨x, nl, pl, ch, N, M, us, cl, a, k, v, rfl, _⟩ := h
    rfl
  · obtain ⟨x, nl, pl, ch, N, M, us, cl, a, k, v, rfl, D, ha, hu5, hu0, hN, q⟩ := h
    refine ⟨_, (pss_cons (ps_set (i := 4) sc_Diagrams_fix.nd rfl (.inl rfl) (pe_disp (pps_cons (gInt rfl g_FALSE) (gInt rfl g_FALSE) (pps_cons (gInt rfl g_TRUE) (gInt rfl g_TRUE) pps_nil)) rfl rfl (List.cons_ne_nil _ _) (by decide)))
    (pss_cons (ps_for PassesOwn.never rfl (pi_list (pe_meth (pv 0) c_Diagrams M_Diagrams_below G_Diagrams_below (hr.mono (by omega)) b_Diagrams_below .nil pass0 (pa_cons (pv 1) pa_nil))) (pg_name (i := 5) sc_Diagrams_fix.nd rfl (.inl rfl))
      (pss_cons (ps_asg (pe_ix ix_list (pe_fld (pv 0) rfl) (pv 5) (fun _ _ => rfl)) (pg_tup rfl (pgs_cons (pg_name (i := 6) sc_Diagrams_fix.nd rfl (.inl rfl)) (pgs_cons (pg_name (i := 7) sc_Diagrams_fix.nd rfl (.inl rfl)) (pgs_cons (pg_name (i := 8) sc_Diagrams_fix.nd rfl (.inl rfl)) pgs_nil)))))
      (pss_one (ps_if (pt_cmpR op_gt (pv 6) (pv 2) (nomark _))
        (pss_one (ps_asg (pv 5) (pg_sub (pv 4) (pv 5) (set_dict (hu_of hr)))))
        (pss_one (ps_if (pt_cmpR op_eq (pv 6) (pv 2) (nomark _))
          (pss_one (ps_asg (pe_ifExp (pt_val (pv 3)) (pv 8) (pv 7)) (pg_sub (pv 4) (pv 5) (set_dict (hu_of hr)))))
          (pss_one (ps_asg (pe_meth (pv 0) c_Diagrams M_Diagrams_node G_Diagrams_node (hr.mono (by omega)) b_Diagrams_node .nil pass0 (pa_cons (pv 6) (pa_cons (pe_dget (hu_of hr) (pv 4) (pv 7) (fun _ _ => rfl)) (pa_cons (pe_dget (hu_of hr) (pv 4) (pv 8) (fun _ _ => rfl)) pa_nil)))) (pg_sub (pv 4) (pv 5) (set_dict (hu_of hr)))))))))))
    (pss_one (ps_ret (pe_dget (hu_of hr) (pv 4) (pv 1) (fun _ _ => rfl)))))), ?_⟩
    obtain ⟨dx, h1⟩ := D.ob
    have ne3 : ∀ {b : Addr}, H b = none → b ≠ x ∧ b ≠ nl ∧ b ≠ pl ∧ b ≠ ch := fun {b} nb => by
      obtain ⟨na, h2, _⟩ := D.nodes
      obtain ⟨es, h4, _⟩ := D.fpl
      obtain ⟨cs, h7, _⟩ := D.fch
      exact ⟨(ne_of_none h1 nb).symm, (ne_of_none h2 nb).symm, (ne_of_none h4 nb).symm, (ne_of_none h7 nb).symm⟩
    have n1 : (dfl nl pl ch).lookup ("_below" : Str) = none := dfl_no _ _ _ (by decide +kernel) (by decide +kernel) (by decide +kernel)
    have n2 : (dfl nl pl ch).lookup ("_node" : Str) = none := dfl_no _ _ _ (by decide +kernel) (by decide +kernel) (by decide +kernel)
    refine fun Dc nDc => ⟨upd_same, [(.inl 0, .int 0), (.inl 1, .int 1)], rfl, by decide, ?_⟩
    obtain ⟨dX, dN, dP, dC⟩ := ne3 nDc
    have E1 : Ex H (upd (upd H Dc (.dK [])) Dc (.dK (mergeK [] [(.inl 0, .int 0), (.inl 1, .int 1)]))) := (Ex.new nDc).mut nDc
    have hD1 : upd (upd H Dc (.dK [])) Dc (.dK (mergeK [] [(.inl 0, .int 0), (.inl 1, .int 1)])) Dc = some (.dK [(.inl 0, .int 0), (.inl 1, .int 1)]) := upd_same
    generalize upd (upd H Dc (.dK [])) Dc (.dK (mergeK [] [(.inl 0, .int 0), (.inl 1, .int 1)])) = H1 at *
    refine ⟨_, rfl, x, dx, _, rfl, E1 _ _ h1, n1, _, rfl, x, nl, pl, ch, N, M, us, cl, a, rfl, D.ex E1, ha, hu5, hu0, fun L bl H2 E2 nL hL hB => ⟨_, rfl, ⟨_, SqL.of hL⟩, ?_⟩⟩
    have E02 := E1.trans E2
    have nLD : L ≠ Dc := fun z => by rw [z, hD1] at nL; cases nL
    obtain ⟨lX, lN, lP, lC⟩ := ne3 (fresh_back E1 nL)
    have hbl : bl.length < 32 := by
      have h1 := hB.few
      have h2 : 2 ^ us.length ≤ 2 ^ 5 := Nat.pow_le_pow_right (by decide) hu5
      have h3 : (2 : Nat) ^ 5 = 32 := rfl
      omega
    have two := D.good.two
    refine for_list (K := K) (a := L) (xs := nV bl) (fun j σ H' => Kp nl pl ch H H' ∧ ∃ (N' : List Nd) (es : List (Key × V)) (y5 y6 y7 y8 : Option V), Dg C us cl H' x nl pl ch N' M ∧ N <+: N' ∧ N'.length ≤ N.length + j ∧ H' L = some (.lst (nV bl)) ∧ H' Dc = some (.dK es) ∧ es.length ≤ 2 + j ∧
        (∀ c : Nat, In2 (bl.take j) c → ∃ r : Nat, valV es (.inl ((c : Nat) : Int)) = some (.int ((r : Nat) : Int)) ∧ r < N'.length ∧ ∀ f, ev N' r f = ev N c (setF f k v)) ∧
        σ = [some (.ref x), some (.int (a : Nat)), some (.int (k : Nat)), some (.bl v), some (.ref Dc), y5, y6, y7, y8])
      ⟨.of E02, N, _, _, _, _, _, D.ex E02, List.prefix_refl _, Nat.le_refl _, hL, E2 _ _ hD1, by decide, (fun c hc => ?_), rfl⟩ (fun j σ H' _ g => let ⟨_, _, _, _, _, _, _, _, _, _, h, _⟩ := g; SqL.of h) ?_ ?_
    · rw [List.take_zero] at hc
      rcases hc with z | z
      · refine ⟨c, ?_, by omega, fun f => by rw [ev_lt2 z, ev_lt2 z]⟩
        match c, z with
        | 0, _ => rfl
        | 1, _ => rfl
      · cases z
    · rintro j z σ H3 hz ⟨K3, N', es, y5, y6, y7, y8, D3, p3, hl3, hL3, hD3, hel, hv, rfl⟩
      obtain ⟨b, hb, rfl⟩ := nV_get hz
      obtain ⟨b2, b1, blo, bhi⟩ := hB.shut b (List.mem_of_getElem? hb)
      have hj : j < bl.length := (List.getElem?_eq_some_iff.mp hb).1
      have b1' : b < N'.length := Nat.lt_of_lt_of_le b1 (pre_len p3)
      obtain ⟨na, c, hnl, hc, hnd⟩ := D3.nd b1'
      rw [pre_nd p3 b1] at hnd
      obtain ⟨dx3, h13⟩ := D3.ob
      obtain ⟨l1, l2, _⟩ := D.good.lt b _ b2 (nd_at b1)
      have nb := nd_at b1
      -- what is kept when a reference is put in for b
      have put : ∀ (r : Nat) (N2 : List Nd) (H4 : Hp) (y6 y7 y8 : Option V), Kp nl pl ch H3 H4 → Dg C us cl H4 x nl pl ch N2 M → N' <+: N2 → N2.length ≤ N'.length + 1 → H4 Dc = some (.dK es) → r < N2.length → (∀ f, ev N2 r f = ev N b (setF f k v)) →
          Kp nl pl ch H (upd H4 Dc (.dK (putK es (.inl ((b : Nat) : Int)) (.int (r : Nat))))) ∧ ∃ (N' : List Nd) (es' : List (Key × V)) (z5 z6 z7 z8 : Option V), Dg C us cl (upd H4 Dc (.dK (putK es (.inl ((b : Nat) : Int)) (.int (r : Nat))))) x nl pl ch N' M ∧ N <+: N' ∧ N'.length ≤ N.length + (j + 1) ∧ (upd H4 Dc (.dK (putK es (.inl ((b : Nat) : Int)) (.int (r : Nat))))) L = some (.lst (nV bl)) ∧ (upd H4 Dc (.dK (putK es (.inl ((b : Nat) : Int)) (.int (r : Nat))))) Dc = some (.dK es') ∧ es'.length ≤ 2 + (j + 1) ∧
        (∀ c : Nat, In2 (bl.take (j + 1)) c → ∃ r : Nat, valV es' (.inl ((c : Nat) : Int)) = some (.int ((r : Nat) : Int)) ∧ r < N'.length ∧ ∀ f, ev N' r f = ev N c (setF f k v)) ∧
        [some (V.ref x), some (.int (a : Nat)), some (.int (k : Nat)), some (.bl v), some (.ref Dc), some (.int (b : Nat)), y6, y7, y8] = [some (.ref x), some (.int (a : Nat)), some (.int (k : Nat)), some (.bl v), some (.ref Dc), z5, z6, z7, z8] := fun r N2 H4 y6 y7 y8 K4 D4 p4 hl4 hD4 hr4 hsem => by
        refine ⟨(K3.trans K4).mut nDc, N2, _, _, _, _, _, D4.keep (fun c o hc z => ?_) (.put hD4 fun _ z => nomatch z), p3.trans p4, by omega, (upd_ne nLD).trans (K4 _ _ hL3 lN lP lC), upd_same, Nat.le_trans (length_putK _ _ _) (by omega), fun c' hc' => ?_, rfl⟩
        · rw [upd_ne (by rcases hc with e | e | e | e <;> rw [e] <;> first | exact dX.symm | exact dN.symm | exact dP.symm | exact dC.symm)]
          exact z
        · rw [valV_put]
          by_cases e : c' = b
          · subst e
            exact ⟨r, by rw [if_pos rfl], hr4, hsem⟩
          · rw [if_neg fun z => e (by have := Sum.inl.inj z; omega)]
            obtain ⟨r', g1, g2, g3⟩ := hv c' (hc'.imp id fun z => by
              rw [take_snoc1 hb] at z
              rcases List.mem_append.mp z with z | z
              · exact z
              · exact absurd (List.mem_singleton.mp z) e)
            exact ⟨r', g1, Nat.lt_of_lt_of_le g2 (pre_len p4), fun f => by rw [pre_ev D3.good p4 g2, g3 f]⟩
      refine ⟨_, rfl, x, C, dx3, _, _, rfl, h13, W.cl, W.n_nodes, dfl_n _ _ _, _, rfl, _, _, _, _, rfl, rfl, SqL.of hnl, at_of (j := b) rfl hc, c, _, rfl, SqT.of hnd, rfl, _, _, rfl, _, _, rfl, _, _, rfl, rfl, ?_⟩
      refine ⟨_, rfl, _, rfl, _, _, rfl, rfl, _, rfl, ite2 (fun c1 => ?_) (fun c1 => ?_)⟩
      · have hk : k < (ndA N b).k := by have := of_decide_eq_true c1; omega
        refine ⟨_, rfl, _, rfl, _, rfl, Dc, _, rfl, .inl ⟨es, .inl ((b : Nat) : Int), hD3, rfl, sz_lt (by omega), rfl⟩, put b N' H3 _ _ _ .refl D3 (List.prefix_refl _) (by omega) hD3 b1' fun f => ?_⟩
        rw [pre_ev D.good p3 b1]
        refine ev_indep D.good (ndA N b).k b b1 (fun m _ hm => by rw [nb] at hm; cases hm; exact Nat.le_refl _) f (setF f k v) fun i hi => ?_
        unfold setF
        rw [if_neg (by omega)]
      refine ⟨_, rfl, _, rfl, rfl, _, rfl, ite2 (fun c2 => ?_) (fun c2 => ?_)⟩
      · have hk : (ndA N b).k = k := by have := V.int.inj (of_decide_eq_true c2); omega
        have sem : ∀ f, ev N' (if v = true then (ndA N b).hi else (ndA N b).lo) f = ev N b (setF f k v) := fun f => by
          rw [pre_ev D.good p3 (by split <;> omega), ev_kid D.good b2 nb v f, hk]
        refine ⟨_, rfl, _, rfl, ite2 (fun c3 => ?_) (fun c3 => ?_)⟩
        · rw [if_pos c3] at sem
          exact ⟨_, rfl, _, rfl, _, rfl, Dc, _, rfl, .inl ⟨es, .inl ((b : Nat) : Int), hD3, rfl, sz_lt (by omega), rfl⟩, put _ N' H3 _ _ _ .refl D3 (List.prefix_refl _) (by omega) hD3 (by omega) sem⟩
        · rw [if_neg c3] at sem
          exact ⟨_, rfl, _, rfl, _, rfl, Dc, _, rfl, .inl ⟨es, .inl ((b : Nat) : Int), hD3, rfl, sz_lt (by omega), rfl⟩, put _ N' H3 _ _ _ .refl D3 (List.prefix_refl _) (by omega) hD3 (by omega) sem⟩
      · have hne : (ndA N b).k ≠ k := fun z => c2 (decide_eq_true (by rw [z]))
        have inl : In2 (bl.take j) (ndA N b).lo := blo.imp id fun z => up_take hB.up hb z l1
        have inh : In2 (bl.take j) (ndA N b).hi := bhi.imp id fun z => up_take hB.up hb z l2
        obtain ⟨rl, e1, e2, e3⟩ := hv _ inl
        obtain ⟨rh, g1, g2, g3⟩ := hv _ inh
        have getl : DGet H3 Dc (.int ((ndA N b).lo : Nat)) (some (.int ((rl : Nat) : Int))) := by
          have := DGet.k (k := Sum.inl (((ndA N b).lo : Nat) : Int)) hD3
          rw [e1] at this
          exact this
        have geth : DGet H3 Dc (.int ((ndA N b).hi : Nat)) (some (.int ((rh : Nat) : Int))) := by
          have := DGet.k (k := Sum.inl (((ndA N b).hi : Nat) : Int)) hD3
          rw [g1] at this
          exact this
        have lv : ∀ (r c : Nat), (c = (ndA N b).lo ∨ c = (ndA N b).hi) → r < N'.length → (∀ f, ev N' r f = ev N c (setF f k v)) → lvGe N' ((ndA N b).k + 1) r := fun r c hc hr hs => by
          obtain ⟨kl, kv⟩ := kid_lv D.good b2 nb hc
          refine lv_of_indep D3.good hr fun f g hfg => ?_
          rw [hs f, hs g]
          refine ev_indep D.good _ c kl kv _ _ fun i hi => ?_
          unfold setF
          split
          · rfl
          · exact hfg i hi
        refine ⟨_, rfl, x, dx3, _, rfl, h13, n2, _, rfl, _, rfl, _, rfl, Dc, _, rfl, getl, _, rfl, _, rfl, Dc, _, rfl, geth, x, nl, pl, ch, N', M, us, cl, (ndA N b).k, rl, rh, rfl, D3, D.vars b _ b2 nb, e2, g2, lv rl _ (.inl rfl) e2 e3, lv rh _ (.inr rfl) g2 g3, by omega, fun r N2 H4 K4 D4 p4 hl4 hr4 hsem => ?_⟩
        have hD4 := K4 _ _ hD3 dN dP dC
        refine ⟨_, rfl, _, rfl, Dc, _, rfl, .inl ⟨es, .inl ((b : Nat) : Int), hD4, rfl, sz_lt (by omega), rfl⟩, put r N2 H4 _ _ _ K4 D4 p4 hl4 hD4 hr4 fun f => ?_⟩
        rw [hsem f, ev_node D.good b2 nb, show setF f k v (ndA N b).k = f (ndA N b).k by unfold setF; rw [if_neg hne]]
        by_cases hf : f (ndA N b).k = true
        · rw [if_pos hf, if_pos hf]; exact g3 f
        · rw [if_neg hf, if_neg hf]; exact e3 f
    · rintro σ H3 ⟨K3, N', es, y5, y6, y7, y8, D3, p3, hl3, hL3, hD3, hel, hv, rfl⟩
      rw [nV_len, List.take_length] at hv
      obtain ⟨r, g1, g2, g3⟩ := hv a hB.top
      have hget : DGet H3 Dc (.int (a : Nat)) (some (.int ((r : Nat) : Int))) := by
        have := DGet.k (k := Sum.inl ((a : Nat) : Int)) hD3
        rw [g1] at this
        exact this
      rw [nV_len] at hl3
      exact ⟨_, rfl, _, rfl, Dc, _, rfl, hget, q r N' H3 K3 D3 p3 (by omega) g2 g3⟩
end
end G
namespace G
open PySem PySem.Spec PyProof.Rows L2 Evl TL
structure TxtJ (mg : Str → Option Value) : Prop where
  list : mg "list" = none
  len : mg "len" = none
  range : mg "range" = none
theorem pair_fold {g : Bool → Bool → Bool} {u : Bool} (as : ∀ a b c, g (g a b) c = g a (g b c)) : ∀ (ps l : List Bool), ps.length * 2 ≤ l.length → (∀ i, i < ps.length → ps.getD i false = g (l.getD (2 * i) false) (l.getD (2 * i + 1) false)) → (ps ++ l.drop (2 * ps.length)).foldr g u = l.foldr g u
  | [], l, _, _ => by simp
  | p :: ps, a :: b :: l, h, k => by
    have h0 : p = g a b := k 0 (by show 0 < ps.length + 1; omega)
    have ih := pair_fold (u := u) as ps l (by rw [List.length_cons] at h; simp at h; omega) fun i hi => by
      have := k (i + 1) (by rw [List.length_cons]; omega)
      rw [show 2 * (i + 1) = 2 * i + 1 + 1 by omega] at this
      exact this
    have e : (a :: b :: l).drop (2 * (p :: ps).length) = l.drop (2 * ps.length) := by
      rw [List.length_cons, show 2 * (ps.length + 1) = 2 * ps.length + 1 + 1 by omega]; rfl
    rw [e]
    show g p ((ps ++ l.drop (2 * ps.length)).foldr g u) = g a (g b (l.foldr g u))
    rw [ih, h0, as]
  | p :: ps, [], h, _ => by simp at h
  | p :: ps, [a], h, _ => by simp at h; omega
section
variable {P : Program} {w : World} {K : PySem.W.Frag} {mg : Str → Option Value} {base : Heap} {C : Addr}
def spJoin (C : Addr) (g : Bool → Bool → Bool) (u : Bool) : Sp := fun vs H Q _ => ∃ (x nl pl ch : Addr) (N : List Nd) (M : Tsk → Option Nat) (us : List Nat) (cl : Nat) (rl : Addr) (rs : List Nat), vs = [.ref x, .ref rl] ∧ Dg C us cl H x nl pl ch N M ∧ H rl = some (.lst (nV rs)) ∧ (∀ r ∈ rs, r < N.length) ∧ rs.length ≤ 5 ∧ N.length + 6 * wT us.length ≤ 9000000 ∧ cl + 6 * wT us.length ≤ 9000000 ∧
  ∀ (r : Nat) (N' : List Nd) (M' : Tsk → Option Nat) (H' : Hp), Kp nl pl ch H H' → Dg C us (cl + 5 * wT us.length) H' x nl pl ch N' M' → N <+: N' → N'.length ≤ N.length + 5 * wT us.length → r < N'.length → (∀ f, ev N' r f = (rs.map fun a => ev N a f).foldr g u) → Q (.int (r : Nat)) H'
theorem sc_Diagrams_all_of : FnScope ["self", "references", "rows", "pairs", "k"] ["self", "references"] (defScope s_Diagrams_all_of) := ⟨rfl, rfl, rfl, by decide +kernel, rfl, by decide +kernel, by decide +kernel⟩
theorem ok_Diagrams_all_of {f0 : Addr} {d0 : FuncData} {f : Addr} {fd : FuncData} (F : Fun K "all_of" "Diagrams.all_of" s_Diagrams_all_of f fd) (W : Cl_Diagrams K mg C) (TG : TxtG mg) (T : TxtJ mg)
    (M_Diagrams_both : Meth K C "both" f0) (G_Diagrams_both : FnOk P w K mg base CX0 3 f0 d0 ["self", "a", "b"] (spTwo C Bool.and)) (b_Diagrams_both : Binds K d0 ["self", "a", "b"] []) : FnOk P w K mg base CX0 4 f fd ["self", "references"] (spJoin C Bool.and true) := by
  have c_Diagrams := W.cl
  obtain ⟨tT, g_TRUE⟩ := TG.tT
  obtain ⟨tF, g_FALSE⟩ := TG.fF
  refine F.ok sc_Diagrams_all_of (fun vs H Q E h => ?_) (fun cdv A outer s H vs Q E hr h => ?_)
  · obtain ⟨x, nl, pl, ch, N, M, us, cl, rl, rs, rfl, _⟩ := h
    rfl
  · obtain ⟨x, nl, pl, ch, N, M, us, cl, rl, rs, rfl, D, hrl, hrs, hn5, hb1, hb2, q⟩ := h
    refine ⟨_, (pss_cons (ps_set (i := 2) sc_Diagrams_all_of.nd rfl (.inr rfl) (pe_callTy call_list_of (by rfl) T.list (by decide +kernel) (pa_cons (pv 1) pa_nil)))
    (pss_cons (ps_while PassesOwn.never (pt_cmpR op_gt (pe_callB call_len_seq (by rfl) T.len (by decide +kernel) (pa_cons (pv 2) pa_nil)) pe_int (nomark _))
      (pss_cons (ps_setLc (i := 3) (own := [("k", 4)]) (g := gName 4) (tt := tYes) rfl sc_Diagrams_all_of.nd rfl rfl (sw_true rfl rfl rfl (by decide +kernel)) (pi_range3 rfl T.range (pa_cons pe_int (pa_cons (pe_op op_sub (pe_callB call_len_seq (by rfl) T.len (by decide +kernel) (pa_cons (pv 2) pa_nil)) pe_int) (pa_cons pe_int pa_nil)))) (blkOk_by (N := ["self", "references", "rows", "pairs", "k"]) (sc := defScope s_Diagrams_all_of) (own := [("k", 4)]) (by decide +kernel)) (fun _ _ _ _ _ => (pg_name (i := 4) sc_Diagrams_all_of.nd rfl (.inl rfl))) (fun _ _ _ _ _ => pts_nil) (fun _ _ _ _ _ => (pe_meth (pv 0) c_Diagrams M_Diagrams_both G_Diagrams_both (hr.mono (by omega)) b_Diagrams_both .nil pass0 (pa_cons (pe_ix (kIxL (K := K) rfl) (pv 2) (pv 4) (fun _ _ => rfl)) (pa_cons (pe_ix (kIxL (K := K) rfl) (pv 2) (pe_op op_add (pv 4) pe_int) (fun _ _ => rfl)) pa_nil)))))
      (pss_one (ps_set (i := 2) sc_Diagrams_all_of.nd rfl (.inr rfl) (pe_op op_cat (pv 3) (pe_slice sl_list (pv 2) (po_some (pe_op op_mul pe_int (pe_callB call_len_seq (by rfl) T.len (by decide +kernel) (pa_cons (pv 3) pa_nil)))) po_none))))))
    (pss_one (ps_ret (pe_ifExp (pt_truth (pv 2) (by intro _; rfl)) (pe_ix ix_list (pv 2) pe_int (fun _ _ => rfl)) (gInt rfl g_TRUE)))))), ?_⟩
    have two := D.good.two
    obtain ⟨dx, h1⟩ := D.ob
    have ne3 : ∀ {b : Addr}, H b = none → b ≠ x ∧ b ≠ nl ∧ b ≠ pl ∧ b ≠ ch := fun {b} nb => by
      obtain ⟨na, h2, _⟩ := D.nodes
      obtain ⟨es, h4, _⟩ := D.fpl
      obtain ⟨cs, h7, _⟩ := D.fch
      exact ⟨(ne_of_none h1 nb).symm, (ne_of_none h2 nb).symm, (ne_of_none h4 nb).symm, (ne_of_none h7 nb).symm⟩
    generalize hWd : wT us.length = W0 at *
    have hmul : ∀ c, c ≤ 5 → c * W0 ≤ 5 * W0 := fun c h => Nat.mul_le_mul_right _ h
    refine ⟨_, rfl, _, _, rfl, .inl (SqL.of hrl), fun R0 nR0 => ?_⟩
    refine ⟨fun μ σ H' => Kp nl pl ch H H' ∧ ∃ (N' : List Nd) (M' : Tsk → Option Nat) (c : Nat) (R : Addr) (rw_ : List Nat) (y3 y4 : Option V), Dg C us (cl + c * W0) H' x nl pl ch N' M' ∧ N <+: N' ∧ N'.length ≤ N.length + c * W0 ∧ c + rw_.length = rs.length ∧ H' R = some (.lst (nV rw_)) ∧ H R = none ∧ (∀ r ∈ rw_, r < N'.length) ∧
        (∀ f, (rw_.map fun a => ev N' a f).foldr Bool.and true = (rs.map fun a => ev N a f).foldr Bool.and true) ∧ rw_.length = μ ∧ σ = [some (.ref x), some (.ref rl), some (.ref R), y3, y4],
      ⟨rs.length, .of (Ex.new nR0), N, M, 0, R0, rs, _, _, by rw [Nat.zero_mul]; exact D.ex (Ex.new nR0), List.prefix_refl _, by omega, by omega, upd_same, nR0, hrs, fun _ => rfl, rfl, rfl⟩, ?_⟩
    rintro μ σ H3 ⟨K3, N3, M3, c, R3, rw_, y3, y4, D3, p3, hl3, hcw, hR3, nR3, hlt, hsem, hμ, rfl⟩
    obtain ⟨r0, r1, r2, r3⟩ := ne3 nR3
    refine ⟨_, rfl, _, _, rfl, .inl (SqL.of hR3), _, _, rfl, rfl, _, rfl, ite2 (fun c1 => ?_) (fun c1 => ?_)⟩
    · have hm2 : 2 ≤ rw_.length := by
        have := of_decide_eq_true c1
        rw [nV_len] at this
        omega
      have hm5 : rw_.length ≤ 5 := by omega
      have nB : (dfl nl pl ch).lookup ("both" : Str) = none := dfl_no _ _ _ (by decide +kernel) (by decide +kernel) (by decide +kernel)
      have hlen : ((nV rw_).length : Int) = ((rw_.length : Nat) : Int) := by rw [nV_len]
      have hrg : RgC 0 (((nV rw_).length : Int) - 1) 2 (rw_.length / 2) := by
        rw [hlen]
        have h4 : rw_.length = 2 ∨ rw_.length = 3 ∨ rw_.length = 4 ∨ rw_.length = 5 := by omega
        rcases h4 with e | e | e | e <;> rw [e] <;> exact ⟨by decide, by decide, by decide +kernel, by decide +kernel⟩
      refine ⟨fun σ' H' => Kp nl pl ch H H' ∧ ∃ (N' : List Nd) (M' : Tsk → Option Nat) (c : Nat) (R : Addr) (rw_ : List Nat) (y3 y4 : Option V), Dg C us (cl + c * W0) H' x nl pl ch N' M' ∧ N <+: N' ∧ N'.length ≤ N.length + c * W0 ∧ c + rw_.length = rs.length ∧ H' R = some (.lst (nV rw_)) ∧ H R = none ∧ (∀ r ∈ rw_, r < N'.length) ∧ (∀ f, (rw_.map fun a => ev N' a f).foldr Bool.and true = (rs.map fun a => ev N a f).foldr Bool.and true) ∧ rw_.length < μ ∧ σ' = [some (.ref x), some (.ref rl), some (.ref R), y3, y4], ?_, ?_⟩
      · rintro σ' H' ⟨b1, b2, b3, b4, b5, b6, b7, b8, b9, b10, b11, b12, b13, b14, b15, b16, b17, b18⟩
        exact ⟨_, b17, b1, b2, b3, b4, b5, b6, b7, b8, b9, b10, b11, b12, b13, b14, b15, b16, rfl, b18⟩
      refine ⟨_, rfl, _, _, rfl, .inl (SqL.of hR3), _, _, rfl, rfl, _, _, _, rw_.length / 2, rfl, hrg, fun R4 nR4 => wk_it walk_rangeC
        (fun j H' => Kp nl pl ch H3 H' ∧ ∃ (N' : List Nd) (M' : Tsk → Option Nat) (ac : List Nat), Dg C us (cl + (c + j) * W0) H' x nl pl ch N' M' ∧ N3 <+: N' ∧ N'.length ≤ N.length + (c + j) * W0 ∧ H' R4 = some (.lst (nV ac)) ∧ ac.length = j ∧
          ∀ i r, ac[i]? = some r → r < N'.length ∧ ∀ f, ev N' r f = Bool.and (ev N3 (rw_.getD (2 * i) 0) f) (ev N3 (rw_.getD (2 * i + 1) 0) f))
        ⟨.of (Ex.new nR4), N3, M3, [], D3.ex (Ex.new nR4), List.prefix_refl _, hl3, upd_same, rfl, (fun i r z => by rw [List.getElem?_nil] at z; cases z)⟩ (fun _ _ _ _ => trivial) ?_ ?_⟩
      · rintro j z H4 H5 hj ⟨K4, N4, M4, ac, D4, p4, hl4, hR4, hacl, hac⟩ ⟨rfl, ez⟩
        have ez := ez.trans (show V.int (0 + ((j : Nat) : Int) * 2) = .int ((2 * j : Nat) : Int) by congr 1; omega)
        subst ez
        have nR40 : H R4 = none := D3.free K3 nR4
        obtain ⟨q0, q1, q2, q3⟩ := ne3 nR40
        obtain ⟨dx4, h14⟩ := D4.ob
        have hRw : H5 R3 = some (.lst (nV rw_)) := K4 _ _ hR3 r1 r2 r3
        have a1 : 2 * j < rw_.length := by omega
        have a2 : 2 * j + 1 < rw_.length := by omega
        have ga : (nV rw_)[2 * j]? = some (.int ((rw_.getD (2 * j) 0 : Nat) : Int)) := by
          unfold nV
          rw [List.getElem?_map, List.getElem?_map, List.getD_eq_getElem?_getD, List.getElem?_eq_getElem a1]; rfl
        have gb : (nV rw_)[2 * j + 1]? = some (.int ((rw_.getD (2 * j + 1) 0 : Nat) : Int)) := by
          unfold nV
          rw [List.getElem?_map, List.getElem?_map, List.getD_eq_getElem?_getD, List.getElem?_eq_getElem a2]; rfl
        have b1 : rw_.getD (2 * j) 0 < N3.length := by rw [List.getD_eq_getElem?_getD, List.getElem?_eq_getElem a1]; exact hlt _ (List.getElem_mem a1)
        have b2 : rw_.getD (2 * j + 1) 0 < N3.length := by rw [List.getD_eq_getElem?_getD, List.getElem?_eq_getElem a2]; exact hlt _ (List.getElem_mem a2)
        have m1 := hmul (c + j) (by omega)
        refine ⟨rfl, tYes_in ?_⟩
        simp only [wipe, _root_.L2.start, List.map_cons, List.map_nil, List.length_cons, List.length_nil, Nat.reduceAdd, Nat.reduceSub, List.replicate_succ, List.replicate_zero, List.cons_append, List.nil_append, List.set_cons_zero, List.set_cons_succ]
        refine ⟨_, rfl, x, dx4, _, rfl, h14, nB, _, rfl, _, rfl, _, _, _, _, rfl, rfl, SqL.of hRw, at_of (j := 2 * j) rfl ga, _, rfl, _, rfl, _, _, rfl, rfl, _, _, _, _, rfl, rfl, SqL.of hRw, at_of (j := 2 * j + 1) (by omega) gb, x, nl, pl, ch, N4, M4, us, cl + (c + j) * W0, rw_.getD (2 * j) 0, rw_.getD (2 * j + 1) 0, rfl, D4, Nat.lt_of_lt_of_le b1 (pre_len p4), Nat.lt_of_lt_of_le b2 (pre_len p4), by rw [hWd]; omega, by rw [hWd]; omega, fun r N5 M5 H6 K5 D5 p5 hl5 hr5 hev => ?_⟩
        rw [hWd] at D5 hl5
        have ec : cl + (c + j) * W0 + W0 = cl + (c + (j + 1)) * W0 := by rw [← Nat.add_assoc, Nat.succ_mul]; omega
        rw [ec] at D5
        have hR6 := K5 _ _ hR4 q1 q2 q3
        refine ⟨_, hR6, sz_lt (by rw [nV_len]; omega), (K4.trans K5).mut nR4, N5, M5, ac ++ [r], D5.keep (fun b o hb z => ?_) (.put hR6 fun _ z => nomatch z), p4.trans p5, by rw [← Nat.add_assoc, Nat.succ_mul]; omega, by rw [upd_same, nV_snoc], by rw [List.length_append, hacl]; rfl, fun i r' hi => ?_⟩
        · rw [upd_ne (by rcases hb with e | e | e | e <;> rw [e] <;> first | exact q0.symm | exact q1.symm | exact q2.symm | exact q3.symm)]
          exact z
        · by_cases h : i < ac.length
          · rw [List.getElem?_append_left h] at hi
            obtain ⟨g1, g2⟩ := hac i r' hi
            exact ⟨Nat.lt_of_lt_of_le g1 (pre_len p5), fun f => by rw [pre_ev D4.good p5 g1, g2 f]⟩
          · have hi2 := (List.getElem?_eq_some_iff.mp hi).1
            rw [List.length_append] at hi2
            have ei : i = j := by simp at hi2; omega
            subst ei
            rw [List.getElem?_append_right (by omega), hacl, Nat.sub_self] at hi
            cases hi
            exact ⟨hr5, fun f => by rw [hev f, pre_ev D3.good p4 b1, pre_ev D3.good p4 b2]⟩
      · rintro H4 ⟨K4, N4, M4, ac, D4, p4, hl4, hR4, hacl, hac⟩
        obtain ⟨q0, q1, q2, q3⟩ := ne3 (D3.free K3 nR4)
        have hR34 : H4 R3 = some (.lst (nV rw_)) := K4 _ _ hR3 r1 r2 r3
        have hmulk : ((2 : Int) * (((nV ac).length : Nat) : Int)) = ((2 * ac.length : Nat) : Int) := by rw [nV_len]; omega
        have hcut : cutV (nV rw_) (some (2 * (((nV ac).length : Nat) : Int))) none = nV (rw_.drop (2 * ac.length)) := by
          rw [hmulk, cutV_tail (by rw [nV_len]; omega)]
          unfold nV; rw [List.map_drop, List.map_drop]
        refine ⟨_, rfl, _, rfl, _, rfl, _, _, rfl, .inl (SqL.of hR4), _, _, rfl, rfl, .inl ⟨by decide, by decide⟩, _, rfl, R3, _, rfl, SqL.of hR34, fun e ne => ?_⟩
        rw [hcut]
        have F1 : Ex H4 (upd H4 e (.lst (nV (rw_.drop (2 * ac.length))))) := Ex.new ne
        have he : upd H4 e (.lst (nV (rw_.drop (2 * ac.length)))) e = some (.lst (nV (rw_.drop (2 * ac.length)))) := upd_same
        generalize upd H4 e (.lst (nV (rw_.drop (2 * ac.length)))) = G1 at *
        refine ⟨R4, e, _, _, rfl, rfl, F1 _ _ hR4, he, sz_of (by rw [nV_len, nV_len, List.length_drop]; omega), fun R5 nR5 => ?_⟩
        have happ : nV ac ++ nV (rw_.drop (2 * ac.length)) = nV (ac ++ rw_.drop (2 * ac.length)) := by unfold nV; rw [List.map_append, List.map_append]
        rw [happ]
        have nR50 : H R5 = none := D4.free (K3.trans K4) (fresh_back F1 nR5)
        refine ⟨K3.trans (K4.trans (.of (F1.trans (Ex.new nR5)))), N4, M4, c + rw_.length / 2, R5, ac ++ rw_.drop (2 * ac.length), _, _, D4.ex (F1.trans (Ex.new nR5)), p3.trans p4, hl4, by rw [List.length_append, List.length_drop]; omega, upd_same, nR50, fun r hr => ?_, fun f => ?_, by rw [List.length_append, List.length_drop]; omega, rfl⟩
        · rcases List.mem_append.mp hr with z | z
          · obtain ⟨i, hi, e2⟩ := List.getElem_of_mem z
            exact (hac i r (by rw [List.getElem?_eq_getElem hi, e2])).1
          · exact Nat.lt_of_lt_of_le (hlt r (List.mem_of_mem_drop z)) (pre_len p4)
        · rw [← hsem f, List.map_append, List.map_drop]
          have e3 : (rw_.map fun a => ev N4 a f) = rw_.map fun a => ev N3 a f := List.map_congr_left fun a ha => pre_ev D3.good p4 (hlt a ha) f
          rw [e3]
          have hlm : (ac.map fun a => ev N4 a f).length = ac.length := List.length_map _
          rw [← hlm]
          refine pair_fold (g := Bool.and) (fun a b c => by cases a <;> rfl) _ _ (by rw [hlm, List.length_map]; omega) fun i hi => ?_
          rw [hlm] at hi
          have gd : ∀ k, k < rw_.length → (rw_.map fun a => ev N3 a f).getD k false = ev N3 (rw_.getD k 0) f := fun k hk => by
            rw [List.getD_eq_getElem?_getD, List.getD_eq_getElem?_getD, List.getElem?_map, List.getElem?_eq_getElem hk]; rfl
          rw [gd _ (by omega), gd _ (by omega), List.getD_eq_getElem?_getD, List.getElem?_map, List.getElem?_eq_getElem hi]
          exact (hac i _ (List.getElem?_eq_getElem hi)).2 f
    · have hm1 : rw_.length ≤ 1 := by
        have : ¬ ((1 : Int) < (((nV rw_).length : Nat) : Int)) := fun z => c1 (decide_eq_true z)
        rw [nV_len] at this
        omega
      have m1 := hmul c (by omega)
      have t3 := D3.good.two
      match rw_, hm1, hR3, hlt, hsem with
      | [], _, hR3, hlt, hsem =>
        refine ⟨_, rfl, false, .inl ⟨_, SqL.of hR3, rfl⟩, ite2 (fun z => nomatch z) (fun _ => q 1 N3 M3 H3 K3 (D3.cl_le (by omega)) p3 (by omega) (by omega) fun f => ?_)⟩
        rw [ev_lt2 (by decide), ← hsem f]; rfl
      | [r], _, hR3, hlt, hsem =>
        refine ⟨_, rfl, true, .inl ⟨_, SqL.of hR3, rfl⟩, ite2 (fun _ => ⟨_, rfl, _, _, _, _, rfl, rfl, SqL.of hR3, atI_nat (j := 0) rfl, q r N3 M3 H3 K3 (D3.cl_le (by omega)) p3 (by omega) (hlt r List.mem_cons_self) fun f => ?_⟩) (fun z => absurd rfl z)⟩
        rw [← hsem f]
        show ev N3 r f = Bool.and (ev N3 r f) true
        cases ev N3 r f <;> rfl
theorem sc_Diagrams_any_of : FnScope ["self", "references", "rows", "pairs", "k"] ["self", "references"] (defScope s_Diagrams_any_of) := ⟨rfl, rfl, rfl, by decide +kernel, rfl, by decide +kernel, by decide +kernel⟩
theorem ok_Diagrams_any_of {f0 : Addr} {d0 : FuncData} {f : Addr} {fd : FuncData} (F : Fun K "any_of" "Diagrams.any_of" s_Diagrams_any_of f fd) (W : Cl_Diagrams K mg C) (TG : TxtG mg) (T : TxtJ mg)
    (M_Diagrams_either : Meth K C "either" f0) (G_Diagrams_either : FnOk P w K mg base CX0 3 f0 d0 ["self", "a", "b"] (spTwo C Bool.or)) (b_Diagrams_either : Binds K d0 ["self", "a", "b"] []) : FnOk P w K mg base CX0 4 f fd ["self", "references"] (spJoin C Bool.or false) := by
  have c_Diagrams := W.cl
  obtain ⟨tT, g_TRUE⟩ := TG.tT
  obtain ⟨tF, g_FALSE⟩ := TG.fF
  refine F.ok sc_Diagrams_any_of (fun vs H Q E h => ?_) (fun cdv A outer s H vs Q E hr h => ?_)
  · obtain ⟨x, nl, pl, ch, N, M, us, cl, rl, rs, rfl, _⟩ := h
    rfl
  · obtain ⟨x, nl, pl, ch, N, M, us, cl, rl, rs, rfl, D, hrl, hrs, hn5, hb1, hb2, q⟩ := h
    refine ⟨_, (pss_cons (ps_set (i := 2) sc_Diagrams_any_of.nd rfl (.inr rfl) (pe_callTy call_list_of (by rfl) T.list (by decide +kernel) (pa_cons (pv 1) pa_nil)))
    (pss_cons (ps_while PassesOwn.never (pt_cmpR op_gt (pe_callB call_len_seq (by rfl) T.len (by decide +kernel) (pa_cons (pv 2) pa_nil)) pe_int (nomark _))
      (pss_cons (ps_setLc (i := 3) (own := [("k", 4)]) (g := gName 4) (tt := tYes) rfl sc_Diagrams_any_of.nd rfl rfl (sw_true rfl rfl rfl (by decide +kernel)) (pi_range3 rfl T.range (pa_cons pe_int (pa_cons (pe_op op_sub (pe_callB call_len_seq (by rfl) T.len (by decide +kernel) (pa_cons (pv 2) pa_nil)) pe_int) (pa_cons pe_int pa_nil)))) (blkOk_by (N := ["self", "references", "rows", "pairs", "k"]) (sc := defScope s_Diagrams_any_of) (own := [("k", 4)]) (by decide +kernel)) (fun _ _ _ _ _ => (pg_name (i := 4) sc_Diagrams_any_of.nd rfl (.inl rfl))) (fun _ _ _ _ _ => pts_nil) (fun _ _ _ _ _ => (pe_meth (pv 0) c_Diagrams M_Diagrams_either G_Diagrams_either (hr.mono (by omega)) b_Diagrams_either .nil pass0 (pa_cons (pe_ix (kIxL (K := K) rfl) (pv 2) (pv 4) (fun _ _ => rfl)) (pa_cons (pe_ix (kIxL (K := K) rfl) (pv 2) (pe_op op_add (pv 4) pe_int) (fun _ _ => rfl)) pa_nil)))))
      (pss_one (ps_set (i := 2) sc_Diagrams_any_of.nd rfl (.inr rfl) (pe_op op_cat (pv 3) (pe_slice sl_list (pv 2) (po_some (pe_op op_mul pe_int (pe_callB call_len_seq (by rfl) T.len (by decide +kernel) (pa_cons (pv 3) pa_nil)))) po_none))))))
    (pss_one (ps_ret (pe_ifExp (pt_truth (pv 2) (by intro _; rfl)) (pe_ix ix_list (pv 2) pe_int (fun _ _ => rfl)) (gInt rfl g_FALSE)))))), ?_⟩
    have two := D.good.two
    obtain ⟨dx, h1⟩ := D.ob
    have ne3 : ∀ {b : Addr}, H b = none → b ≠ x ∧ b ≠ nl ∧ b ≠ pl ∧ b ≠ ch := fun {b} nb => by
      obtain ⟨na, h2, _⟩ := D.nodes
      obtain ⟨es, h4, _⟩ := D.fpl
      obtain ⟨cs, h7, _⟩ := D.fch
      exact ⟨(ne_of_none h1 nb).symm, (ne_of_none h2 nb).symm, (ne_of_none h4 nb).symm, (ne_of_none h7 nb).symm⟩
    generalize hWd : wT us.length = W0 at *
    have hmul : ∀ c, c ≤ 5 → c * W0 ≤ 5 * W0 := fun c h => Nat.mul_le_mul_right _ h
    refine ⟨_, rfl, _, _, rfl, .inl (SqL.of hrl), fun R0 nR0 => ?_⟩
    refine ⟨fun μ σ H' => Kp nl pl ch H H' ∧ ∃ (N' : List Nd) (M' : Tsk → Option Nat) (c : Nat) (R : Addr) (rw_ : List Nat) (y3 y4 : Option V), Dg C us (cl + c * W0) H' x nl pl ch N' M' ∧ N <+: N' ∧ N'.length ≤ N.length + c * W0 ∧ c + rw_.length = rs.length ∧ H' R = some (.lst (nV rw_)) ∧ H R = none ∧ (∀ r ∈ rw_, r < N'.length) ∧
        (∀ f, (rw_.map fun a => ev N' a f).foldr Bool.or false = (rs.map fun a => ev N a f).foldr Bool.or false) ∧ rw_.length = μ ∧ σ = [some (.ref x), some (.ref rl), some (.ref R), y3, y4],
      ⟨rs.length, .of (Ex.new nR0), N, M, 0, R0, rs, _, _, by rw [Nat.zero_mul]; exact D.ex (Ex.new nR0), List.prefix_refl _, by omega, by omega, upd_same, nR0, hrs, fun _ => rfl, rfl, rfl⟩, ?_⟩
    rintro μ σ H3 ⟨K3, N3, M3, c, R3, rw_, y3, y4, D3, p3, hl3, hcw, hR3, nR3, hlt, hsem, hμ, rfl⟩
    obtain ⟨r0, r1, r2, r3⟩ := ne3 nR3
    refine ⟨_, rfl, _, _, rfl, .inl (SqL.of hR3), _, _, rfl, rfl, _, rfl, ite2 (fun c1 => ?_) (fun c1 => ?_)⟩
    · have hm2 : 2 ≤ rw_.length := by
        have := of_decide_eq_true c1
        rw [nV_len] at this
        omega
      have hm5 : rw_.length ≤ 5 := by omega
      have nB : (dfl nl pl ch).lookup ("either" : Str) = none := dfl_no _ _ _ (by decide +kernel) (by decide +kernel) (by decide +kernel)
      have hlen : ((nV rw_).length : Int) = ((rw_.length : Nat) : Int) := by rw [nV_len]
      have hrg : RgC 0 (((nV rw_).length : Int) - 1) 2 (rw_.length / 2) := by
        rw [hlen]
        have h4 : rw_.length = 2 ∨ rw_.length = 3 ∨ rw_.length = 4 ∨ rw_.length = 5 := by omega
        rcases h4 with e | e | e | e <;> rw [e] <;> exact ⟨by decide, by decide, by decide +kernel, by decide +kernel⟩
      refine ⟨fun σ' H' => Kp nl pl ch H H' ∧ ∃ (N' : List Nd) (M' : Tsk → Option Nat) (c : Nat) (R : Addr) (rw_ : List Nat) (y3 y4 : Option V), Dg C us (cl + c * W0) H' x nl pl ch N' M' ∧ N <+: N' ∧ N'.length ≤ N.length + c * W0 ∧ c + rw_.length = rs.length ∧ H' R = some (.lst (nV rw_)) ∧ H R = none ∧ (∀ r ∈ rw_, r < N'.length) ∧ (∀ f, (rw_.map fun a => ev N' a f).foldr Bool.or false = (rs.map fun a => ev N a f).foldr Bool.or false) ∧ rw_.length < μ ∧ σ' = [some (.ref x), some (.ref rl), some (.ref R), y3, y4], ?_, ?_⟩
      · rintro σ' H' ⟨b1, b2, b3, b4, b5, b6, b7, b8, b9, b10, b11, b12, b13, b14, b15, b16, b17, b18⟩
        exact ⟨_, b17, b1, b2, b3, b4, b5, b6, b7, b8, b9, b10, b11, b12, b13, b14, b15, b16, rfl, b18⟩
      refine ⟨_, rfl, _, _, rfl, .inl (SqL.of hR3), _, _, rfl, rfl, _, _, _, rw_.length / 2, rfl, hrg, fun R4 nR4 => wk_it walk_rangeC
        (fun j H' => Kp nl pl ch H3 H' ∧ ∃ (N' : List Nd) (M' : Tsk → Option Nat) (ac : List Nat), Dg C us (cl + (c + j) * W0) H' x nl pl ch N' M' ∧ N3 <+: N' ∧ N'.length ≤ N.length + (c + j) * W0 ∧ H' R4 = some (.lst (nV ac)) ∧ ac.length = j ∧
          ∀ i r, ac[i]? = some r → r < N'.length ∧ ∀ f, ev N' r f = Bool.or (ev N3 (rw_.getD (2 * i) 0) f) (ev N3 (rw_.getD (2 * i + 1) 0) f))
        ⟨.of (Ex.new nR4), N3, M3, [], D3.ex (Ex.new nR4), List.prefix_refl _, hl3, upd_same, rfl, (fun i r z => by rw [List.getElem?_nil] at z; cases z)⟩ (fun _ _ _ _ => trivial) ?_ ?_⟩
      · rintro j z H4 H5 hj ⟨K4, N4, M4, ac, D4, p4, hl4, hR4, hacl, hac⟩ ⟨rfl, ez⟩
        have ez := ez.trans (show V.int (0 + ((j : Nat) : Int) * 2) = .int ((2 * j : Nat) : Int) by congr 1; omega)
        subst ez
        have nR40 : H R4 = none := D3.free K3 nR4
        obtain ⟨q0, q1, q2, q3⟩ := ne3 nR40
        obtain ⟨dx4, h14⟩ := D4.ob
        have hRw : H5 R3 = some (.lst (nV rw_)) := K4 _ _ hR3 r1 r2 r3
        have a1 : 2 * j < rw_.length := by omega
        have a2 : 2 * j + 1 < rw_.length := by omega
        have ga : (nV rw_)[2 * j]? = some (.int ((rw_.getD (2 * j) 0 : Nat) : Int)) := by
          unfold nV
          rw [List.getElem?_map, List.getElem?_map, List.getD_eq_getElem?_getD, List.getElem?_eq_getElem a1]; rfl
        have gb : (nV rw_)[2 * j + 1]? = some (.int ((rw_.getD (2 * j + 1) 0 : Nat) : Int)) := by
          unfold nV
          rw [List.getElem?_map, List.getElem?_map, List.getD_eq_getElem?_getD, List.getElem?_eq_getElem a2]; rfl
        have b1 : rw_.getD (2 * j) 0 < N3.length := by rw [List.getD_eq_getElem?_getD, List.getElem?_eq_getElem a1]; exact hlt _ (List.getElem_mem a1)
        have b2 : rw_.getD (2 * j + 1) 0 < N3.length := by rw [List.getD_eq_getElem?_getD, List.getElem?_eq_getElem a2]; exact hlt _ (List.getElem_mem a2)
        have m1 := hmul (c + j) (by omega)
        refine ⟨rfl, tYes_in ?_⟩
        simp only [wipe, _root_.L2.start, List.map_cons, List.map_nil, List.length_cons, List.length_nil, Nat.reduceAdd, Nat.reduceSub, List.replicate_succ, List.replicate_zero, List.cons_append, List.nil_append, List.set_cons_zero, List.set_cons_succ]
        refine ⟨_, rfl, x, dx4, _, rfl, h14, nB, _, rfl, _, rfl, _, _, _, _, rfl, rfl, SqL.of hRw, at_of (j := 2 * j) rfl ga, _, rfl, _, rfl, _, _, rfl, rfl, _, _, _, _, rfl, rfl, SqL.of hRw, at_of (j := 2 * j + 1) (by omega) gb, x, nl, pl, ch, N4, M4, us, cl + (c + j) * W0, rw_.getD (2 * j) 0, rw_.getD (2 * j + 1) 0, rfl, D4, Nat.lt_of_lt_of_le b1 (pre_len p4), Nat.lt_of_lt_of_le b2 (pre_len p4), by rw [hWd]; omega, by rw [hWd]; omega, fun r N5 M5 H6 K5 D5 p5 hl5 hr5 hev => ?_⟩
        rw [hWd] at D5 hl5
        have ec : cl + (c + j) * W0 + W0 = cl + (c + (j + 1)) * W0 := by rw [← Nat.add_assoc, Nat.succ_mul]; omega
        rw [ec] at D5
        have hR6 := K5 _ _ hR4 q1 q2 q3
        refine ⟨_, hR6, sz_lt (by rw [nV_len]; omega), (K4.trans K5).mut nR4, N5, M5, ac ++ [r], D5.keep (fun b o hb z => ?_) (.put hR6 fun _ z => nomatch z), p4.trans p5, by rw [← Nat.add_assoc, Nat.succ_mul]; omega, by rw [upd_same, nV_snoc], by rw [List.length_append, hacl]; rfl, fun i r' hi => ?_⟩
        · rw [upd_ne (by rcases hb with e | e | e | e <;> rw [e] <;> first | exact q0.symm | exact q1.symm | exact q2.symm | exact q3.symm)]
          exact z
        · by_cases h : i < ac.length
          · rw [List.getElem?_append_left h] at hi
            obtain ⟨g1, g2⟩ := hac i r' hi
            exact ⟨Nat.lt_of_lt_of_le g1 (pre_len p5), fun f => by rw [pre_ev D4.good p5 g1, g2 f]⟩
          · have hi2 := (List.getElem?_eq_some_iff.mp hi).1
            rw [List.length_append] at hi2
            have ei : i = j := by simp at hi2; omega
            subst ei
            rw [List.getElem?_append_right (by omega), hacl, Nat.sub_self] at hi
            cases hi
            exact ⟨hr5, fun f => by rw [hev f, pre_ev D3.good p4 b1, pre_ev D3.good p4 b2]⟩
      · rintro H4 ⟨K4, N4, M4, ac, D4, p4, hl4, hR4, hacl, hac⟩
        obtain ⟨q0, q1, q2, q3⟩ := ne3 (D3.free K3 nR4)
        have hR34 : H4 R3 = some (.lst (nV rw_)) := K4 _ _ hR3 r1 r2 r3
        have hmulk : ((2 : Int) * (((nV ac).length : Nat) : Int)) = ((2 * ac.length : Nat) : Int) := by rw [nV_len]; omega
        have hcut : cutV (nV rw_) (some (2 * (((nV ac).length : Nat) : Int))) none = nV (rw_.drop (2 * ac.length)) := by
          rw [hmulk, cutV_tail (by rw [nV_len]; omega)]
          unfold nV; rw [List.map_drop, List.map_drop]
        refine ⟨_, rfl, _, rfl, _, rfl, _, _, rfl, .inl (SqL.of hR4), _, _, rfl, rfl, .inl ⟨by decide, by decide⟩, _, rfl, R3, _, rfl, SqL.of hR34, fun e ne => ?_⟩
        rw [hcut]
        have F1 : Ex H4 (upd H4 e (.lst (nV (rw_.drop (2 * ac.length))))) := Ex.new ne
        have he : upd H4 e (.lst (nV (rw_.drop (2 * ac.length)))) e = some (.lst (nV (rw_.drop (2 * ac.length)))) := upd_same
        generalize upd H4 e (.lst (nV (rw_.drop (2 * ac.length)))) = G1 at *
        refine ⟨R4, e, _, _, rfl, rfl, F1 _ _ hR4, he, sz_of (by rw [nV_len, nV_len, List.length_drop]; omega), fun R5 nR5 => ?_⟩
        have happ : nV ac ++ nV (rw_.drop (2 * ac.length)) = nV (ac ++ rw_.drop (2 * ac.length)) := by unfold nV; rw [List.map_append, List.map_append]
        rw [happ]
        have nR50 : H R5 = none := D4.free (K3.trans K4) (fresh_back F1 nR5)
        refine ⟨K3.trans (K4.trans (.of (F1.trans (Ex.new nR5)))), N4, M4, c + rw_.length / 2, R5, ac ++ rw_.drop (2 * ac.length), _, _, D4.ex (F1.trans (Ex.new nR5)), p3.trans p4, hl4, by rw [List.length_append, List.length_drop]; omega, upd_same, nR50, fun r hr => ?_, fun f => ?_, by rw [List.length_append, List.length_drop]; omega, rfl⟩
        · rcases List.mem_append.mp hr with z | z
          · obtain ⟨i, hi, e2⟩ := List.getElem_of_mem z
            exact (hac i r (by rw [List.getElem?_eq_getElem hi, e2])).1
          · exact Nat.lt_of_lt_of_le (hlt r (List.mem_of_mem_drop z)) (pre_len p4)
        · rw [← hsem f, List.map_append, List.map_drop]
          have e3 : (rw_.map fun a => ev N4 a f) = rw_.map fun a => ev N3 a f := List.map_congr_left fun a ha => pre_ev D3.good p4 (hlt a ha) f
          rw [e3]
          have hlm : (ac.map fun a => ev N4 a f).length = ac.length := List.length_map _
          rw [← hlm]
          refine pair_fold (g := Bool.or) (fun a b c => by cases a <;> rfl) _ _ (by rw [hlm, List.length_map]; omega) fun i hi => ?_
          rw [hlm] at hi
          have gd : ∀ k, k < rw_.length → (rw_.map fun a => ev N3 a f).getD k false = ev N3 (rw_.getD k 0) f := fun k hk => by
            rw [List.getD_eq_getElem?_getD, List.getD_eq_getElem?_getD, List.getElem?_map, List.getElem?_eq_getElem hk]; rfl
          rw [gd _ (by omega), gd _ (by omega), List.getD_eq_getElem?_getD, List.getElem?_map, List.getElem?_eq_getElem hi]
          exact (hac i _ (List.getElem?_eq_getElem hi)).2 f
    · have hm1 : rw_.length ≤ 1 := by
        have : ¬ ((1 : Int) < (((nV rw_).length : Nat) : Int)) := fun z => c1 (decide_eq_true z)
        rw [nV_len] at this
        omega
      have m1 := hmul c (by omega)
      have t3 := D3.good.two
      match rw_, hm1, hR3, hlt, hsem with
      | [], _, hR3, hlt, hsem =>
        refine ⟨_, rfl, false, .inl ⟨_, SqL.of hR3, rfl⟩, ite2 (fun z => nomatch z) (fun _ => q 0 N3 M3 H3 K3 (D3.cl_le (by omega)) p3 (by omega) (by omega) fun f => ?_)⟩
        rw [ev_lt2 (by decide), ← hsem f]; rfl
      | [r], _, hR3, hlt, hsem =>
        refine ⟨_, rfl, true, .inl ⟨_, SqL.of hR3, rfl⟩, ite2 (fun _ => ⟨_, rfl, _, _, _, _, rfl, rfl, SqL.of hR3, atI_nat (j := 0) rfl, q r N3 M3 H3 K3 (D3.cl_le (by omega)) p3 (by omega) (hlt r List.mem_cons_self) fun f => ?_⟩) (fun z => absurd rfl z)⟩
        rw [← hsem f]
        show ev N3 r f = Bool.or (ev N3 r f) false
        cases ev N3 r f <;> rfl
end
end G
namespace G
open PySem PySem.Spec PyProof.Rows L2 Evl
/-! ## bools: the order of tuples, how often in a list -/
theorem vals_bls : ∀ {bs : List Bool} {us : List Value}, Vals (bs.map V.bl) us → us = bs.map Value.bool
  | [], us, h => by
    rw [List.map_nil] at h
    cases h
    rfl
  | n :: ns, us, h => by
    rw [List.map_cons] at h
    cases h with
    | cons r t =>
      rw [vals_bls t]
      cases r
      rfl
theorem gives_lt_bool (a b : Bool) : Gives (Builtin.«int.__lt__» ⟨[.bool a, .bool b], []⟩) (.val (Value.bool (decide ((if a = true then (1 : Int) else 0) < if b = true then (1 : Int) else 0)))) := .of_eq rfl
theorem rc_lt_bool {A : Around} {s : Shared} (a b : Bool) : Ob.RcOp .Lt A s (.bool a) (.bool b) (!a && b) := fun prog w E Q h =>
  richCompare_gives (T := "bool") rfl rfl F.slot_bool_lt F.entry_int_lt (F.args_int_lt_2 _ _) (gives_lt_bool a b) (fun x => nomatch x) (by cases a <;> cases b <;> first | exact h | simpa using h)
/-- a < b of tuples of bools -/
def ltBs (a b : List Bool) : Bool := Ob.lexAt (fun j => a.getD j false == b.getD j false) (fun j => !a.getD j false && b.getD j false) (decide (a.length < b.length)) 0 (min a.length b.length)
def rLtB (K : PySem.W.Frag) : R2 := fun x y H Q => ∃ (a b : Addr) (ns ms : List Bool), x = .ref a ∧ y = .ref b ∧ SqT K H a (ns.map V.bl) ∧ SqT K H b (ms.map V.bl) ∧ Q (.bl (ltBs ns ms)) H
theorem op_ltB {X : Cx} (hu : X.A.units < cLine) : OpR X (compareOp .Lt) (rLtB X.K) := by
  intro pins s σ H x y v u Q I rx ry h
  obtain ⟨a, b, ns, ms, rfl, rfl, ha, hb, q⟩ := h
  cases rx
  cases ry
  obtain ⟨its, r1, p1, _⟩ := I.tuple ha
  obtain ⟨its2, r2, p2, _⟩ := I.tuple hb
  have i1 := vals_bls r1
  have i2 := vals_bls r2
  subst i1 i2
  have e1 : (ns.map Value.bool).toArray.size = ns.length := by simp
  have e2 : (ms.map Value.bool).toArray.size = ms.length := by simp
  have at_ : ∀ (l : List Bool) j (h1 : j < (l.map Value.bool).toArray.size), (l.map Value.bool).toArray[j] = .bool (l.getD j false) := fun l j h1 => by
    have h2 : j < l.length := by simpa using h1
    rw [List.getD_eq_getElem?_getD, List.getElem?_eq_getElem h2]
    simp
  have R := Ob.RcOp.tuples_lt (A := X.A) (s := s) (e := fun j => ns.getD j false == ms.getD j false) (r := fun j => !ns.getD j false && ms.getD j false) p1 p2 hu (fun j h1 h2 => by
    rw [at_ _ _ h1, at_ _ _ h2]
    exact SeqAt.EqAt.bool_bool _ _) (fun j h1 h2 _ => by
    rw [at_ _ _ h1, at_ _ _ h2]
    exact rc_lt_bool _ _)
  rw [e1, e2] at R
  have z : wpAny (model X.prog X.w) X.A (compareOp .Lt (.ref a) (.ref b)) (EP X pins σ Q) X.xe s := R X.prog X.w X.xe (EP X pins σ Q) ⟨.bl _, H, I, rfl, q⟩
  exact z
def eqB (k : Bool) (v : Value) : Bool := match v with
  | .bool n => n == k
  | _ => false
theorem eqB_count (k : Bool) : ∀ bs : List Bool, (bs.map Value.bool).countP (eqB k) = bs.count k
  | [] => rfl
  | b :: bs => by
    have ih := eqB_count k bs
    rw [List.map_cons, List.countP_cons, List.count_cons, ih] <;> rfl
def rCntB (K : PySem.W.Frag) : V → List V → Hp → VK → Prop := fun x xs H Q => ∃ (p : Addr) (bs : List Bool) (k : Bool), x = .ref p ∧ xs = [.bl k] ∧ SqL K H p (bs.map V.bl) ∧ Q (.int (bs.count k : Nat)) H
theorem mt_lcountB {X : Cx} : MtR X "list.count" (rCntB X.K) := by
  intro pins s σ H x xs v us Q I rx rxs h
  obtain ⟨p, bs, k, rfl, rfl, hs, q⟩ := h
  cases rx
  obtain ⟨u, rfl, ru⟩ := rxs.one
  cases ru
  obtain ⟨its, rv, ⟨⟨cls, dd, data, sl⟩, n, ho, hc, hdn, hd⟩, hlen⟩ := I.list hs
  simp only at hc hd
  subst hc hd
  have hi := vals_bls rv
  subst hi
  refine call_meets PySem.F.slot_list_count ⟨_, ho, rfl⟩ PySem.F.entry_list_count (PySem.F.args_list_count_2 _ _)
    (SeqAt.list_countAt p (bs.map Value.bool).toArray n dd sl (.bool k) (eqB k)) ⟨ho, fun y hy => ?_, ?_⟩
  · have hy' : y ∈ bs.map Value.bool := by simpa using hy
    obtain ⟨b, _, rfl⟩ := List.mem_map.mp hy'
    exact SeqAt.EqAt.bool_bool b k
  have ec : (bs.map Value.bool).toArray.toList.countP (eqB k) = bs.count k := eqB_count k bs
  refine ⟨.int (bs.count k : Nat), H, I.tok _, ⟨s.toks, ?_⟩, q⟩
  show Value.int (((bs.map Value.bool).toArray.toList.countP (eqB k) : Nat) : Int) s.toks = Value.int ((bs.count k : Nat) : Int) s.toks
  rw [ec]
theorem kMtCount {X : Cx} {K : PySem.W.Frag} (h : X.K = K) : MtR X "list.count" (rCntB K) := by subst h; exact mt_lcountB
end G
namespace G
/-! ## what `support`, `least` and `count` say: the mathematics -/
section
variable {N : List Nd}
theorem setF_same {f : Nat → Bool} {k : Nat} {v : Bool} (h : f k = v) : setF f k v = f := by
  funext j
  unfold setF
  by_cases z : j = k
  · rw [if_pos z, z, h]
  · rw [if_neg z]
theorem setF_comm (f : Nat → Bool) {i j : Nat} (h : i ≠ j) (u v : Bool) : setF (setF f i u) j v = setF (setF f j v) i u := by
  funext x
  unfold setF
  by_cases a : x = j
  · rw [if_pos a, if_neg (by omega), if_pos a]
  · rw [if_neg a]
    by_cases b : x = i
    · rw [if_pos b, if_pos b]
    · rw [if_neg b, if_neg b, if_neg a]
/-- the variable of what lies on a path is not above its start -/
theorem pathL_lv (G : GoodN N) : ∀ r t a, a < N.length → lvGe N t a → ∀ b ∈ pathL N r a, t ≤ (ndA N b).k
  | 0, _, _, _, _, b, hb => nomatch hb
  | r + 1, t, a, ha, hl, b, hb => by
    have hb : b ∈ (if a < 2 then [] else a :: (pathL N r (ndA N a).lo ++ pathL N r (ndA N a).hi) : List Nat) := hb
    by_cases h2 : a < 2
    · rw [if_pos h2] at hb; cases hb
    rw [if_neg h2] at hb
    have hn := nd_at ha
    have ht := hl _ (by omega) hn
    have kid : ∀ c, (c = (ndA N a).lo ∨ c = (ndA N a).hi) → b ∈ pathL N r c → t ≤ (ndA N b).k := fun c hc hbc => by
      obtain ⟨l1, l2⟩ := kid_lv G (by omega) hn hc
      have := pathL_lv G r _ c l1 l2 b hbc
      omega
    rcases List.mem_cons.mp hb with z | z
    · subst z; exact ht
    · rcases List.mem_append.mp z with z | z
      · exact kid _ (.inl rfl) z
      · exact kid _ (.inr rfl) z
theorem pathL_go (G : GoodN N) : ∀ r t a, a < N.length → lvGe N t a → ∀ b ∈ pathL N r a, b < N.length ∧ 2 ≤ b ∧ ∃ g : Nat → Bool, ∀ f : Nat → Bool, (∀ j, t ≤ j → j < (ndA N b).k → f j = g j) → ev N a f = ev N b f
  | 0, _, _, _, _, b, hb => nomatch hb
  | r + 1, t, a, ha, hl, b, hb => by
    have hb : b ∈ (if a < 2 then [] else a :: (pathL N r (ndA N a).lo ++ pathL N r (ndA N a).hi) : List Nat) := hb
    by_cases h2 : a < 2
    · rw [if_pos h2] at hb; cases hb
    rw [if_neg h2] at hb
    have hn := nd_at ha
    have ht := hl _ (by omega) hn
    have kid : ∀ v : Bool, b ∈ pathL N r (if v = true then (ndA N a).hi else (ndA N a).lo) → b < N.length ∧ 2 ≤ b ∧ ∃ g : Nat → Bool, ∀ f : Nat → Bool, (∀ j, t ≤ j → j < (ndA N b).k → f j = g j) → ev N a f = ev N b f := fun v hbc => by
      obtain ⟨l1, l2⟩ := kid_lv G (c := if v = true then (ndA N a).hi else (ndA N a).lo) (by omega) hn (by cases v; exact .inl rfl; exact .inr rfl)
      have lv := pathL_lv G r _ _ l1 l2 b hbc
      obtain ⟨q1, q2, g, hg⟩ := pathL_go G r _ _ l1 l2 b hbc
      refine ⟨q1, q2, setF g (ndA N a).k v, fun f hf => ?_⟩
      have hk := hf (ndA N a).k ht (by omega)
      have ek : f (ndA N a).k = v := by rw [hk]; unfold setF; rw [if_pos rfl]
      rw [ev_node G (by omega) hn, ek]
      refine hg f fun j h1 h2 => ?_
      rw [hf j (by omega) h2]
      unfold setF
      rw [if_neg (by omega)]
    rcases List.mem_cons.mp hb with z | z
    · subst z; exact ⟨ha, by omega, fun _ => false, fun f _ => rfl⟩
    · rcases List.mem_append.mp z with z | z
      · exact kid false z
      · exact kid true z
/-- the function at a depends on the variable k -/
def DepN (N : List Nd) (a k : Nat) : Prop := ∃ f, ev N a (setF f k false) ≠ ev N a (setF f k true)
theorem dep_of_path (G : GoodN N) {r t a : Nat} (ha : a < N.length) (hl : lvGe N t a) {b : Nat} (hb : b ∈ pathL N r a) : DepN N a (ndA N b).k := by
  obtain ⟨b1, b2, g, hg⟩ := pathL_go G r t a ha hl b hb
  have hn := nd_at b1
  obtain ⟨l1, l2, l3⟩ := G.lt b _ b2 hn
  refine Classical.byContradiction fun hno => l3 (canon' G (by omega) (by omega) fun f => ?_)
  obtain ⟨_, k1⟩ := kid_lv G b2 hn (.inl rfl)
  obtain ⟨_, k2⟩ := kid_lv G b2 hn (.inr rfl)
  -- below the variable of b as on the path, f from there on
  let f' : Nat → Bool := fun j => if j < (ndA N b).k then g j else f j
  have e1 : ∀ v, ev N a (setF f' (ndA N b).k v) = ev N b (setF f (ndA N b).k v) := fun v => by
    rw [hg _ fun j _ hj => by show setF f' _ v j = g j; unfold setF; rw [if_neg (by omega)]; show (if j < _ then _ else _) = _; rw [if_pos hj]]
    refine ev_indep G (ndA N b).k b b1 (fun m _ hm => by rw [hn] at hm; cases hm; exact Nat.le_refl _) _ _ fun j hj => ?_
    unfold setF
    split
    · rfl
    · show (if j < _ then _ else _) = _; rw [if_neg (by omega)]
  have h0 := e1 false
  have h1 := e1 true
  rw [← ev_kid G b2 hn false f] at h0
  rw [← ev_kid G b2 hn true f] at h1
  refine Decidable.byContradiction fun hne => hno ⟨f', ?_⟩
  rw [h0, h1]
  exact hne
theorem indep_of_shut (G : GoodN N) {bl : List Nat} {k : Nat} (hs : ∀ b ∈ bl, 2 ≤ b ∧ b < N.length ∧ In2 bl (ndA N b).lo ∧ In2 bl (ndA N b).hi) (hk : ∀ b ∈ bl, (ndA N b).k ≠ k) (f : Nat → Bool) (v : Bool) : ∀ n a, a < n → In2 bl a → ev N a (setF f k v) = ev N a f
  | 0, _, h, _ => absurd h (by omega)
  | n + 1, a, h, hi => by
    by_cases h2 : a < 2
    · rw [ev_lt2 h2, ev_lt2 h2]
    · have hb : a ∈ bl := hi.resolve_left h2
      obtain ⟨_, b1, b2, b3⟩ := hs a hb
      have hn := nd_at b1
      obtain ⟨l1, l2, _⟩ := G.lt a _ (by omega) hn
      have ek : setF f k v (ndA N a).k = f (ndA N a).k := by unfold setF; rw [if_neg (hk a hb)]
      rw [ev_node G (by omega) hn, ev_node G (by omega) hn, ek]
      split
      · exact indep_of_shut G hs hk f v n _ (by omega) b3
      · exact indep_of_shut G hs hk f v n _ (by omega) b2
theorem below_dep (G : GoodN N) {vs : List Nat} {a k : Nat} {bl : List Nat} (ha : a < N.length) (B : Below N vs a bl) : (∃ b ∈ bl, (ndA N b).k = k) ↔ DepN N a k := by
  constructor
  · rintro ⟨b, hb, rfl⟩
    exact dep_of_path G (t := 0) ha (fun _ _ _ => Nat.zero_le _) (B.path b hb)
  · rintro ⟨f, hf⟩
    refine Decidable.byContradiction fun hno => hf ?_
    have hk : ∀ b ∈ bl, (ndA N b).k ≠ k := fun b hb e => hno ⟨b, hb, e⟩
    rw [indep_of_shut G B.shut hk f false (a + 1) a (by omega) B.top, indep_of_shut G B.shut hk f true (a + 1) a (by omega) B.top]
/-- earlier in the order of rows -/
def ltF (f g : Nat → Bool) : Prop := ∃ j, f j = false ∧ g j = true ∧ ∀ i, i < j → f i = g i
theorem bitF_set {bits : List Bool} {k : Nat} (h : k < bits.length) (v : Bool) : bitF (bits.set k v) = setF (bitF bits) k v := by
  funext j
  show (bits.set k v).getD j false = if j = k then v else bits.getD j false
  rw [List.getD_eq_getElem?_getD, List.getD_eq_getElem?_getD, List.getElem?_set]
  by_cases e : j = k
  · subst e
    rw [if_pos rfl, if_pos h, if_pos rfl]; rfl
  · rw [if_neg fun z => e z.symm, if_neg e]
theorem least_ok (G : GoodN N) {a : Nat} {bits out : List Bool} (r : LeastR N a bits out) : ∀ t, a < N.length → lvGe N t a → (∀ i n, 2 ≤ i → N[i]? = some n → n.k < bits.length) → (∀ j, t ≤ j → bitF bits j = false) →
    (∀ j, j < t → bitF out j = bitF bits j) ∧ ev N a (bitF out) = true ∧ (∀ f, ev N a f = true → ¬ ∃ j, t ≤ j ∧ f j = false ∧ bitF out j = true ∧ ∀ i, t ≤ i → i < j → f i = bitF out i) ∧
    ∀ us : List Nat, VarsIn us N → ∀ j, t ≤ j → bitF out j = true → j ∈ us := by
  induction r with
  | done bits =>
    intro t _ _ _ h0
    refine ⟨fun _ _ => rfl, ev_lt2 (by decide), fun f _ ⟨j, h1, _, h2, _⟩ => ?_, fun us _ j hj h => ?_⟩
    · rw [h0 j h1] at h2; cases h2
    · rw [h0 j hj] at h; cases h
  | @step a bits out h2 ha r ih =>
    intro t _ hl hb h0
    have hn := nd_at ha
    obtain ⟨l1, l2, l3⟩ := G.lt a _ h2 hn
    have ht := hl _ h2 hn
    have hkb := hb a _ h2 hn
    generalize hv : decide ((ndA N a).lo = 0) = v at *
    have enx : (if (ndA N a).lo = 0 then (ndA N a).hi else (ndA N a).lo) = (if v = true then (ndA N a).hi else (ndA N a).lo) := by
      subst hv
      by_cases z : (ndA N a).lo = 0
      · rw [if_pos z, if_pos (decide_eq_true z)]
      · rw [if_neg z, if_neg (by rw [decide_eq_false z]; decide)]
    rw [enx] at ih
    obtain ⟨k1, k2⟩ := kid_lv G (c := if v = true then (ndA N a).hi else (ndA N a).lo) h2 hn (by cases v; exact .inl rfl; exact .inr rfl)
    obtain ⟨i1, i2, i3, i4⟩ := ih ((ndA N a).k + 1) k1 k2 (fun i n h h' => by rw [List.length_set]; exact hb i n h h') (fun j hj => by rw [bitF_set hkb]; unfold setF; rw [if_neg (by omega)]; exact h0 j (by omega))
    have ok : bitF out (ndA N a).k = v := by rw [i1 _ (by omega), bitF_set hkb]; unfold setF; rw [if_pos rfl]
    have olow : ∀ j, j < (ndA N a).k → bitF out j = bitF bits j := fun j hj => by rw [i1 j (by omega), bitF_set hkb]; unfold setF; rw [if_neg (by omega)]
    refine ⟨fun j hj => olow j (by omega), by rw [ev_node G h2 hn, ok]; exact i2, fun f hf hx => ?_, fun us hV j hj h => ?_⟩
    · obtain ⟨j, hj, f0, o1, same⟩ := hx
      rcases Nat.lt_trichotomy j (ndA N a).k with z | z | z
      · rw [olow j z, h0 j hj] at o1; cases o1
      · subst z
        rw [ok] at o1
        subst o1
        have hlo : (ndA N a).lo = 0 := of_decide_eq_true hv
        rw [ev_node G h2 hn, f0, if_neg (by decide), hlo, ev_lt2 (by decide)] at hf
        cases hf
      · have ek := same (ndA N a).k ht z
        rw [ok] at ek
        rw [ev_node G h2 hn, ek] at hf
        exact i3 f hf ⟨j, by omega, f0, o1, fun i h1 h2 => same i (by omega) h2⟩
    · by_cases z : j < (ndA N a).k
      · rw [olow j z, h0 j hj] at h; cases h
      · by_cases y : j = (ndA N a).k
        · rw [y]; exact hV a _ h2 hn
        · exact i4 us hV j (by omega) h
/-! ### counting -/
/-- how many ways to set n variables from t on make it true -/
def sumN (N : List Nd) (a : Nat) : Nat → Nat → (Nat → Bool) → Nat
  | 0, _, g => if ev N a g = true then 1 else 0
  | n + 1, t, g => sumN N a n (t + 1) (setF g t false) + sumN N a n (t + 1) (setF g t true)
theorem sumN_cong (G : GoodN N) {a u : Nat} (ha : a < N.length) (hu : lvGe N u a) : ∀ n t (f g : Nat → Bool), (∀ j, u ≤ j → f j = g j) → sumN N a n t f = sumN N a n t g
  | 0, t, f, g, h => by unfold sumN; rw [ev_indep G u a ha hu f g h]
  | n + 1, t, f, g, h => by
    have : ∀ v, ∀ j, u ≤ j → setF f t v j = setF g t v j := fun v j hj => by
      unfold setF
      split
      · rfl
      · exact h j hj
    unfold sumN
    rw [sumN_cong G ha hu n (t + 1) _ _ (this false), sumN_cong G ha hu n (t + 1) _ _ (this true)]
theorem sumN_skip (G : GoodN N) {a u : Nat} (ha : a < N.length) (hu : lvGe N u a) : ∀ d n t (g : Nat → Bool), t + d ≤ u → sumN N a (d + n) t g = 2 ^ d * sumN N a n (t + d) g
  | 0, n, t, g, _ => by rw [Nat.zero_add, Nat.pow_zero, Nat.one_mul, Nat.add_zero]
  | d + 1, n, t, g, h => by
    rw [show d + 1 + n = (d + n) + 1 by omega]
    show sumN N a (d + n) (t + 1) _ + sumN N a (d + n) (t + 1) _ = _
    rw [sumN_cong G ha hu (d + n) (t + 1) (setF g t false) g fun j hj => by unfold setF; rw [if_neg (by omega)], sumN_cong G ha hu (d + n) (t + 1) (setF g t true) g fun j hj => by unfold setF; rw [if_neg (by omega)]]
    rw [sumN_skip G ha hu d n (t + 1) g (by omega), show t + (d + 1) = t + 1 + d by omega, Nat.pow_succ]
    rw [Nat.mul_comm (2 ^ d) 2, Nat.mul_assoc]; omega
theorem sumN_ev {a b : Nat} : ∀ n t (g : Nat → Bool), (∀ f : Nat → Bool, (∀ j, j < t → f j = g j) → ev N a f = ev N b f) → sumN N a n t g = sumN N b n t g
  | 0, t, g, h => by unfold sumN; rw [h g fun _ _ => rfl]
  | n + 1, t, g, h => by
    have : ∀ v, ∀ f : Nat → Bool, (∀ j, j < t + 1 → f j = setF g t v j) → ev N a f = ev N b f := fun v f hf => h f fun j hj => by
      rw [hf j (by omega)]; unfold setF; rw [if_neg (by omega)]
    unfold sumN
    rw [sumN_ev n (t + 1) _ (this false), sumN_ev n (t + 1) _ (this true)]
theorem cn_sum (G : GoodN N) {many : Nat} (hk : ∀ i n, 2 ≤ i → N[i]? = some n → n.k < many) : ∀ n a, a < n → a < N.length → ∀ g, sumN N a (many - levN N many a) (levN N many a) g = cn N many a
  | 0, _, h, _, _ => absurd h (by omega)
  | n + 1, a, h, ha, g => by
    by_cases h2 : a < 2
    · have e0 : levN N many a = many := by unfold levN; rw [if_pos h2]
      rw [e0, Nat.sub_self, cn_lt2 h2]
      show (if ev N a g = true then 1 else 0) = a
      rw [ev_lt2 h2]
      obtain rfl | rfl : a = 0 ∨ a = 1 := by omega
      · rfl
      · rfl
    · have hn := nd_at ha
      obtain ⟨l1, l2, _⟩ := G.lt a _ (by omega) hn
      have ka := hk a _ (by omega) hn
      have e0 : levN N many a = (ndA N a).k := by unfold levN; rw [if_neg h2]
      have kid : ∀ v : Bool, sumN N a (many - (ndA N a).k - 1) ((ndA N a).k + 1) (setF g (ndA N a).k v) = cn N many (if v = true then (ndA N a).hi else (ndA N a).lo) * 2 ^ (levN N many (if v = true then (ndA N a).hi else (ndA N a).lo) - (ndA N a).k - 1) := fun v => by
        generalize hc : (if v = true then (ndA N a).hi else (ndA N a).lo) = c
        have hc' : c = (ndA N a).lo ∨ c = (ndA N a).hi := by subst hc; cases v; exact .inl rfl; exact .inr rfl
        obtain ⟨k1, k2⟩ := kid_lv G (by omega) hn hc'
        have lev : (ndA N a).k < levN N many c ∧ levN N many c ≤ many := by
          unfold levN
          split
          · exact ⟨ka, Nat.le_refl _⟩
          · rename_i h2'
            exact ⟨k2 _ (by omega) (nd_at k1), Nat.le_of_lt (hk c _ (by omega) (nd_at k1))⟩
        have lvc : lvGe N (levN N many c) c := fun m hm1 hm => by
          unfold levN
          rw [if_neg (by omega), ndA_of hm]
          exact Nat.le_refl _
        rw [sumN_ev (b := c) _ _ _ fun f hf => by
          rw [ev_node G (by omega) hn, hf _ (by omega)]
          rw [show setF g (ndA N a).k v (ndA N a).k = v by unfold setF; rw [if_pos rfl], hc]]
        rw [show many - (ndA N a).k - 1 = (levN N many c - (ndA N a).k - 1) + (many - levN N many c) by omega]
        rw [sumN_skip G k1 lvc _ _ _ _ (by omega), show (ndA N a).k + 1 + (levN N many c - (ndA N a).k - 1) = levN N many c by omega]
        rw [cn_sum G hk n c (by rcases hc' with e | e <;> omega) k1, Nat.mul_comm]
      have kl := kid false
      have kh := kid true
      rw [if_neg (by decide)] at kl
      rw [if_pos rfl] at kh
      rw [e0, cn_node G many (by omega) ha, ← kl, ← kh, show many - (ndA N a).k = (many - (ndA N a).k - 1) + 1 by omega]
      rfl
theorem cn_all (G : GoodN N) {many a : Nat} (hk : ∀ i n, 2 ≤ i → N[i]? = some n → n.k < many) (ha : a < N.length) (g : Nat → Bool) : cn N many a * 2 ^ levN N many a = sumN N a many 0 g := by
  have lev : levN N many a ≤ many := by
    unfold levN
    split
    · exact Nat.le_refl _
    · exact Nat.le_of_lt (hk a _ (by omega) (nd_at ha))
  have lvc : lvGe N (levN N many a) a := fun m hm1 hm => by
    unfold levN
    rw [if_neg (by omega), ndA_of hm]
    exact Nat.le_refl _
  have := sumN_skip G ha lvc (levN N many a) (many - levN N many a) 0 g (by omega)
  rw [show levN N many a + (many - levN N many a) = many by omega, Nat.zero_add, cn_sum G hk (a + 1) a (by omega) ha] at this
  rw [this, Nat.mul_comm]
/-- variables behind those that occur -/
theorem sumN_tail (G : GoodN N) {a u : Nat} (ha : a < N.length) (hi : ∀ f g : Nat → Bool, (∀ j, j < u → f j = g j) → ev N a f = ev N a g) : ∀ n t (g : Nat → Bool), u ≤ t → sumN N a n t g = 2 ^ n * (if ev N a g = true then 1 else 0)
  | 0, t, g, _ => by rw [Nat.pow_zero, Nat.one_mul]; rfl
  | n + 1, t, g, h => by
    have e : ∀ v, ev N a (setF g t v) = ev N a g := fun v => hi _ _ fun j hj => by unfold setF; rw [if_neg (by omega)]
    show sumN N a n (t + 1) _ + sumN N a n (t + 1) _ = _
    rw [sumN_tail G ha hi n (t + 1) _ (by omega), sumN_tail G ha hi n (t + 1) _ (by omega), e, e, Nat.pow_succ, Nat.mul_comm (2 ^ n) 2, Nat.mul_assoc]
    omega
end
end G
namespace G
open L2
/-! ## columns of 32 rows -/
def us5 : List Nat := [0, 1, 2, 3, 4]
theorem all5 : ∀ b0 b1 b2 b3 b4 : Bool, ∃ i : Fin 32, bitsOf i.val 5 = [b0, b1, b2, b3, b4] := by decide +kernel
theorem one5 : ∀ i j : Fin 32, bitsOf i.val 5 = bitsOf j.val 5 → i = j := by decide +kernel
/-- f is the row i -/
def Mt (i : Nat) (f : Nat → Bool) : Prop := ∀ j, j < 5 → f j = bitF (bitsOf i 5) j
theorem mt_ex (f : Nat → Bool) : ∃ i, i < 32 ∧ Mt i f := by
  obtain ⟨i, hi⟩ := all5 (f 0) (f 1) (f 2) (f 3) (f 4)
  refine ⟨i.val, i.isLt, fun j hj => ?_⟩
  rw [hi]
  unfold bitF
  match j, hj with
  | 0, _ => rfl
  | 1, _ => rfl
  | 2, _ => rfl
  | 3, _ => rfl
  | 4, _ => rfl
  | n + 5, h => exact absurd h (by omega)
theorem bits5_eq {i : Nat} : bitsOf i 5 = [bitF (bitsOf i 5) 0, bitF (bitsOf i 5) 1, bitF (bitsOf i 5) 2, bitF (bitsOf i 5) 3, bitF (bitsOf i 5) 4] := rfl
theorem mt_one {i j : Nat} {f : Nat → Bool} (hi : i < 32) (hj : j < 32) (h : Mt i f) (g : Mt j f) : i = j := by
  have e : bitsOf i 5 = bitsOf j 5 := by
    rw [bits5_eq, bits5_eq (i := j), ← h 0 (by omega), ← h 1 (by omega), ← h 2 (by omega), ← h 3 (by omega), ← h 4 (by omega), ← g 0 (by omega), ← g 1 (by omega), ← g 2 (by omega), ← g 3 (by omega), ← g 4 (by omega)]
  have := one5 ⟨i, hi⟩ ⟨j, hj⟩ e
  exact congrArg Fin.val this
theorem mt_self (i : Nat) : Mt i (bitF (bitsOf i 5)) := fun _ _ => rfl
/-- r is the function of the column -/
def IsCol (N : List Nd) (r : Nat) (cs : List Bool) : Prop := ∀ i b, cs[i]? = some b → ∀ f, Mt i f → ev N r f = b
def fixI (i k : Nat) (v : Bool) : Nat := i - 2 ^ k * (i / 2 ^ k % 2) + 2 ^ k * v.toNat
theorem fixI_dec : ∀ (i : Fin 32) (k : Fin 5) (v : Bool), fixI i.val k.val v < 32 ∧ ∀ j : Fin 5, bitF (bitsOf (fixI i.val k.val v) 5) j.val = if j.val = k.val then v else bitF (bitsOf i.val 5) j.val := by decide +kernel
theorem fixI_mt {i k : Nat} {v : Bool} {f : Nat → Bool} (hi : i < 32) (hk : k < 5) (h : Mt i f) : fixI i k v < 32 ∧ Mt (fixI i k v) (setF f k v) := by
  obtain ⟨a, b⟩ := fixI_dec ⟨i, hi⟩ ⟨k, hk⟩ v
  refine ⟨a, fun j hj => ?_⟩
  rw [b ⟨j, hj⟩]
  unfold setF
  by_cases e : j = k
  · rw [if_pos e, if_pos e]
  · rw [if_neg e, if_neg e, h j hj]
theorem fixI_low : ∀ (i : Fin 32) (k : Fin 5), fixI i.val k.val false / 2 ^ k.val % 2 = 0 ∧ fixI i.val k.val true = fixI i.val k.val false + 2 ^ k.val ∧ (i.val / 2 ^ k.val % 2 = 0 → fixI i.val k.val false = i.val) := by decide +kernel
def matB (cs : List Bool) (k i : Nat) : Bool := decide (i / 2 ^ k % 2 = 0) && (cs.getD i false != cs.getD (i + 2 ^ k) false)
def matL (cs : List Bool) (k : Nat) : List Nat := (List.range 32).filter (matB cs k)
def fixedC (cs : List Bool) (k : Nat) (v : Bool) : List Bool := (List.range 32).map fun i => cs.getD (fixI i k v) false
section
variable {N : List Nd} {a : Nat} {cs : List Bool}
theorem IsCol.ev (h : IsCol N a cs) (hl : cs.length = 32) {i : Nat} (hi : i < 32) {f : Nat → Bool} (m : Mt i f) : G.ev N a f = cs.getD i false := by
  refine h i _ ?_ f m
  rw [List.getD_eq_getElem?_getD, List.getElem?_eq_getElem (by omega)]; rfl
theorem IsCol.of (hl : cs.length = 32) (h : ∀ i, i < 32 → ∀ f, Mt i f → G.ev N a f = cs.getD i false) : IsCol N a cs := fun i b hb f m => by
  have hi := (List.getElem?_eq_some_iff.mp hb).1
  rw [h i (by omega) f m, List.getD_eq_getElem?_getD, hb]; rfl
theorem IsCol.one (G : GoodN N) {r s : Nat} (hl : cs.length = 32) (h1 : IsCol N r cs) (h2 : IsCol N s cs) (hr : r < N.length) (hs : s < N.length) : r = s := canon' G hr hs fun f => by
  obtain ⟨i, hi, m⟩ := mt_ex f
  rw [h1.ev hl hi m, h2.ev hl hi m]
theorem IsCol.ne {r s : Nat} {ds : List Bool} (hl : cs.length = 32) (h1 : IsCol N r cs) (h2 : IsCol N s ds) (e : r = s) (hd : ds.length = 32) : cs = ds := by
  refine List.ext_getElem? fun i => ?_
  by_cases hi : i < 32
  · have e1 := h1.ev hl hi (mt_self i)
    have e2 := h2.ev hd hi (mt_self i)
    rw [e, e2, List.getD_eq_getElem?_getD, List.getD_eq_getElem?_getD, List.getElem?_eq_getElem (by omega), List.getElem?_eq_getElem (by omega)] at e1
    rw [List.getElem?_eq_getElem (by omega), List.getElem?_eq_getElem (by omega)]
    exact congrArg some e1.symm
  · rw [List.getElem?_eq_none (by omega), List.getElem?_eq_none (by omega)]
theorem IsCol.more {N' : List Nd} (G : GoodN N) (p : N <+: N') (ha : a < N.length) (h : IsCol N a cs) : IsCol N' a cs := fun i b hb f m => by rw [pre_ev G p ha]; exact h i b hb f m
theorem IsCol.indep (h : IsCol N a cs) (hl : cs.length = 32) (f g : Nat → Bool) (e : ∀ j, j < 5 → f j = g j) : G.ev N a f = G.ev N a g := by
  obtain ⟨i, hi, m⟩ := mt_ex f
  rw [h.ev hl hi m, h.ev hl hi (f := g) fun j hj => by rw [← e j hj]; exact m j hj]
theorem mat_dep (h : IsCol N a cs) (hl : cs.length = 32) {k : Nat} (hk : k < 5) : matL cs k ≠ [] ↔ DepN N a k := by
  constructor
  · intro hne
    obtain ⟨i, hi⟩ := List.exists_mem_of_ne_nil _ hne
    obtain ⟨h1, h2⟩ := List.mem_filter.mp hi
    have h1 := List.mem_range.mp h1
    obtain ⟨h3, h4⟩ := Bool.and_eq_true_iff.mp h2
    have h3 := of_decide_eq_true h3
    have h4 : cs.getD i false ≠ cs.getD (i + 2 ^ k) false := fun z => by rw [z] at h4; simp at h4
    obtain ⟨q1, q2, q3⟩ := fixI_low ⟨i, h1⟩ ⟨k, hk⟩
    have q3 : fixI i k false = i := q3 h3
    have q2 : fixI i k true = fixI i k false + 2 ^ k := q2
    obtain ⟨a1, b1⟩ := fixI_mt (v := false) h1 hk (mt_self i)
    obtain ⟨a2, b2⟩ := fixI_mt (v := true) h1 hk (mt_self i)
    refine ⟨bitF (bitsOf i 5), ?_⟩
    rw [h.ev hl a1 b1, h.ev hl a2 b2, q2, q3]
    exact h4
  · rintro ⟨f, hf⟩
    obtain ⟨i, hi, m⟩ := mt_ex f
    obtain ⟨q1, q2, _⟩ := fixI_low ⟨i, hi⟩ ⟨k, hk⟩
    have q1 : fixI i k false / 2 ^ k % 2 = 0 := q1
    have q2 : fixI i k true = fixI i k false + 2 ^ k := q2
    obtain ⟨a1, b1⟩ := fixI_mt (v := false) hi hk m
    obtain ⟨a2, b2⟩ := fixI_mt (v := true) hi hk m
    rw [h.ev hl a1 b1, h.ev hl a2 b2, q2] at hf
    refine List.ne_nil_of_mem (a := fixI i k false) (List.mem_filter.mpr ⟨List.mem_range.mpr a1, ?_⟩)
    unfold matB
    rw [decide_eq_true q1, Bool.true_and]
    exact bne_iff_ne.mpr hf
theorem fixed_len (cs : List Bool) (k : Nat) (v : Bool) : (fixedC cs k v).length = 32 := by unfold fixedC; rw [List.length_map, List.length_range]
theorem fixed_col {N' : List Nd} {r k : Nat} {v : Bool} (h : IsCol N a cs) (hl : cs.length = 32) (hk : k < 5) (e : ∀ f, G.ev N' r f = G.ev N a (setF f k v)) : IsCol N' r (fixedC cs k v) := fun i b hb f m => by
  have hi := (List.getElem?_eq_some_iff.mp hb).1
  rw [fixed_len] at hi
  obtain ⟨a1, b1⟩ := fixI_mt (v := v) hi hk m
  rw [e, h.ev hl a1 b1]
  unfold fixedC at hb
  rw [List.getElem?_map, List.getElem?_range hi] at hb
  exact Option.some.inj hb
/-! ### how many -/
def set5 (g : Nat → Bool) (b0 b1 b2 b3 b4 : Bool) : Nat → Bool := setF (setF (setF (setF (setF g 0 b0) 1 b1) 2 b2) 3 b3) 4 b4
theorem set5_mt (g : Nat → Bool) (i : Nat) : Mt i (set5 g (bitF (bitsOf i 5) 0) (bitF (bitsOf i 5) 1) (bitF (bitsOf i 5) 2) (bitF (bitsOf i 5) 3) (bitF (bitsOf i 5) 4)) := fun j hj => by
  match j, hj with
  | 0, _ => rfl
  | 1, _ => rfl
  | 2, _ => rfl
  | 3, _ => rfl
  | 4, _ => rfl
  | n + 5, h => exact absurd h (by omega)
theorem filt_sum : ∀ l : List Bool, (l.filter id).length = (l.map Bool.toNat).sum
  | [] => rfl
  | b :: l => by
    have := filt_sum l
    cases b
    · rw [List.filter_cons_of_neg (by decide), this, List.map_cons, List.sum_cons]; show _ = 0 + _; omega
    · rw [List.filter_cons_of_pos (by decide), List.length_cons, this, List.map_cons, List.sum_cons]; show _ = 1 + _; omega
theorem col_sum (G : GoodN N) (h : IsCol N a cs) (hl : cs.length = 32) (ha : a < N.length) (d : Nat) (g : Nat → Bool) : sumN N a (5 + d) 0 g = (cs.filter id).length * 2 ^ d := by
  have t : ∀ i, i < 32 → sumN N a d 5 (set5 g (bitF (bitsOf i 5) 0) (bitF (bitsOf i 5) 1) (bitF (bitsOf i 5) 2) (bitF (bitsOf i 5) 3) (bitF (bitsOf i 5) 4)) = (cs.getD i false).toNat * 2 ^ d := fun i hi => by
    rw [sumN_tail G ha (h.indep hl) d 5 _ (Nat.le_refl _), h.ev hl hi (set5_mt g i), Nat.mul_comm]
    congr 1
    cases cs.getD i false <;> rfl
  have ecs : cs = (List.range 32).map fun i => cs.getD i false := by
    refine List.ext_getElem? fun i => ?_
    by_cases hi : i < 32
    · rw [List.getElem?_map, List.getElem?_range hi, List.getElem?_eq_getElem (by omega)]
      show some cs[i] = some (cs.getD i false)
      rw [List.getD_eq_getElem?_getD, List.getElem?_eq_getElem (by omega)]; rfl
    · rw [List.getElem?_eq_none (by omega), List.getElem?_eq_none (by rw [List.length_map, List.length_range]; omega)]
  have e2 : (cs.filter id).length = ((List.range 32).map fun i => (cs.getD i false).toNat).sum := by
    rw [filt_sum]
    conv => lhs; rw [ecs]
    rw [List.map_map]; rfl
  have e3 : ((List.range 32).map fun i => (cs.getD i false).toNat).sum * 2 ^ d = ((List.range 32).map fun i => (cs.getD i false).toNat * 2 ^ d).sum := by
    generalize List.range 32 = l
    induction l with
    | nil => simp
    | cons x l ih => rw [List.map_cons, List.sum_cons, List.map_cons, List.sum_cons, Nat.add_mul, ih]
  have e4 : ((List.range 32).map fun i => (cs.getD i false).toNat * 2 ^ d) = (List.range 32).map fun i => sumN N a d 5 (set5 g (bitF (bitsOf i 5) 0) (bitF (bitsOf i 5) 1) (bitF (bitsOf i 5) 2) (bitF (bitsOf i 5) 3) (bitF (bitsOf i 5) 4)) := by
    refine List.map_congr_left fun i hi => (t i (List.mem_range.mp hi)).symm
  rw [e2, e3, e4]
  let s : Bool → Bool → Bool → Bool → Bool → Nat := fun b0 b1 b2 b3 b4 => sumN N a d 5 (set5 g b0 b1 b2 b3 b4)
  have l5 : sumN N a (5 + d) 0 g = (((s false false false false false + s false false false false true) + (s false false false true false + s false false false true true)) + ((s false false true false false + s false false true false true) + (s false false true true false + s false false true true true)) + (((s false true false false false + s false true false false true) + (s false true false true false + s false true false true true)) + ((s false true true false false + s false true true false true) + (s false true true true false + s false true true true true)))) + ((((s true false false false false + s true false false false true) + (s true false false true false + s true false false true true)) + ((s true false true false false + s true false true false true) + (s true false true true false + s true false true true true))) + (((s true true false false false + s true true false false true) + (s true true false true false + s true true false true true)) + ((s true true true false false + s true true true false true) + (s true true true true false + s true true true true true)))) := by
    rw [show 5 + d = d + 1 + 1 + 1 + 1 + 1 by omega]
    rfl
  have r5 : ((List.range 32).map fun i => sumN N a d 5 (set5 g (bitF (bitsOf i 5) 0) (bitF (bitsOf i 5) 1) (bitF (bitsOf i 5) 2) (bitF (bitsOf i 5) 3) (bitF (bitsOf i 5) 4))).sum = ((List.range 32).map fun i => s (bitF (bitsOf i 5) 0) (bitF (bitsOf i 5) 1) (bitF (bitsOf i 5) 2) (bitF (bitsOf i 5) 3) (bitF (bitsOf i 5) 4)).sum := rfl
  rw [l5, r5]
  clear l5 r5 e4 e3 e2 ecs t
  clear_value s
  have e6 : ((List.range 32).map fun i => s (bitF (bitsOf i 5) 0) (bitF (bitsOf i 5) 1) (bitF (bitsOf i 5) 2) (bitF (bitsOf i 5) 3) (bitF (bitsOf i 5) 4)) = [s false false false false false, s true false false false false, s false true false false false, s true true false false false, s false false true false false, s true false true false false, s false true true false false, s true true true false false, s false false false true false, s true false false true false, s false true false true false, s true true false true false, s false false true true false, s true false true true false, s false true true true false, s true true true true false, s false false false false true, s true false false false true, s false true false false true, s true true false false true, s false false true false true, s true false true false true, s false true true false true, s true true true false true, s false false false true true, s true false false true true, s false true false true true, s true true false true true, s false false true true true, s true false true true true, s false true true true true, s true true true true true] := by rfl
  rw [e6]
  simp only [List.sum_cons, List.sum_nil]
  omega
/-! ### the first row -/
theorem lt_wit : ∀ i j : Fin 32, ltBs (bitsOf i.val 5) (bitsOf j.val 5) = true → ∃ k : Fin 5, bitF (bitsOf i.val 5) k.val = false ∧ bitF (bitsOf j.val 5) k.val = true ∧ ∀ l : Fin 5, l.val < k.val → bitF (bitsOf i.val 5) l.val = bitF (bitsOf j.val 5) l.val := by decide +kernel
theorem lt_tri : ∀ i j : Fin 32, i = j ∨ ltBs (bitsOf i.val 5) (bitsOf j.val 5) = true ∨ ltBs (bitsOf j.val 5) (bitsOf i.val 5) = true := by decide +kernel
theorem least_first (G : GoodN N) (hV : VarsIn us5 N) (h : IsCol N a cs) (hl : cs.length = 32) (ha : a < N.length) {many : Nat} (hm : 5 ≤ many) {out : List Bool} (ho : out.length = many) (r : LeastR N a (List.replicate many false) out) {i : Nat} (hi : i < 32) (ht : cs[i]? = some true) (hmin : ∀ j, j < 32 → cs[j]? = some true → ltBs (bitsOf j 5) (bitsOf i 5) = false) : out = bitsOf i 5 ++ List.replicate (many - 5) false := by
  have rep0 : ∀ j, bitF (List.replicate many false) j = false := fun j => by
    show (List.replicate many false).getD j false = false
    rw [List.getD_eq_getElem?_getD, List.getElem?_replicate]
    split <;> rfl
  obtain ⟨_, o1, o2, o3⟩ := least_ok G r 0 ha (fun _ _ _ => Nat.zero_le _) (fun i n h2 hn => by
    have := hV i n h2 hn
    rw [List.length_replicate]
    have : ∀ u ∈ us5, u < 5 := by decide
    have := this _ (hV i n h2 hn)
    omega) (fun j _ => rep0 j)
  obtain ⟨io, hio, mo⟩ := mt_ex (bitF out)
  have gd : ∀ j, j < 32 → cs.getD j false = true → cs[j]? = some true := fun j hj e => by
    rw [List.getD_eq_getElem?_getD, List.getElem?_eq_getElem (by omega)] at e
    rw [List.getElem?_eq_getElem (by omega)]
    exact congrArg some e
  have c1 := hmin io hio (gd io hio (by rw [← h.ev hl hio mo]; exact o1))
  have c2 : ltBs (bitsOf i 5) (bitsOf io 5) ≠ true := fun z => by
    obtain ⟨k, k1, k2, k3⟩ := lt_wit ⟨i, hi⟩ ⟨io, hio⟩ z
    refine o2 (bitF (bitsOf i 5)) (by rw [h i true ht _ (mt_self i)]) ⟨k.val, Nat.zero_le _, k1, by rw [mo _ k.isLt]; exact k2, fun l _ hlk => ?_⟩
    have hk := k.isLt
    rw [mo l (by omega)]
    exact k3 ⟨l, by omega⟩ hlk
  have e : io = i := by
    rcases lt_tri ⟨io, hio⟩ ⟨i, hi⟩ with z | z | z
    · exact congrArg Fin.val z
    · have z : ltBs (bitsOf io 5) (bitsOf i 5) = true := z
      rw [c1] at z; cases z
    · exact absurd z c2
  subst e
  refine List.ext_getElem? fun j => ?_
  have b5 : (bitsOf io 5).length = 5 := bitsOf_len _ _
  by_cases h5 : j < 5
  · rw [List.getElem?_append_left (by omega)]
    have := mo j h5
    unfold bitF at this
    rw [List.getD_eq_getElem?_getD, List.getD_eq_getElem?_getD, List.getElem?_eq_getElem (by omega), List.getElem?_eq_getElem (by omega)] at this
    rw [List.getElem?_eq_getElem (by omega), List.getElem?_eq_getElem (by omega)]
    exact congrArg some this
  · rw [List.getElem?_append_right (by omega), b5, List.getElem?_replicate]
    by_cases hj : j < many
    · rw [if_pos (by omega)]
      have f0 : bitF out j = false := by
        cases e : bitF out j with
        | false => rfl
        | true =>
          have := o3 us5 hV j (Nat.zero_le _) e
          have m5 : ∀ u ∈ us5, u < 5 := by decide
          have := m5 _ this
          omega
      unfold bitF at f0
      rw [List.getD_eq_getElem?_getD, List.getElem?_eq_getElem (by omega)] at f0
      rw [List.getElem?_eq_getElem (by omega)]
      exact congrArg some f0
    · rw [if_neg (by omega), List.getElem?_eq_none (by omega)]
theorem zero_col (G : GoodN N) (h : IsCol N a cs) (hl : cs.length = 32) (ha : a < N.length) : a = 0 ↔ true ∉ cs := by
  constructor
  · intro e z
    obtain ⟨i, hi, hz⟩ := List.getElem_of_mem z
    have := h i true (by rw [List.getElem?_eq_getElem hi, hz]) _ (mt_self i)
    rw [e, ev_lt2 (by decide)] at this
    cases this
  · intro z
    refine canon' G ha (by have := G.two; omega) fun f => ?_
    obtain ⟨i, hi, m⟩ := mt_ex f
    rw [h.ev hl hi m, ev_lt2 (by decide)]
    cases e : cs.getD i false with
    | false => rfl
    | true =>
      rw [List.getD_eq_getElem?_getD, List.getElem?_eq_getElem (by omega)] at e
      exact absurd (e ▸ List.getElem_mem _) z
end
end G
namespace G
open PySem PySem.Spec PyProof.Rows L2 Evl TL
/-! ## functions as they are drawn -/
inductive Fn where
  | var (k : Nat)
  | con (b : Nat)
  | neg (m : Fn)
  | cho (a b c : Fn)
  | two (e : Bool) (a b : Fn)
def twoS (e : Bool) : Str := if e = true then "either" else "both"
def okFn : Nat → Fn → Prop
  | _, .var k => k < 5
  | _, .con b => b < 2
  | d + 1, .neg m => okFn d m
  | d + 1, .cho a b c => okFn d a ∧ okFn d b ∧ okFn d c
  | d + 1, .two _ a b => okFn d a ∧ okFn d b
  | 0, _ => False
theorem okFn_var : ∀ {d k : Nat}, okFn d (.var k) → k < 5
  | 0, _, h => h
  | _ + 1, _, h => h
theorem okFn_con : ∀ {d k : Nat}, okFn d (.con k) → k < 2
  | 0, _, h => h
  | _ + 1, _, h => h
theorem okFn.up : ∀ {d : Nat} {m : Fn}, okFn d m → okFn (d + 1) m
  | 0, .var k, h => h
  | 0, .con b, h => h
  | 0, .neg m, h => h.elim
  | 0, .cho a b c, h => h.elim
  | 0, .two e a b, h => h.elim
  | d + 1, .var k, h => h
  | d + 1, .con b, h => h
  | d + 1, .neg m, h => okFn.up (d := d) (m := m) h
  | d + 1, .cho a b c, h => ⟨okFn.up (d := d) h.1, okFn.up (d := d) h.2.1, okFn.up (d := d) h.2.2⟩
  | d + 1, .two e a b, h => ⟨okFn.up (d := d) h.1, okFn.up (d := d) h.2⟩
theorem okFn.mono {d e : Nat} {m : Fn} (h : okFn d m) (l : d ≤ e) : okFn e m := by
  induction l with
  | refl => exact h
  | step _ ih => exact ih.up
def wF : Fn → (Nat → Bool) → Bool
  | .var k, v => v k
  | .con b, _ => b == 1
  | .neg m, v => !wF m v
  | .cho a b c, v => if wF a v = true then wF b v else wF c v
  | .two e a b, v => if e = true then wF a v || wF b v else wF a v && wF b v
theorem wF_cong : ∀ {d : Nat} {m : Fn}, okFn d m → ∀ {u v : Nat → Bool}, (∀ i, i < 5 → u i = v i) → wF m u = wF m v
  | _, .var k, h, u, v, e => e k (okFn_var h)
  | _, .con b, _, _, _, _ => rfl
  | d + 1, .neg m, h, u, v, e => by show (!wF m u) = !wF m v; rw [wF_cong (d := d) (m := m) h e]
  | d + 1, .cho a b c, h, u, v, e => by
    show (if wF a u = true then wF b u else wF c u) = if wF a v = true then wF b v else wF c v
    rw [wF_cong (d := d) h.1 e, wF_cong (d := d) h.2.1 e, wF_cong (d := d) h.2.2 e]
  | d + 1, .two o a b, h, u, v, e => by
    show (if o = true then wF a u || wF b u else wF a u && wF b u) = if o = true then wF a v || wF b v else wF a v && wF b v
    rw [wF_cong (d := d) h.1 e, wF_cong (d := d) h.2 e]
  | 0, .neg _, h, _, _, _ => h.elim
  | 0, .cho _ _ _, h, _, _, _ => h.elim
  | 0, .two _ _ _, h, _, _, _ => h.elim
def Fr (S : List Addr) (H H' : Hp) : Prop := ∀ b o, H b = some o → b ∉ S → H' b = some o
theorem Fr.of {S : List Addr} {H H' : Hp} (e : Ex H H') : Fr S H H' := fun b o h _ => e b o h
theorem Fr.trans {S : List Addr} {H H1 H2 : Hp} (a : Fr S H H1) (b : Fr S H1 H2) : Fr S H H2 := fun c o h n => b c o (a c o h n) n
theorem Fr.px {S : List Addr} {p a : Addr} {H H' : Hp} (hp : p ∈ S) (x : Px p a H H') : Fr S H H' := fun b o h n => x.at_ (by rw [hid_ne fun z => n (by rw [z]; exact hp)]; exact h)
theorem Fr.kp {S : List Addr} {nl pl ch : Addr} {H H' : Hp} (h1 : nl ∈ S) (h2 : pl ∈ S) (h3 : ch ∈ S) (k : Kp nl pl ch H H') : Fr S H H' := fun b o h n => k b o h (fun z => n (by rw [z]; exact h1)) (fun z => n (by rw [z]; exact h2)) fun z => n (by rw [z]; exact h3)
theorem Fr.mut {S : List Addr} {H H1 : Hp} (a : Fr S H H1) {l : Addr} {o : HO} (n : H l = none) : Fr S H (upd H1 l o) := fun c q h hs => by
  rw [upd_ne fun z => by rw [z, n] at h; cases h]; exact a c q h hs
def Alive (S : List Addr) (H : Hp) : Prop := ∀ b ∈ S, H b ≠ none
theorem Alive.ex {S : List Addr} {H H' : Hp} (h : Alive S H) (e : Ex H H') : Alive S H' := fun b hb z => by
  cases e2 : H b with
  | none => exact h b hb e2
  | some o => rw [e b o e2] at z; cases z
theorem Alive.px {S : List Addr} {p a : Addr} {H H' : Hp} (h : Alive S H) (x : Px p a H H') : Alive S H' := fun b hb z => h b hb (x.free z)
theorem Alive.no {S : List Addr} {H : Hp} (h : Alive S H) {b : Addr} (n : H b = none) : b ∉ S := fun z => h b z n
def FnAt (S : List Addr) (H : Hp) : Addr → Fn → Prop
  | l, .var k => l ∉ S ∧ H l = some (.lst [.str "variable", .int (k : Nat)])
  | l, .con b => l ∉ S ∧ H l = some (.lst [.str "constant", .int (b : Nat)])
  | l, .neg m => l ∉ S ∧ ∃ a, H l = some (.lst [.str "negate", .ref a]) ∧ FnAt S H a m
  | l, .cho m1 m2 m3 => l ∉ S ∧ ∃ a b c, H l = some (.lst [.str "choose", .ref a, .ref b, .ref c]) ∧ FnAt S H a m1 ∧ FnAt S H b m2 ∧ FnAt S H c m3
  | l, .two e m1 m2 => l ∉ S ∧ ∃ a b, H l = some (.lst [.str (twoS e), .ref a, .ref b]) ∧ FnAt S H a m1 ∧ FnAt S H b m2
theorem FnAt.fr {S : List Addr} {H H' : Hp} (f : Fr S H H') : ∀ {l : Addr} {m : Fn}, FnAt S H l m → FnAt S H' l m
  | _, .var _, h => ⟨h.1, f _ _ h.2 h.1⟩
  | _, .con _, h => ⟨h.1, f _ _ h.2 h.1⟩
  | _, .neg m, h => by
    obtain ⟨n, a, h1, h2⟩ := h
    exact ⟨n, a, f _ _ h1 n, FnAt.fr (m := m) f h2⟩
  | _, .cho m1 m2 m3, h => by
    obtain ⟨n, a, b, c, h1, h2, h3, h4⟩ := h
    exact ⟨n, a, b, c, f _ _ h1 n, FnAt.fr (m := m1) f h2, FnAt.fr (m := m2) f h3, FnAt.fr (m := m3) f h4⟩
  | _, .two e m1 m2, h => by
    obtain ⟨n, a, b, h1, h2, h3⟩ := h
    exact ⟨n, a, b, f _ _ h1 n, FnAt.fr (m := m1) f h2, FnAt.fr (m := m2) f h3⟩
section
variable {P : Program} {w : World} {K : PySem.W.Frag} {mg : Str → Option Value} {base : Heap}
def spFunc : Nat → Sp
  | 0 => fun _ _ _ _ => False
  | d + 1 => fun vs H Q _ => ∃ (p a : Addr) (S : List Addr), vs = [.ref p, .int (d : Nat)] ∧ PoolOk p a H ∧ p ∈ S ∧ Alive S H ∧ ∀ (l : Addr) (m : Fn) (H' : Hp), Px p a H H' → FnAt S H' l m → okFn d m → Q (.ref l) H'
theorem sc_law_function : FnScope ["pool", "depth", "kind"] ["pool", "depth"] (defScope s_law_function) := ⟨rfl, rfl, rfl, by decide +kernel, rfl, by decide +kernel, by decide +kernel⟩
theorem fn_law_function {f : Addr} {fd : FuncData} (F : Fun K "_law_function" "_law_function" s_law_function f fd) (g_law_function : mg "_law_function" = some (.ref f)) (b_law_function : Binds K fd ["pool", "depth"] []) (T : TxtS mg) (C1 : Has P w K mg base 2 "_law_draw" ["pool", "many"] spDrawX) :
    ∀ n, FnOk P w K mg base CX0 (n + 2) f fd ["pool", "depth"] (spFunc n)
  | 0 => ⟨fun _ _ _ _ h => h.elim, fun _ _ _ _ _ _ _ _ _ _ _ _ _ h => h.elim⟩
  | d + 1 => by
    have G_law_function := fn_law_function F g_law_function b_law_function T C1 d
    have k_law_function := F.kp
    obtain ⟨f_law_draw, d_law_draw, G_law_draw, g_law_draw, k_law_draw, b_law_draw⟩ := C1
    refine F.ok sc_law_function (fun vs H Q E h => ?_) (fun cdv A outer s H vs Q E hr h => ?_)
    · obtain ⟨p, a, S, rfl, _⟩ := h
      rfl
    · obtain ⟨p, a, S, rfl, hp, hS, al, q⟩ := h
      refine ⟨_, (pss_cons (ps_set (i := 2) sc_law_function.nd rfl (.inl rfl) (pe_call G_law_draw (hr.mono (by omega)) (by rfl) g_law_draw k_law_draw b_law_draw .nil pass0 (pa_cons (pv 0) (pa_cons pe_int pa_nil))))
    (pss_cut (ps_if (PW.pt (pw_or (pt_cmpR op_eq (pv 1) pe_int (nomark _)) (pw_or1 (pt_cmpR op_lt (pv 2) pe_int (nomark _)))))
      (pss_one (ps_ret (pe_lst (pa_cons pe_str (pa_cons (pe_ix ix_list (pe_lst (pa_cons pe_int (pa_cons pe_int (pa_cons pe_int (pa_cons pe_int (pa_cons pe_int (pa_cons pe_int pa_nil))))))) (pe_call G_law_draw (hr.mono (by omega)) (by rfl) g_law_draw k_law_draw b_law_draw .nil pass0 (pa_cons (pv 0) (pa_cons pe_int pa_nil))) (fun _ _ => rfl)) pa_nil)))))
      pss_nil)
    (pss_cons (ps_if (pt_cmpR op_eq (pv 2) pe_int (nomark _))
      (pss_one (ps_ret (pe_lst (pa_cons pe_str (pa_cons (pe_call G_law_draw (hr.mono (by omega)) (by rfl) g_law_draw k_law_draw b_law_draw .nil pass0 (pa_cons (pv 0) (pa_cons pe_int pa_nil))) pa_nil)))))
      pss_nil)
    (pss_cons (ps_if (pt_cmpR op_eq (pv 2) pe_int (nomark _))
      (pss_one (ps_ret (pe_lst (pa_cons pe_str (pa_cons (pe_call G_law_function (hr.mono (by omega)) (by rfl) g_law_function k_law_function b_law_function .nil pass0 (pa_cons (pv 0) (pa_cons (pe_op op_sub (pv 1) pe_int) pa_nil))) pa_nil)))))
      pss_nil)
    (pss_cons (ps_if (pt_cmpR op_eq (pv 2) pe_int (nomark _))
      (pss_one (ps_ret (pe_lst (pa_cons pe_str (pa_cons (pe_call G_law_function (hr.mono (by omega)) (by rfl) g_law_function k_law_function b_law_function .nil pass0 (pa_cons (pv 0) (pa_cons (pe_op op_sub (pv 1) pe_int) pa_nil))) (pa_cons (pe_call G_law_function (hr.mono (by omega)) (by rfl) g_law_function k_law_function b_law_function .nil pass0 (pa_cons (pv 0) (pa_cons (pe_op op_sub (pv 1) pe_int) pa_nil))) (pa_cons (pe_call G_law_function (hr.mono (by omega)) (by rfl) g_law_function k_law_function b_law_function .nil pass0 (pa_cons (pv 0) (pa_cons (pe_op op_sub (pv 1) pe_int) pa_nil))) pa_nil)))))))
      pss_nil)
    (pss_one (ps_ret (pe_lst (pa_cons (pe_ix ix_list (pe_lst (pa_cons pe_str (pa_cons pe_str pa_nil))) (pe_op op_mod (pe_callTy call_int1 (by rfl) T.int (by decide +kernel) (pa_cons (pv 2) pa_nil)) pe_int) (fun _ _ => rfl)) (pa_cons (pe_call G_law_function (hr.mono (by omega)) (by rfl) g_law_function k_law_function b_law_function .nil pass0 (pa_cons (pv 0) (pa_cons (pe_op op_sub (pv 1) pe_int) pa_nil))) (pa_cons (pe_call G_law_function (hr.mono (by omega)) (by rfl) g_law_function k_law_function b_law_function .nil pass0 (pa_cons (pv 0) (pa_cons (pe_op op_sub (pv 1) pe_int) pa_nil))) pa_nil))))))))))), ?_⟩
      refine ⟨_, rfl, p, a, 9, rfl, by decide, by decide, hp, fun kind H1 hk X1 _ => ?_⟩
      have al1 := al.px X1
      refine ⟨fun σ H' => H' = H1 ∧ d ≠ 0 ∧ σ = [some (.ref p), some (.int (d : Nat)), some (.int (kind : Nat))], ?_, ?_⟩
      · have leaf : ∀ (R : VK), (∀ l k H', k < 5 → Px p a H H' → l ∉ S → H' l = some (.lst [.str "variable", .int (k : Nat)]) → R (.ref l) H') → ∀ l6 H2 v H3, H1 l6 = none → H2 = upd H1 l6 (.lst [.int 0, .int 1, .int 2, .int 3, .int 4, .int 4]) → v < 6 → Px p a H2 H3 → ∃ k, k < 5 ∧ atI ([.int 0, .int 1, .int 2, .int 3, .int 4, .int 4] : List V) ((v : Nat) : Int) = some (.int (k : Nat)) ∧ H3 l6 = some (.lst [.int 0, .int 1, .int 2, .int 3, .int 4, .int 4]) ∧ ∀ l, H3 l = none → R (.ref l) (upd H3 l (.lst [.str "variable", .int (k : Nat)])) := by
          intro R r l6 H2 v H3 n6 e2 hv X3
          subst e2
          have X2 := X1.new (o := .lst [.int 0, .int 1, .int 2, .int 3, .int 4, .int 4]) n6
          have hl6 : hid p (upd H1 l6 (.lst [.int 0, .int 1, .int 2, .int 3, .int 4, .int 4])) l6 = some (.lst [.int 0, .int 1, .int 2, .int 3, .int 4, .int 4]) := by rw [hid_ne (X1.pool.ne n6)]; exact upd_same
          obtain ⟨k, hk5, hat⟩ : ∃ k : Nat, k < 5 ∧ ([.int 0, .int 1, .int 2, .int 3, .int 4, .int 4] : List V)[v]? = some (.int (k : Nat)) := by
            match v, hv with
            | 0, _ => exact ⟨0, by decide, rfl⟩
            | 1, _ => exact ⟨1, by decide, rfl⟩
            | 2, _ => exact ⟨2, by decide, rfl⟩
            | 3, _ => exact ⟨3, by decide, rfl⟩
            | 4, _ => exact ⟨4, by decide, rfl⟩
            | 5, _ => exact ⟨4, by decide, rfl⟩
            | n + 6, h => exact absurd h (by omega)
          refine ⟨k, hk5, at_of (j := v) rfl hat, X3.at_ hl6, fun l nl => r l k _ hk5 ((X2.trans X3).new nl) ((al.px (X2.trans X3)).no nl) upd_same⟩
        have L := leaf Q (fun l k H' hk5 X nS hl => q l (.var k) H' X ⟨nS, hl⟩ (by cases d <;> exact hk5))
        refine ⟨_, rfl, rfl, _, rfl, ite2 (fun c1 => ?_) (fun c1 => ⟨_, rfl, _, _, rfl, rfl, _, rfl, ite2 (fun c2 => ?_) (fun c2 => ?_)⟩)⟩
        · refine iteT ⟨(by show 6 ≤ sizeLine; decide), fun l6 n6 => ⟨_, rfl, p, a, 6, rfl, by decide, by decide, (X1.new n6).pool, fun v H3 hv X3 _ => ?_⟩⟩
          obtain ⟨k, hk5, hat, hl6, go⟩ := L l6 _ v H3 n6 rfl (by omega) X3
          exact ⟨_, _, _, _, rfl, rfl, SqL.of hl6, hat, (by show 2 ≤ sizeLine; decide), go⟩
        · refine ⟨(by show 6 ≤ sizeLine; decide), fun l6 n6 => ⟨_, rfl, p, a, 6, rfl, by decide, by decide, (X1.new n6).pool, fun v H3 hv X3 _ => ?_⟩⟩
          obtain ⟨k, hk5, hat, hl6, go⟩ := L l6 _ v H3 n6 rfl (by omega) X3
          exact ⟨_, _, _, _, rfl, rfl, SqL.of hl6, hat, (by show 2 ≤ sizeLine; decide), go⟩
        · exact ⟨rfl, fun z => c1 (by rw [z]; rfl), rfl⟩
      rintro σ H' ⟨rfl, hd0, rfl⟩
      obtain ⟨e, rfl⟩ : ∃ e, d = e + 1 := ⟨d - 1, by omega⟩
      have eN : ((e + 1 : Nat) : Int) - 1 = (e : Nat) := by omega
      refine ⟨_, rfl, rfl, _, rfl, ite2 (fun c1 => ?_) (fun c1 => ?_)⟩
      · refine ⟨_, rfl, p, a, 2, rfl, by decide, by decide, X1.pool, fun v H2 hv X2 _ => ⟨(by show 2 ≤ sizeLine; decide), fun l nl => ?_⟩⟩
        exact q l (.con v) _ ((X1.trans X2).new nl) ⟨(al1.px X2).no nl, upd_same⟩ (by show v < 2; omega)
      refine ⟨_, rfl, rfl, _, rfl, ite2 (fun c2 => ?_) (fun c2 => ?_)⟩
      · refine ⟨_, rfl, _, rfl, _, _, rfl, rfl, p, a, S, congrArg (fun z => [V.ref p, V.int z]) eN, X1.pool, hS, al1, fun l1 m1 H2 X2 h2 o2 => ⟨(by show 2 ≤ sizeLine; decide), fun l nl => ?_⟩⟩
        exact q l (.neg m1) _ ((X1.trans X2).new nl) ⟨(al1.px X2).no nl, l1, upd_same, h2.fr (.of (Ex.new nl))⟩ o2
      refine ⟨_, rfl, rfl, _, rfl, ite2 (fun c3 => ?_) (fun c3 => ?_)⟩
      · refine ⟨_, rfl, _, rfl, _, _, rfl, rfl, p, a, S, congrArg (fun z => [V.ref p, V.int z]) eN, X1.pool, hS, al1, fun l1 m1 H2 X2 h2 o2 => ⟨_, rfl, _, rfl, _, _, rfl, rfl, p, a, S, congrArg (fun z => [V.ref p, V.int z]) eN, X2.pool, hS, al1.px X2, fun l2 m2 H3 X3 h3 o3 => ⟨_, rfl, _, rfl, _, _, rfl, rfl, p, a, S, congrArg (fun z => [V.ref p, V.int z]) eN, X3.pool, hS, (al1.px X2).px X3, fun l3 m3 H4 X4 h4 o4 => ⟨(by show 4 ≤ sizeLine; decide), fun l nl => ?_⟩⟩⟩⟩
        have X14 := X1.trans (X2.trans (X3.trans X4))
        exact q l (.cho m1 m2 m3) _ (X14.new nl) ⟨(al.px X14).no nl, l1, l2, l3, upd_same, (h2.fr (.px hS (X3.trans X4))).fr (.of (Ex.new nl)), (h3.fr (.px hS X4)).fr (.of (Ex.new nl)), h4.fr (.of (Ex.new nl))⟩ ⟨o2, o3, o4⟩
      · refine ⟨(by show 2 ≤ sizeLine; decide), fun l2 nl2 => ?_⟩
        have X2 := X1.new (o := .lst [.str "both", .str "either"]) nl2
        have hl2 : upd H' l2 (.lst [.str "both", .str "either"]) l2 = some (.lst [.str "both", .str "either"]) := upd_same
        generalize upd H' l2 (.lst [.str "both", .str "either"]) = H2 at *
        obtain ⟨b, hb⟩ : ∃ b : Bool, atI ([.str "both", .str "either"] : List V) ((kind : Int) % 2) = some (.str (twoS b)) := by
          obtain h | h : kind % 2 = 0 ∨ kind % 2 = 1 := by omega
          · exact ⟨false, at_of (j := 0) (by omega) rfl⟩
          · exact ⟨true, at_of (j := 1) (by omega) rfl⟩
        refine ⟨_, rfl, .inl ⟨_, rfl, _, _, rfl, rfl, (by show (0 : Int) < 2; decide), _, _, _, _, rfl, rfl, SqL.of hl2, hb, ?_⟩⟩
        refine ⟨_, rfl, _, rfl, _, _, rfl, rfl, p, a, S, congrArg (fun z => [V.ref p, V.int z]) eN, X2.pool, hS, al.px X2, fun l1 m1 H3 X3 h3 o3 => ⟨_, rfl, _, rfl, _, _, rfl, rfl, p, a, S, congrArg (fun z => [V.ref p, V.int z]) eN, X3.pool, hS, (al.px X2).px X3, fun l4 m2 H4 X4 h4 o4 => ⟨(by show 3 ≤ sizeLine; decide), fun l nl => ?_⟩⟩⟩
        have X14 := X2.trans (X3.trans X4)
        exact q l (.two b m1 m2) _ (X14.new nl) ⟨(al.px X14).no nl, l1, l4, upd_same, (h3.fr (.px hS X4)).fr (.of (Ex.new nl)), h4.fr (.of (Ex.new nl))⟩ ⟨o3, o4⟩
end
end G
namespace G
open PySem PySem.Spec PyProof.Rows L2 Evl TL
section
variable {P : Program} {w : World} {K : PySem.W.Frag} {mg : Str → Option Value} {base : Heap}
def spWorth : Nat → Sp
  | 0 => fun _ _ _ _ => False
  | d + 1 => fun vs H Q _ => ∃ (S : List Addr) (l b : Addr) (m : Fn) (bs : List Bool), vs = [.ref l, .ref b] ∧ FnAt S H l m ∧ okFn d m ∧ H b = some (.tup (bs.map V.bl)) ∧ bs.length = 5 ∧ ∀ H', Ex H H' → Q (.bl (wF m (bitF bs))) H'
theorem bit_lk {bs : List Bool} {k : Nat} (h : k < bs.length) : (bs.map V.bl)[k]? = some (.bl (bitF bs k)) := by
  unfold bitF
  rw [List.getElem?_map, List.getD_eq_getElem?_getD, List.getElem?_eq_getElem h]; rfl
theorem sc_law_worth : FnScope ["made", "bits"] ["made", "bits"] (defScope s_law_worth) := ⟨rfl, rfl, rfl, by decide +kernel, rfl, by decide +kernel, by decide +kernel⟩
theorem fn_law_worth {f : Addr} {fd : FuncData} (F : Fun K "_law_worth" "_law_worth" s_law_worth f fd) (g_law_worth : mg "_law_worth" = some (.ref f)) (b_law_worth : Binds K fd ["made", "bits"] []) (T : TxtS mg) :
    ∀ n, FnOk P w K mg base CX0 n f fd ["made", "bits"] (spWorth n)
  | 0 => ⟨fun _ _ _ _ h => h.elim, fun _ _ _ _ _ _ _ _ _ _ _ _ _ h => h.elim⟩
  | d + 1 => by
    have G_law_worth := fn_law_worth F g_law_worth b_law_worth T d
    have k_law_worth := F.kp
    refine F.ok sc_law_worth (fun vs H Q E h => ?_) (fun cdv A outer s H vs Q E hr h => ?_)
    · obtain ⟨S, l, b, m, bs, rfl, _⟩ := h
      rfl
    · obtain ⟨S, l, b, m, bs, rfl, hF, ho, hb, hbl, q⟩ := h
      refine ⟨_, (pss_cons (ps_if (pt_cmpR op_eq (pe_ix ix_list (pv 0) pe_int (fun _ _ => rfl)) pe_str (nomark _))
      (pss_one (ps_ret (pe_ix ix_tup (pv 1) (pe_ix ix_list (pv 0) pe_int (fun _ _ => rfl)) (fun _ _ => rfl))))
      pss_nil)
    (pss_cons (ps_if (pt_cmpR op_eq (pe_ix ix_list (pv 0) pe_int (fun _ _ => rfl)) pe_str (nomark _))
      (pss_one (ps_ret (pe_cmpR op_eq (pe_ix ix_list (pv 0) pe_int (fun _ _ => rfl)) pe_int (nomark _))))
      pss_nil)
    (pss_cons (ps_if (pt_cmpR op_eq (pe_ix ix_list (pv 0) pe_int (fun _ _ => rfl)) pe_str (nomark _))
      (pss_one (ps_ret (pe_not (pe_call G_law_worth (hr.mono (by omega)) (by rfl) g_law_worth k_law_worth b_law_worth .nil pass0 (pa_cons (pe_ix ix_list (pv 0) pe_int (fun _ _ => rfl)) (pa_cons (pv 1) pa_nil))))))
      pss_nil)
    (pss_cons (ps_if (pt_cmpR op_eq (pe_ix ix_list (pv 0) pe_int (fun _ _ => rfl)) pe_str (nomark _))
      (pss_one (ps_ret (pe_call G_law_worth (hr.mono (by omega)) (by rfl) g_law_worth k_law_worth b_law_worth .nil pass0 (pa_cons (pe_ix ix_list (pe_lst (pa_cons (pe_ix ix_list (pv 0) pe_int (fun _ _ => rfl)) (pa_cons (pe_ix ix_list (pv 0) pe_int (fun _ _ => rfl)) pa_nil))) (pe_callTy call_int1 (by rfl) T.int (by decide +kernel) (pa_cons (pe_call G_law_worth (hr.mono (by omega)) (by rfl) g_law_worth k_law_worth b_law_worth .nil pass0 (pa_cons (pe_ix ix_list (pv 0) pe_int (fun _ _ => rfl)) (pa_cons (pv 1) pa_nil))) pa_nil)) (fun _ _ => rfl)) (pa_cons (pv 1) pa_nil)))))
      pss_nil)
    (pss_cons (ps_if (pt_cmpR op_eq (pe_ix ix_list (pv 0) pe_int (fun _ _ => rfl)) pe_str (nomark _))
      (pss_one (ps_ret (pe_and (pe_call G_law_worth (hr.mono (by omega)) (by rfl) g_law_worth k_law_worth b_law_worth .nil pass0 (pa_cons (pe_ix ix_list (pv 0) pe_int (fun _ _ => rfl)) (pa_cons (pv 1) pa_nil))) (pe_one (pe_call G_law_worth (hr.mono (by omega)) (by rfl) g_law_worth k_law_worth b_law_worth .nil pass0 (pa_cons (pe_ix ix_list (pv 0) pe_int (fun _ _ => rfl)) (pa_cons (pv 1) pa_nil)))))))
      pss_nil)
    (pss_one (ps_ret (pe_or (pe_call G_law_worth (hr.mono (by omega)) (by rfl) g_law_worth k_law_worth b_law_worth .nil pass0 (pa_cons (pe_ix ix_list (pv 0) pe_int (fun _ _ => rfl)) (pa_cons (pv 1) pa_nil))) (pe_one (pe_call G_law_worth (hr.mono (by omega)) (by rfl) g_law_worth k_law_worth b_law_worth .nil pass0 (pa_cons (pe_ix ix_list (pv 0) pe_int (fun _ _ => rfl)) (pa_cons (pv 1) pa_nil)))))))))))), ?_⟩
      cases m with
      | var k =>
        have h := hF.2
        have hk := okFn_var ho
        exact ⟨_, rfl, _, _, _, _, rfl, rfl, SqL.of h, atI_nat (j := 0) rfl, rfl, _, rfl, iteY (by decide +kernel) ⟨_, rfl, _, rfl, _, _, _, _, rfl, rfl, SqL.of h, atI_nat (j := 1) rfl, _, _, _, _, rfl, rfl, SqT.of hb, at_of (j := k) rfl (bit_lk (by omega)), q H (.refl _)⟩⟩
      | con v =>
        have h := hF.2
        have hv := okFn_con ho
        have e : decide (V.int (v : Nat) = V.int 1) = (v == 1) := by
          rw [Bool.eq_iff_iff, decide_eq_true_iff, beq_iff_eq]
          exact ⟨fun z => by injection z; omega, fun z => by rw [z]; rfl⟩
        refine ⟨_, rfl, _, _, _, _, rfl, rfl, SqL.of h, atI_nat (j := 0) rfl, rfl, _, rfl, iteN (by decide +kernel) ⟨_, rfl, _, _, _, _, rfl, rfl, SqL.of h, atI_nat (j := 0) rfl, rfl, _, rfl, iteY (by decide +kernel) ⟨_, rfl, _, _, _, _, rfl, rfl, SqL.of h, atI_nat (j := 1) rfl, rfl, ?_⟩⟩⟩
        rw [e]
        exact q H (.refl _)
      | neg m1 =>
        obtain ⟨_, a1, h, h1⟩ := hF
        obtain ⟨e, rfl⟩ : ∃ e, d = e + 1 := by cases d with | zero => exact ho.elim | succ e => exact ⟨e, rfl⟩
        refine ⟨_, rfl, _, _, _, _, rfl, rfl, SqL.of h, atI_nat (j := 0) rfl, rfl, _, rfl, iteN (by decide +kernel) ⟨_, rfl, _, _, _, _, rfl, rfl, SqL.of h, atI_nat (j := 0) rfl, rfl, _, rfl, iteN (by decide +kernel) ⟨_, rfl, _, _, _, _, rfl, rfl, SqL.of h, atI_nat (j := 0) rfl, rfl, _, rfl, iteY (by decide +kernel) ?_⟩⟩⟩
        exact ⟨_, rfl, _, _, _, _, rfl, rfl, SqL.of h, atI_nat (j := 1) rfl, _, rfl, S, a1, b, m1, bs, rfl, h1, ho, hb, hbl, fun H1 E1 => ⟨_, rfl, q H1 E1⟩⟩
      | cho m1 m2 m3 =>
        obtain ⟨_, a1, a2, a3, h, h1, h2, h3⟩ := hF
        obtain ⟨e, rfl⟩ : ∃ e, d = e + 1 := by cases d with | zero => exact ho.elim | succ e => exact ⟨e, rfl⟩
        refine ⟨_, rfl, _, _, _, _, rfl, rfl, SqL.of h, atI_nat (j := 0) rfl, rfl, _, rfl, iteN (by decide +kernel) ⟨_, rfl, _, _, _, _, rfl, rfl, SqL.of h, atI_nat (j := 0) rfl, rfl, _, rfl, iteN (by decide +kernel) ⟨_, rfl, _, _, _, _, rfl, rfl, SqL.of h, atI_nat (j := 0) rfl, rfl, _, rfl, iteN (by decide +kernel) ⟨_, rfl, _, _, _, _, rfl, rfl, SqL.of h, atI_nat (j := 0) rfl, rfl, _, rfl, iteY (by decide +kernel) ?_⟩⟩⟩⟩
        refine ⟨_, rfl, _, _, _, _, rfl, rfl, SqL.of h, atI_nat (j := 3) rfl, _, rfl, _, _, _, _, rfl, rfl, SqL.of h, atI_nat (j := 2) rfl, (by show 2 ≤ sizeLine; decide), fun t nt => ?_⟩
        have E1 : Ex H (upd H t (.lst [.ref a3, .ref a2])) := Ex.new nt
        have ht : upd H t (.lst [.ref a3, .ref a2]) t = some (.lst [.ref a3, .ref a2]) := upd_same
        generalize upd H t (.lst [.ref a3, .ref a2]) = H1 at *
        refine ⟨_, rfl, _, _, _, _, rfl, rfl, SqL.of (E1 _ _ h), atI_nat (j := 1) rfl, _, rfl, S, a1, b, m1, bs, rfl, h1.fr (.of E1), ho.1, E1 _ _ hb, hbl, fun H2 E2 => ?_⟩
        have E12 := E1.trans E2
        have eW : wF (.cho m1 m2 m3) (bitF bs) = if wF m1 (bitF bs) = true then wF m2 (bitF bs) else wF m3 (bitF bs) := rfl
        rw [eW] at q
        cases hw : wF m1 (bitF bs) with
        | true =>
          rw [hw, if_pos rfl] at q
          exact .inr ⟨_, rfl, _, _, _, _, rfl, rfl, SqL.of (E2 _ _ ht), at_of (j := 1) rfl rfl, _, rfl, S, a2, b, m2, bs, rfl, h2.fr (.of E12), ho.2.1, E12 _ _ hb, hbl, fun H3 E3 => q H3 (E12.trans E3)⟩
        | false =>
          rw [hw, if_neg Bool.false_ne_true] at q
          exact .inr ⟨_, rfl, _, _, _, _, rfl, rfl, SqL.of (E2 _ _ ht), at_of (j := 0) rfl rfl, _, rfl, S, a3, b, m3, bs, rfl, h3.fr (.of E12), ho.2.2, E12 _ _ hb, hbl, fun H3 E3 => q H3 (E12.trans E3)⟩
      | two o m1 m2 =>
        obtain ⟨_, a1, a2, h, h1, h2⟩ := hF
        obtain ⟨e, rfl⟩ : ∃ e, d = e + 1 := by cases d with | zero => exact ho.elim | succ e => exact ⟨e, rfl⟩
        have eW : wF (.two o m1 m2) (bitF bs) = if o = true then wF m1 (bitF bs) || wF m2 (bitF bs) else wF m1 (bitF bs) && wF m2 (bitF bs) := rfl
        rw [eW] at q
        cases o with
        | false =>
          have h : H l = some (.lst [.str "both", .ref a1, .ref a2]) := h
          rw [if_neg Bool.false_ne_true] at q
          refine ⟨_, rfl, _, _, _, _, rfl, rfl, SqL.of h, atI_nat (j := 0) rfl, rfl, _, rfl, iteN (by decide +kernel) ⟨_, rfl, _, _, _, _, rfl, rfl, SqL.of h, atI_nat (j := 0) rfl, rfl, _, rfl, iteN (by decide +kernel) ⟨_, rfl, _, _, _, _, rfl, rfl, SqL.of h, atI_nat (j := 0) rfl, rfl, _, rfl, iteN (by decide +kernel) ⟨_, rfl, _, _, _, _, rfl, rfl, SqL.of h, atI_nat (j := 0) rfl, rfl, _, rfl, iteN (by decide +kernel) ⟨_, rfl, _, _, _, _, rfl, rfl, SqL.of h, atI_nat (j := 0) rfl, rfl, _, rfl, iteY (by decide +kernel) ?_⟩⟩⟩⟩⟩
          refine ⟨_, rfl, _, _, _, _, rfl, rfl, SqL.of h, atI_nat (j := 1) rfl, _, rfl, S, a1, b, m1, bs, rfl, h1, ho.1, hb, hbl, fun H1 E1 => ⟨_, rfl, ite2 (fun c1 => ?_) (fun c1 => ?_)⟩⟩
          · rw [c1] at q
            exact ⟨_, rfl, _, _, _, _, rfl, rfl, SqL.of (E1 _ _ h), atI_nat (j := 2) rfl, _, rfl, S, a2, b, m2, bs, rfl, h2.fr (.of E1), ho.2, E1 _ _ hb, hbl, fun H2 E2 => by have := q H2 (E1.trans E2); rw [Bool.true_and] at this; exact this⟩
          · rw [show wF m1 (bitF bs) = false by cases hh : wF m1 (bitF bs) with | true => exact absurd hh c1 | false => rfl] at q
            exact q H1 E1
        | true =>
          have h : H l = some (.lst [.str "either", .ref a1, .ref a2]) := h
          rw [if_pos rfl] at q
          refine ⟨_, rfl, _, _, _, _, rfl, rfl, SqL.of h, atI_nat (j := 0) rfl, rfl, _, rfl, iteN (by decide +kernel) ⟨_, rfl, _, _, _, _, rfl, rfl, SqL.of h, atI_nat (j := 0) rfl, rfl, _, rfl, iteN (by decide +kernel) ⟨_, rfl, _, _, _, _, rfl, rfl, SqL.of h, atI_nat (j := 0) rfl, rfl, _, rfl, iteN (by decide +kernel) ⟨_, rfl, _, _, _, _, rfl, rfl, SqL.of h, atI_nat (j := 0) rfl, rfl, _, rfl, iteN (by decide +kernel) ⟨_, rfl, _, _, _, _, rfl, rfl, SqL.of h, atI_nat (j := 0) rfl, rfl, _, rfl, iteN (by decide +kernel) ?_⟩⟩⟩⟩⟩
          refine ⟨_, rfl, _, _, _, _, rfl, rfl, SqL.of h, atI_nat (j := 1) rfl, _, rfl, S, a1, b, m1, bs, rfl, h1, ho.1, hb, hbl, fun H1 E1 => ⟨_, rfl, ite2 (fun c1 => ?_) (fun c1 => ?_)⟩⟩
          · rw [c1] at q
            exact q H1 E1
          · rw [show wF m1 (bitF bs) = false by cases hh : wF m1 (bitF bs) with | true => exact absurd hh c1 | false => rfl] at q
            exact ⟨_, rfl, _, _, _, _, rfl, rfl, SqL.of (E1 _ _ h), atI_nat (j := 2) rfl, _, rfl, S, a2, b, m2, bs, rfl, h2.fr (.of E1), ho.2, E1 _ _ hb, hbl, fun H2 E2 => by have := q H2 (E1.trans E2); rw [Bool.false_or] at this; exact this⟩
def colF (m : Fn) : List Bool := (List.range 32).map fun i => wF m (bitF (bitsOf i 5))
def spColumn (d : Nat) : Sp := fun vs H Q _ => ∃ (S : List Addr) (l : Addr) (m : Fn), vs = [.ref l] ∧ FnAt S H l m ∧ okFn d m ∧ ∀ (t : Addr) (H' : Hp), Ex H H' → H' t = some (.tup ((colF m).map V.bl)) → Q (.ref t) H'
theorem sc_law_column : FnScope ["made", "index"] ["made"] (defScope s_law_column) := ⟨rfl, rfl, rfl, by decide +kernel, rfl, by decide +kernel, by decide +kernel⟩
theorem ok_law_column {d : Nat} (D : Dfd K mg "_law_column" s_law_column ["made"]) (T : TxtS mg) (C1 : Has P w K mg base (d + 1) "_law_worth" ["made", "bits"] (spWorth (d + 1))) (C2 : Has P w K mg base 1 "_law_bits" ["index", "many"] spBits) : Has P w K mg base (d + 2) "_law_column" ["made"] (spColumn d) := by
  obtain ⟨f_law_worth, d_law_worth, G_law_worth, g_law_worth, k_law_worth, b_law_worth⟩ := C1
  obtain ⟨f_law_bits, d_law_bits, G_law_bits, g_law_bits, k_law_bits, b_law_bits⟩ := C2
  refine D.has fun f fd F => F.ok sc_law_column (fun vs H Q E h => ?_) (fun cdv A outer s H vs Q E hr h => ?_)
  · obtain ⟨S, l, m, rfl, _⟩ := h
    rfl
  · obtain ⟨S, l, m, rfl, hF, ho, q⟩ := h
    refine ⟨_, (pss_one (ps_ret (pe_callTy call_tuple_of (by rfl) T.tuple (by decide +kernel) (pa_cons (pe_lc (own := [("index", 1)]) (g := gName 1) (tt := tYes) rfl sc_law_column.nd (pi_range1 rfl T.range (pa_cons pe_int pa_nil)) (blkOk_by (N := ["made", "index"]) (sc := defScope s_law_column) (own := [("index", 1)]) (by decide +kernel)) (fun _ _ _ _ _ => (pg_name (i := 1) sc_law_column.nd rfl (.inl rfl))) (fun _ _ _ _ _ => pts_nil) (fun _ _ _ _ _ => (pe_call G_law_worth (hr.mono (by omega)) (by rfl) g_law_worth k_law_worth b_law_worth .nil pass0 (pa_cons (pv 0) (pa_cons (pe_call G_law_bits (hr.mono (by omega)) (by rfl) g_law_bits k_law_bits b_law_bits .nil pass0 (pa_cons (pv 1) (pa_cons pe_int pa_nil))) pa_nil))))) pa_nil)))), ?_⟩
    refine ⟨32, rfl, by decide, by decide, fun L nL => lc_range (lo := 0) (n := 32) (fun j H' => Ex H H' ∧ H' L = some (.lst (((List.range j).map fun i => wF m (bitF (bitsOf i 5))).map V.bl))) ⟨Ex.new nL, upd_same⟩ ?_ ?_⟩
    · rintro j H1 hj ⟨E1, hL⟩
      rw [Int.zero_add]
      refine ⟨rfl, tYes_in ⟨_, rfl, _, rfl, j, 5, rfl, by decide, fun t H2 nt E2 ht => ⟨S, l, t, m, bitsOf j 5, rfl, hF.fr (.of (E1.trans E2)), ho, ht, bitsOf_len _ _, fun H3 E3 => ⟨_, (E2.trans E3) _ _ hL, sz_lt (by rw [List.length_map, List.length_map, List.length_range]; omega), (E1.trans (E2.trans E3)).mut nL, ?_⟩⟩⟩⟩
      rw [upd_same, List.range_succ, List.map_append, List.map_append]; rfl
    · rintro H1 ⟨E1, hL⟩
      exact ⟨L, _, rfl, .inl ⟨SqL.of hL, fun t nt => q t _ (E1.trans (Ex.new nt)) upd_same⟩⟩
def spWide : Sp := fun vs H Q _ => ∃ (b g : Addr) (many : Nat) (bs : List Bool) (gs : List Nat), vs = [.ref b, .ref g, .int (many : Nat)] ∧ H b = some (.tup (bs.map V.bl)) ∧ H g = some (.lst (nV gs)) ∧ bs.length = 5 ∧ gs.length = 5 ∧ (∀ x ∈ gs, x < many) ∧ gs.Nodup ∧ many ≤ 10000 ∧
  ∀ (t : Addr) (ws : List Bool) (H' : Hp), Ex H H' → H' t = some (.tup (ws.map V.bl)) → ws.length = many → (∀ i, i < 5 → bitF ws (gs.getD i 0) = bitF bs i) → Q (.ref t) H'
theorem sc_law_wide : FnScope ["bits", "gaps", "many", "k", "wide"] ["bits", "gaps", "many"] (defScope s_law_wide) := ⟨rfl, rfl, rfl, by decide +kernel, rfl, by decide +kernel, by decide +kernel⟩
theorem ok_law_wide (D : Dfd K mg "_law_wide" s_law_wide ["bits", "gaps", "many"]) (T : TxtS mg) : Has P w K mg base 1 "_law_wide" ["bits", "gaps", "many"] spWide := by
  refine D.has fun f fd F => F.ok sc_law_wide (fun vs H Q E h => ?_) (fun cdv A outer s H vs Q E hr h => ?_)
  · obtain ⟨b, g, many, bs, gs, rfl, _⟩ := h
    rfl
  · obtain ⟨b, g, many, bs, gs, rfl, hb, hg, hb5, hg5, hlt, nd, hm, q⟩ := h
    refine ⟨_, (pss_cons (ps_setLc (i := 4) (own := [("k", 3)]) (g := gName 3) (tt := tYes) rfl sc_law_wide.nd rfl rfl (sw_true rfl rfl rfl (by decide +kernel)) (pi_range1 rfl T.range (pa_cons (pv 2) pa_nil)) (blkOk_by (N := ["bits", "gaps", "many", "k", "wide"]) (sc := defScope s_law_wide) (own := [("k", 3)]) (by decide +kernel)) (fun _ _ _ _ _ => (pg_name (i := 3) sc_law_wide.nd rfl (.inl rfl))) (fun _ _ _ _ _ => pts_nil) (fun _ _ _ _ _ => pe_bl))
    (pss_cons (ps_for PassesOwn.never rfl (pi_range1 rfl T.range (pa_cons pe_int pa_nil)) (pg_name (i := 3) sc_law_wide.nd rfl (.inl rfl))
      (pss_one (ps_asg (pe_ix ix_tup (pv 0) (pv 3) (fun _ _ => rfl)) (pg_sub (pv 4) (pe_ix ix_list (pv 1) (pv 3) (fun _ _ => rfl)) set_list))))
    (pss_one (ps_ret (pe_callTy call_tuple_of (by rfl) T.tuple (by decide +kernel) (pa_cons (pv 4) pa_nil)))))), ?_⟩
    refine ⟨_, rfl, _, rfl, by omega, by omega, fun L nL => lc_range (lo := 0) (n := ((many : Nat) : Int).toNat) (fun j H' => Ex H H' ∧ H' L = some (.lst ((List.replicate j false).map V.bl))) ⟨Ex.new nL, upd_same⟩ ?_ ?_⟩
    · rintro j H1 hj ⟨E1, hL⟩
      rw [Int.toNat_natCast] at hj
      refine ⟨rfl, tYes_in ⟨_, hL, sz_lt (by rw [List.length_map, List.length_replicate]; omega), E1.mut nL, ?_⟩⟩
      rw [upd_same, List.replicate_succ', List.map_append]; rfl
    rintro H1 ⟨E1, hL⟩
    rw [Int.toNat_natCast] at hL
    refine ⟨5, rfl, by decide, by decide, for_range (n := 5)
      (fun k σ H' => Ex H H' ∧ ∃ (ws : List Bool) (y3 : Option V), H' L = some (.lst (ws.map V.bl)) ∧ ws.length = many ∧ (∀ i, i < k → bitF ws (gs.getD i 0) = bitF bs i) ∧ σ = [some (.ref b), some (.ref g), some (.int (many : Nat)), y3, some (.ref L)])
      ⟨E1, _, _, hL, List.length_replicate, (fun i h => absurd h (Nat.not_lt_zero _)), rfl⟩ ?_ ?_⟩
    · rintro k σ H2 hk ⟨E2, ws, y3, hL2, hwl, hw, rfl⟩
      rw [Int.zero_add]
      have gk : (nV gs)[k]? = some (.int (gs.getD k 0 : Nat)) := by
        unfold nV
        rw [List.getElem?_map, List.getElem?_map, List.getD_eq_getElem?_getD, List.getElem?_eq_getElem (by omega)]; rfl
      have hin : gs.getD k 0 ∈ gs := by rw [List.getD_eq_getElem?_getD, List.getElem?_eq_getElem (by omega)]; exact List.getElem_mem _
      have hgl := hlt _ hin
      refine ⟨_, rfl, _, rfl, _, _, _, _, rfl, rfl, SqT.of (E2 _ _ hb), at_of (j := k) rfl (bit_lk (by omega)), _, rfl, _, rfl, _, rfl, _, _, _, _, rfl, rfl, SqL.of (E2 _ _ hg), at_of (j := k) rfl gk, L, _, _, gs.getD k 0, rfl, rfl, hL2, ?_, E2.mut nL, ws.set (gs.getD k 0) (bitF bs k), _, ?_, by rw [List.length_set]; exact hwl, fun i hi => ?_, rfl⟩
      · unfold ixN
        rw [if_pos (by omega), if_pos (by rw [List.length_map]; omega), Int.toNat_natCast]
      · rw [upd_same, List.map_set]
      · unfold bitF
        rw [List.getD_eq_getElem?_getD, List.getElem?_set]
        by_cases e : gs.getD k 0 = gs.getD i 0
        · have : k = i := by
            rw [List.getD_eq_getElem?_getD, List.getD_eq_getElem?_getD, List.getElem?_eq_getElem (by omega), List.getElem?_eq_getElem (by omega)] at e
            exact (List.getElem_inj nd).mp e
          subst this
          rw [if_pos rfl, if_pos (by omega)]; rfl
        · rw [if_neg e]
          have hik : i < k := by
            rcases Nat.lt_succ_iff_lt_or_eq.mp hi with z | z
            · exact z
            · subst z; exact absurd rfl e
          have := hw i hik
          unfold bitF at this
          rw [List.getD_eq_getElem?_getD] at this
          exact this
    · rintro σ H2 ⟨E2, ws, y3, hL2, hwl, hw, rfl⟩
      exact ⟨_, rfl, _, _, rfl, .inl ⟨SqL.of hL2, fun t nt => q t ws _ (E2.trans (Ex.new nt)) upd_same hwl hw⟩⟩
end
end G
namespace G
open PySem PySem.Spec PyProof.Rows L2 Evl TL
def cst : Fn → Nat
  | .var _ => 1
  | .con _ => 0
  | .neg m => cst m + 125
  | .cho a b c => cst a + cst b + cst c + 125
  | .two _ a b => cst a + cst b + 125
def cB : Nat → Nat
  | 0 => 1
  | d + 1 => 3 * cB d + 125
theorem cst_le : ∀ {d : Nat} {m : Fn}, okFn d m → cst m ≤ cB d
  | 0, .var _, _ => Nat.le_refl _
  | 0, .con _, _ => Nat.zero_le _
  | 0, .neg _, h => h.elim
  | 0, .cho _ _ _, h => h.elim
  | 0, .two _ _ _, h => h.elim
  | d + 1, .var _, _ => by show 1 ≤ 3 * cB d + 125; omega
  | d + 1, .con _, _ => Nat.zero_le _
  | d + 1, .neg m, h => by
    have := cst_le (d := d) (m := m) h
    show cst m + 125 ≤ 3 * cB d + 125
    omega
  | d + 1, .cho a b c, h => by
    have h1 := cst_le (d := d) h.1
    have h2 := cst_le (d := d) h.2.1
    have h3 := cst_le (d := d) h.2.2
    show cst a + cst b + cst c + 125 ≤ 3 * cB d + 125
    omega
  | d + 1, .two _ a b, h => by
    have h1 := cst_le (d := d) h.1
    have h2 := cst_le (d := d) h.2
    show cst a + cst b + 125 ≤ 3 * cB d + 125
    omega
def kidsF : Fn → List Fn
  | .neg m => [m]
  | .cho a b c => [a, b, c]
  | .two _ a b => [a, b]
  | _ => []
def tagF : Fn → Str
  | .neg _ => "negate"
  | .cho _ _ _ => "choose"
  | .two e _ _ => twoS e
  | .var _ => "variable"
  | .con _ => "constant"
def isOp : Fn → Bool
  | .var _ => false
  | .con _ => false
  | _ => true
def gF (us : List Nat) (f : Nat → Bool) : Nat → Bool := fun i => f (us.getD i 0)
theorem FnAt.op {S : List Addr} {H : Hp} {l : Addr} {m : Fn} (h : FnAt S H l m) (o : isOp m = true) : ∃ ls : List Addr, H l = some (.lst (.str (tagF m) :: ls.map V.ref)) ∧ All2 (FnAt S H) ls (kidsF m) := by
  cases m with
  | var _ => cases o
  | con _ => cases o
  | neg m =>
    obtain ⟨_, a, h1, h2⟩ := h
    exact ⟨[a], h1, .cons h2 .nil⟩
  | cho m1 m2 m3 =>
    obtain ⟨_, a, b, c, h1, h2, h3, h4⟩ := h
    exact ⟨[a, b, c], h1, .cons h2 (.cons h3 (.cons h4 .nil))⟩
  | two e m1 m2 =>
    obtain ⟨_, a, b, h1, h2, h3⟩ := h
    exact ⟨[a, b], h1, .cons h2 (.cons h3 .nil)⟩
theorem tag_op {m : Fn} (o : isOp m = true) : decide (V.str (tagF m) = V.str "variable") = false ∧ decide (V.str (tagF m) = V.str "constant") = false := by
  cases m with
  | var _ => cases o
  | con _ => cases o
  | neg m => exact ⟨show decide (V.str "negate" = V.str "variable") = false by decide +kernel, show decide (V.str "negate" = V.str "constant") = false by decide +kernel⟩
  | cho m1 m2 m3 => exact ⟨show decide (V.str "choose" = V.str "variable") = false by decide +kernel, show decide (V.str "choose" = V.str "constant") = false by decide +kernel⟩
  | two e m1 m2 =>
    cases e
    · exact ⟨show decide (V.str "both" = V.str "variable") = false by decide +kernel, show decide (V.str "both" = V.str "constant") = false by decide +kernel⟩
    · exact ⟨show decide (V.str "either" = V.str "variable") = false by decide +kernel, show decide (V.str "either" = V.str "constant") = false by decide +kernel⟩
theorem kids_ok {d : Nat} {m : Fn} (h : okFn d m) (o : isOp m = true) : ∃ e, d = e + 1 ∧ (∀ k ∈ kidsF m, okFn e k) ∧ ((kidsF m).map cst).sum + 125 = cst m ∧ (kidsF m).length ≤ 3 := by
  cases d with
  | zero =>
    cases m with
    | var _ => cases o
    | con _ => cases o
    | neg m => exact h.elim
    | cho m1 m2 m3 => exact h.elim
    | two o m1 m2 => exact h.elim
  | succ e =>
    refine ⟨e, rfl, ?_⟩
    cases m with
    | var _ => cases o
    | con _ => cases o
    | neg m => exact ⟨fun k hk => by rw [List.mem_singleton.mp hk]; exact h, by simp [kidsF, cst], by show 1 ≤ 3; decide⟩
    | cho m1 m2 m3 =>
      refine ⟨fun k hk => ?_, by simp [kidsF, cst]; omega, Nat.le_refl _⟩
      simp only [kidsF, List.mem_cons, List.not_mem_nil, or_false] at hk
      rcases hk with e | e | e <;> rw [e]
      · exact h.1
      · exact h.2.1
      · exact h.2.2
    | two o m1 m2 =>
      refine ⟨fun k hk => ?_, by simp [kidsF, cst], by show 2 ≤ 3; decide⟩
      simp only [kidsF, List.mem_cons, List.not_mem_nil, or_false] at hk
      rcases hk with e | e <;> rw [e]
      · exact h.1
      · exact h.2
theorem sum_take {l : List Nat} (j : Nat) : (l.take j).sum ≤ l.sum := by
  have := congrArg List.sum (List.take_append_drop j l)
  rw [List.sum_append] at this
  omega
section
variable {P : Program} {w : World} {K : PySem.W.Frag} {mg : Str → Option Value} {base : Heap} {C : Addr}
def spRefer (C : Addr) : Nat → Sp
  | 0 => fun _ _ _ _ => False
  | d + 1 => fun vs H Q _ => ∃ (x nl pl ch : Addr) (N : List Nd) (M : Tsk → Option Nat) (us : List Nat) (cl : Nat) (S : List Addr) (l g : Addr) (m : Fn), vs = [.ref x, .ref l, .ref g] ∧ Dg C us cl H x nl pl ch N M ∧ FnAt S H l m ∧ okFn d m ∧ nl ∈ S ∧ pl ∈ S ∧ ch ∈ S ∧ g ∉ S ∧ H g = some (.lst (nV us)) ∧ us.length = 5 ∧ N.length + cst m ≤ 8000000 ∧ cl + cst m ≤ 8000000 ∧
    ∀ (r : Nat) (N' : List Nd) (M' : Tsk → Option Nat) (H' : Hp), Kp nl pl ch H H' → Dg C us (cl + cst m) H' x nl pl ch N' M' → N <+: N' → N'.length ≤ N.length + cst m → r < N'.length → (∀ f, ev N' r f = wF m (gF us f)) → Q (.int (r : Nat)) H'
theorem sc_law_refer : FnScope ["diagrams", "made", "gaps", "parts", "part"] ["diagrams", "made", "gaps"] (defScope s_law_refer) := ⟨rfl, rfl, rfl, by decide +kernel, rfl, by decide +kernel, by decide +kernel⟩
theorem fn_law_refer {B f0 f1 f2 f3 f4 : Addr} {d0 d1 d2 d3 d4 : FuncData} {f : Addr} {fd : FuncData} (F : Fun K "_law_refer" "_law_refer" s_law_refer f fd) (g_law_refer : mg "_law_refer" = some (.ref f)) (b_law_refer : Binds K fd ["diagrams", "made", "gaps"] []) (W : Cl_Diagrams K mg C)
    (M_Diagrams_variable : Meth K C "variable" f0) (G_Diagrams_variable : FnOk P w K mg base (L2.CX P w) 2 f0 d0 ["self", "k"] (spVariable C B)) (b_Diagrams_variable : Binds K d0 ["self", "k"] [])
    (M_Diagrams_negate : Meth K C "negate" f1) (G_Diagrams_negate : FnOk P w K mg base CX0 3 f1 d1 ["self", "a"] (spNeg C)) (b_Diagrams_negate : Binds K d1 ["self", "a"] [])
    (M_Diagrams_both : Meth K C "both" f2) (G_Diagrams_both : FnOk P w K mg base CX0 3 f2 d2 ["self", "a", "b"] (spTwo C (· && ·))) (b_Diagrams_both : Binds K d2 ["self", "a", "b"] [])
    (M_Diagrams_either : Meth K C "either" f3) (G_Diagrams_either : FnOk P w K mg base CX0 3 f3 d3 ["self", "a", "b"] (spTwo C (· || ·))) (b_Diagrams_either : Binds K d3 ["self", "a", "b"] [])
    (M_Diagrams_choose : Meth K C "choose" f4) (G_Diagrams_choose : FnOk P w K mg base CX0 2 f4 d4 ["self", "c", "a", "b"] (spChoose C)) (b_Diagrams_choose : Binds K d4 ["self", "c", "a", "b"] []) :
    ∀ n, FnOk P w K mg base CX0 (n + 3) f fd ["diagrams", "made", "gaps"] (spRefer C n)
  | 0 => ⟨fun _ _ _ _ h => h.elim, fun _ _ _ _ _ _ _ _ _ _ _ _ _ h => h.elim⟩
  | d + 1 => by
    have G_law_refer := fn_law_refer F g_law_refer b_law_refer W M_Diagrams_variable G_Diagrams_variable b_Diagrams_variable M_Diagrams_negate G_Diagrams_negate b_Diagrams_negate M_Diagrams_both G_Diagrams_both b_Diagrams_both M_Diagrams_either G_Diagrams_either b_Diagrams_either M_Diagrams_choose G_Diagrams_choose b_Diagrams_choose d
    have k_law_refer := F.kp
    have c_Diagrams := W.cl
    refine F.ok sc_law_refer (fun vs H Q E h => ?_) (fun cdv A outer s H vs Q E hr h => ?_)
    · obtain ⟨x, nl, pl, ch, N, M, us, cl, S, l, g, m, rfl, _⟩ := h
      rfl
    · obtain ⟨x, nl, pl, ch, N, M, us, cl, S, l, g, m, rfl, D, hF, ho, s1, s2, s3, gS, hg, h5, hb1, hb2, q⟩ := h
      refine ⟨_, (pss_cons (ps_if (pt_cmpR op_eq (pe_ix ix_list (pv 1) pe_int (fun _ _ => rfl)) pe_str (nomark _))
      (pss_one (ps_ret (pe_meth (pv 0) c_Diagrams M_Diagrams_variable G_Diagrams_variable (hr.mono (by omega)) b_Diagrams_variable .nil passX0 (pa_cons (pe_ix ix_list (pv 2) (pe_ix ix_list (pv 1) pe_int (fun _ _ => rfl)) (fun _ _ => rfl)) pa_nil))))
      pss_nil)
    (pss_cons (ps_if (pt_cmpR op_eq (pe_ix ix_list (pv 1) pe_int (fun _ _ => rfl)) pe_str (nomark _))
      (pss_one (ps_ret (pe_ix ix_list (pv 1) pe_int (fun _ _ => rfl))))
      pss_nil)
    (pss_cons (ps_setLc (i := 3) (own := [("part", 4)]) (g := gName 4) (tt := tYes) rfl sc_law_refer.nd rfl rfl (sw_true rfl rfl rfl (by decide +kernel)) (pi_list (pe_slice sl_list (pv 1) (po_some pe_int) po_none)) (blkOk_by (N := ["diagrams", "made", "gaps", "parts", "part"]) (sc := defScope s_law_refer) (own := [("part", 4)]) (by decide +kernel)) (fun _ _ _ _ _ => (pg_name (i := 4) sc_law_refer.nd rfl (.inl rfl))) (fun _ _ _ _ _ => pts_nil) (fun _ _ _ _ _ => (pe_call G_law_refer (hr.mono (by omega)) (by rfl) g_law_refer k_law_refer b_law_refer .nil pass0 (pa_cons (pv 0) (pa_cons (pv 4) (pa_cons (pv 2) pa_nil))))))
    (pss_cons (ps_if (pt_cmpR op_eq (pe_ix ix_list (pv 1) pe_int (fun _ _ => rfl)) pe_str (nomark _))
      (pss_one (ps_ret (pe_meth (pv 0) c_Diagrams M_Diagrams_negate G_Diagrams_negate (hr.mono (by omega)) b_Diagrams_negate .nil pass0 (pa_cons (pe_ix ix_list (pv 3) pe_int (fun _ _ => rfl)) pa_nil))))
      pss_nil)
    (pss_cons (ps_if (pt_cmpR op_eq (pe_ix ix_list (pv 1) pe_int (fun _ _ => rfl)) pe_str (nomark _))
      (pss_one (ps_ret (pe_meth (pv 0) c_Diagrams M_Diagrams_choose G_Diagrams_choose (hr.mono (by omega)) b_Diagrams_choose .nil pass0 (pa_cons (pe_ix ix_list (pv 3) pe_int (fun _ _ => rfl)) (pa_cons (pe_ix ix_list (pv 3) pe_int (fun _ _ => rfl)) (pa_cons (pe_ix ix_list (pv 3) pe_int (fun _ _ => rfl)) pa_nil))))))
      pss_nil)
    (pss_cons (ps_if (pt_cmpR op_eq (pe_ix ix_list (pv 1) pe_int (fun _ _ => rfl)) pe_str (nomark _))
      (pss_one (ps_ret (pe_meth (pv 0) c_Diagrams M_Diagrams_both G_Diagrams_both (hr.mono (by omega)) b_Diagrams_both .nil pass0 (pa_cons (pe_ix ix_list (pv 3) pe_int (fun _ _ => rfl)) (pa_cons (pe_ix ix_list (pv 3) pe_int (fun _ _ => rfl)) pa_nil)))))
      pss_nil)
    (pss_one (ps_ret (pe_meth (pv 0) c_Diagrams M_Diagrams_either G_Diagrams_either (hr.mono (by omega)) b_Diagrams_either .nil pass0 (pa_cons (pe_ix ix_list (pv 3) pe_int (fun _ _ => rfl)) (pa_cons (pe_ix ix_list (pv 3) pe_int (fun _ _ => rfl)) pa_nil))))))))))), ?_⟩
      have hW : wT us.length = 125 := by rw [h5]; rfl
      have no : ∀ {a : Str}, ¬ a = "_chosen" → ¬ a = "_places" → ¬ a = "_nodes" → (dfl nl pl ch).lookup a = none := fun h1 h2 h3 => dfl_no _ _ _ h1 h2 h3
      obtain ⟨dx, h1⟩ := D.ob
      by_cases o : isOp m = true
      · obtain ⟨ls, h, hA⟩ := hF.op o
        obtain ⟨e, rfl, hk, hsum, hk3⟩ := kids_ok ho o
        obtain ⟨t1, t2⟩ := tag_op o
        refine ⟨_, rfl, _, _, _, _, rfl, rfl, SqL.of h, atI_nat (j := 0) rfl, rfl, _, rfl, iteN t1 ⟨_, rfl, _, _, _, _, rfl, rfl, SqL.of h, atI_nat (j := 0) rfl, rfl, _, rfl, iteN t2 ⟨_, rfl, _, rfl, l, _, rfl, SqL.of h, fun c nc => ?_⟩⟩⟩
        have ecut : cutV (V.str (tagF m) :: ls.map V.ref) (some 1) none = ls.map V.ref := by
          have : cutV (V.str (tagF m) :: ls.map V.ref) (some ((1 : Nat) : Int)) none = _ := cutV_tail (Nat.succ_le_succ (Nat.zero_le _))
          rw [show (1 : Int) = ((1 : Nat) : Int) from rfl, this]; rfl
        rw [ecut]
        have E1 : Ex H (upd H c (.lst (ls.map V.ref))) := Ex.new nc
        have hc1 : upd H c (.lst (ls.map V.ref)) c = some (.lst (ls.map V.ref)) := upd_same
        generalize upd H c (.lst (ls.map V.ref)) = H1 at *
        have D1 := D.ex E1
        have ne3 : ∀ {b : Addr}, H b = none → b ≠ x ∧ b ≠ nl ∧ b ≠ pl ∧ b ≠ ch := fun {b} nb => by
          obtain ⟨na, h2, _⟩ := D.nodes
          obtain ⟨es, h4, _⟩ := D.fpl
          obtain ⟨cs, h7, _⟩ := D.fch
          exact ⟨(ne_of_none h1 nb).symm, (ne_of_none h2 nb).symm, (ne_of_none h4 nb).symm, (ne_of_none h7 nb).symm⟩
        obtain ⟨_, cn1, cn2, cn3⟩ := ne3 nc
        have hlk : ls.length = (kidsF m).length := hA.1
        refine ⟨c, rfl, ⟨_, SqL.of hc1⟩, fun L nL => wk_list (K := K) (a := c) (xs := ls.map V.ref)
          (fun j H' => Kp nl pl ch H1 H' ∧ ∃ (N1 : List Nd) (M1 : Tsk → Option Nat) (rs : List Nat), Dg C us (cl + (((kidsF m).take j).map cst).sum) H' x nl pl ch N1 M1 ∧ N <+: N1 ∧ N1.length ≤ N.length + (((kidsF m).take j).map cst).sum ∧ H' L = some (.lst (nV rs)) ∧ rs.length = j ∧ ∀ i r k, rs[i]? = some r → (kidsF m)[i]? = some k → r < N1.length ∧ ∀ f, ev N1 r f = wF k (gF us f))
          ⟨.of (Ex.new nL), N, M, [], D1.ex (Ex.new nL), List.prefix_refl _, Nat.le_refl _, upd_same, rfl, (fun i r k z => by rw [List.getElem?_nil] at z; cases z)⟩ (fun j H' _ g => SqL.of (g.1 _ _ hc1 cn1 cn2 cn3)) ?_ ?_⟩
        · rintro j y H2 hy ⟨K2, N1, M1, rs, D2, p2, hl2, hL, hrl, hrs⟩
          obtain ⟨b, hb, rfl⟩ := refs_get hy
          obtain ⟨k, hkj, hFk⟩ := hA.at_ hb
          have hj : j < (kidsF m).length := (List.getElem?_eq_some_iff.mp hkj).1
          have nL0 : H L = none := fresh_back E1 nL
          obtain ⟨Ln0, Ln1, Ln2, Ln3⟩ := ne3 nL0
          have esum : (((kidsF m).take (j + 1)).map cst).sum = (((kidsF m).take j).map cst).sum + cst k := by rw [take_snoc1 hkj, List.map_append, List.sum_append]; simp
          have hle : (((kidsF m).take (j + 1)).map cst).sum ≤ ((kidsF m).map cst).sum := by rw [List.map_take]; exact sum_take _
          have hF2 := hFk.fr ((Fr.of E1).trans (Fr.kp s1 s2 s3 K2))
          have hg2 : H2 g = some (.lst (nV us)) := K2 _ _ (E1 _ _ hg) (fun z => gS (z ▸ s1)) (fun z => gS (z ▸ s2)) fun z => gS (z ▸ s3)
          refine ⟨rfl, tYes_in ?_⟩
          simp only [wipe, _root_.L2.start, List.map_cons, List.map_nil, List.length_cons, List.length_nil, Nat.reduceAdd, Nat.reduceSub, List.replicate_succ, List.replicate_zero, List.cons_append, List.nil_append, List.set_cons_zero, List.set_cons_succ]
          refine ⟨_, rfl, _, rfl, _, rfl, x, nl, pl, ch, N1, M1, us, _, S, b, g, k, rfl, D2, hF2, hk k (List.mem_of_getElem? hkj), s1, s2, s3, gS, hg2, h5, by omega, by omega, fun r N2 M2 H3 K3 D3 p3 hl3 hr3 hev3 => ?_⟩
          have hL3 := K3 _ _ hL Ln1 Ln2 Ln3
          have T4 : TupEx H3 (upd H3 L (.lst (nV rs ++ [.int (r : Nat)]))) := .put hL3 fun _ z => nomatch z
          refine ⟨_, hL3, sz_lt (by rw [nV_len]; omega), (K2.trans K3).mut nL, N2, M2, rs ++ [r], (D3.keep (fun b o hb h => ?_) T4).cl_le (by omega), p2.trans p3, by omega, by rw [upd_same, nV_snoc], by rw [List.length_append, hrl]; rfl, fun i r' k' hi hk' => ?_⟩
          · rw [upd_ne fun z => by subst z; rcases hb with e | e | e | e; exact Ln0 e; exact Ln1 e; exact Ln2 e; exact Ln3 e]; exact h
          · by_cases z : i < rs.length
            · rw [List.getElem?_append_left z] at hi
              obtain ⟨a1, a2⟩ := hrs i r' k' hi hk'
              exact ⟨Nat.lt_of_lt_of_le a1 (pre_len p3), fun f => by rw [pre_ev D2.good p3 a1]; exact a2 f⟩
            · have := (List.getElem?_eq_some_iff.mp hi).1
              rw [List.length_append] at this
              have : i < rs.length + 1 := this
              obtain rfl : i = rs.length := by omega
              rw [List.getElem?_append_right (Nat.le_refl _), Nat.sub_self] at hi
              cases hi
              rw [hrl, hkj] at hk'
              cases hk'
              exact ⟨hr3, hev3⟩
        rintro H2 ⟨K2, N1, M1, rs, D2, p2, hl2, hL, hrl, hrs⟩
        have hlen : (ls.map V.ref).length = (kidsF m).length := by rw [List.length_map, hlk]
        rw [hlen, List.take_length] at D2 hl2
        rw [hlen] at hrl
        have E1K : Kp nl pl ch H H2 := (Kp.of E1).trans K2
        have lS := (hF.fr ((Fr.of E1).trans (Fr.kp s1 s2 s3 K2))).op o
        obtain ⟨ls', h2, _⟩ := lS
        obtain ⟨dx2, h12⟩ := D2.ob
        cases m with
        | var _ => cases o
        | con _ => cases o
        | neg m1 =>
          obtain ⟨r1, rfl⟩ : ∃ r1, rs = [r1] := by match rs, hrl with | [a], _ => exact ⟨a, rfl⟩
          obtain ⟨a1, a2⟩ := hrs 0 r1 m1 rfl rfl
          refine ⟨_, rfl, _, _, _, _, rfl, rfl, SqL.of h2, atI_nat (j := 0) rfl, rfl, _, rfl, iteY (by show decide (V.str "negate" = V.str "negate") = true; decide +kernel) ?_⟩
          refine ⟨_, rfl, x, dx2, _, rfl, h12, no (by decide +kernel) (by decide +kernel) (by decide +kernel), _, rfl, _, _, _, _, rfl, rfl, SqL.of hL, atI_nat (j := 0) rfl, x, nl, pl, ch, N1, M1, us, _, r1, rfl, D2, a1, by omega, by omega, fun r N' M' H' K' D' p hl hr hev => q r N' M' H' (E1K.trans K') (D'.cl_le (by omega)) (p2.trans p) (by omega) hr fun f => ?_⟩
          rw [hev, a2]; rfl
        | cho m1 m2 m3 =>
          obtain ⟨r1, r2, r3, rfl⟩ : ∃ r1 r2 r3, rs = [r1, r2, r3] := by match rs, hrl with | [a, b, c], _ => exact ⟨a, b, c, rfl⟩
          obtain ⟨a1, a2⟩ := hrs 0 r1 m1 rfl rfl
          obtain ⟨b1, b2⟩ := hrs 1 r2 m2 rfl rfl
          obtain ⟨c1, c2⟩ := hrs 2 r3 m3 rfl rfl
          refine ⟨_, rfl, _, _, _, _, rfl, rfl, SqL.of h2, atI_nat (j := 0) rfl, rfl, _, rfl, iteN (by show decide (V.str "choose" = V.str "negate") = false; decide +kernel) ⟨_, rfl, _, _, _, _, rfl, rfl, SqL.of h2, atI_nat (j := 0) rfl, rfl, _, rfl, iteY (by show decide (V.str "choose" = V.str "choose") = true; decide +kernel) ?_⟩⟩
          refine ⟨_, rfl, x, dx2, _, rfl, h12, no (by decide +kernel) (by decide +kernel) (by decide +kernel), _, rfl, _, _, _, _, rfl, rfl, SqL.of hL, atI_nat (j := 0) rfl, _, rfl, _, _, _, _, rfl, rfl, SqL.of hL, atI_nat (j := 1) rfl, _, rfl, _, _, _, _, rfl, rfl, SqL.of hL, atI_nat (j := 2) rfl, x, nl, pl, ch, N1, M1, us, _, ⟨r1, r2, r3⟩, rfl, D2, ⟨a1, b1, c1⟩, by omega, by omega, fun r N' M' H' K' D' p hl hr hev => q r N' M' H' (E1K.trans K') (D'.cl_le (by omega)) (p2.trans p) (by omega) hr fun f => ?_⟩
          rw [hev]
          show (if ev N1 r1 f = true then ev N1 r2 f else ev N1 r3 f) = _
          rw [a2, b2, c2]; rfl
        | two t m1 m2 =>
          obtain ⟨r1, r2, rfl⟩ : ∃ r1 r2, rs = [r1, r2] := by match rs, hrl with | [a, b], _ => exact ⟨a, b, rfl⟩
          obtain ⟨a1, a2⟩ := hrs 0 r1 m1 rfl rfl
          obtain ⟨b1, b2⟩ := hrs 1 r2 m2 rfl rfl
          cases t with
          | false =>
            refine ⟨_, rfl, _, _, _, _, rfl, rfl, SqL.of h2, atI_nat (j := 0) rfl, rfl, _, rfl, iteN (by show decide (V.str "both" = V.str "negate") = false; decide +kernel) ⟨_, rfl, _, _, _, _, rfl, rfl, SqL.of h2, atI_nat (j := 0) rfl, rfl, _, rfl, iteN (by show decide (V.str "both" = V.str "choose") = false; decide +kernel) ⟨_, rfl, _, _, _, _, rfl, rfl, SqL.of h2, atI_nat (j := 0) rfl, rfl, _, rfl, iteY (by show decide (V.str "both" = V.str "both") = true; decide +kernel) ?_⟩⟩⟩
            refine ⟨_, rfl, x, dx2, _, rfl, h12, no (by decide +kernel) (by decide +kernel) (by decide +kernel), _, rfl, _, _, _, _, rfl, rfl, SqL.of hL, atI_nat (j := 0) rfl, _, rfl, _, _, _, _, rfl, rfl, SqL.of hL, atI_nat (j := 1) rfl, x, nl, pl, ch, N1, M1, us, _, r1, r2, rfl, D2, a1, b1, by omega, by omega, fun r N' M' H' K' D' p hl hr hev => q r N' M' H' (E1K.trans K') (D'.cl_le (by omega)) (p2.trans p) (by omega) hr fun f => ?_⟩
            rw [hev, a2, b2]; rfl
          | true =>
            refine ⟨_, rfl, _, _, _, _, rfl, rfl, SqL.of h2, atI_nat (j := 0) rfl, rfl, _, rfl, iteN (by show decide (V.str "either" = V.str "negate") = false; decide +kernel) ⟨_, rfl, _, _, _, _, rfl, rfl, SqL.of h2, atI_nat (j := 0) rfl, rfl, _, rfl, iteN (by show decide (V.str "either" = V.str "choose") = false; decide +kernel) ⟨_, rfl, _, _, _, _, rfl, rfl, SqL.of h2, atI_nat (j := 0) rfl, rfl, _, rfl, iteN (by show decide (V.str "either" = V.str "both") = false; decide +kernel) ?_⟩⟩⟩
            refine ⟨_, rfl, x, dx2, _, rfl, h12, no (by decide +kernel) (by decide +kernel) (by decide +kernel), _, rfl, _, _, _, _, rfl, rfl, SqL.of hL, atI_nat (j := 0) rfl, _, rfl, _, _, _, _, rfl, rfl, SqL.of hL, atI_nat (j := 1) rfl, x, nl, pl, ch, N1, M1, us, _, r1, r2, rfl, D2, a1, b1, by omega, by omega, fun r N' M' H' K' D' p hl hr hev => q r N' M' H' (E1K.trans K') (D'.cl_le (by omega)) (p2.trans p) (by omega) hr fun f => ?_⟩
            rw [hev, a2, b2]; rfl
      · obtain ⟨dx, h1⟩ := D.ob
        cases m with
        | var k =>
          have h := hF.2
          have hk := okFn_var ho
          have gk : (nV us)[k]? = some (.int (us.getD k 0 : Nat)) := by
            unfold nV
            rw [List.getElem?_map, List.getElem?_map, List.getD_eq_getElem?_getD, List.getElem?_eq_getElem (by omega)]; rfl
          have hin : us.getD k 0 ∈ us := by rw [List.getD_eq_getElem?_getD, List.getElem?_eq_getElem (by omega)]; exact List.getElem_mem _
          refine ⟨_, rfl, _, _, _, _, rfl, rfl, SqL.of h, atI_nat (j := 0) rfl, rfl, _, rfl, iteY (by decide +kernel) ⟨_, rfl, x, dx, _, rfl, h1, no (by decide +kernel) (by decide +kernel) (by decide +kernel), _, rfl, _, rfl, _, _, _, _, rfl, rfl, SqL.of h, atI_nat (j := 1) rfl, _, _, _, _, rfl, rfl, SqL.of hg, at_of (j := k) rfl gk, ?_⟩⟩
          refine ⟨x, nl, pl, ch, N, M, us, cl, _, rfl, D, by omega, fun n en => ⟨?_, fun r N' H' K' D' p hl hr hev => ?_⟩, fun z => absurd z (by omega)⟩
          · obtain rfl : n = us.getD k 0 := by omega
            exact hin
          · obtain rfl : n = us.getD k 0 := by omega
            exact q r N' M H' K' (D'.cl_le (Nat.le_succ _)) p hl hr hev
        | con b =>
          have h := hF.2
          have hb := okFn_con ho
          have two := D.good.two
          refine ⟨_, rfl, _, _, _, _, rfl, rfl, SqL.of h, atI_nat (j := 0) rfl, rfl, _, rfl, iteN (by decide +kernel) ⟨_, rfl, _, _, _, _, rfl, rfl, SqL.of h, atI_nat (j := 0) rfl, rfl, _, rfl, iteY (by decide +kernel) ⟨_, rfl, _, _, _, _, rfl, rfl, SqL.of h, atI_nat (j := 1) rfl, ?_⟩⟩⟩
          exact q b N M H .refl D (List.prefix_refl _) (Nat.le_refl _) (by omega) fun f => ev_lt2 hb
        | neg m1 => exact absurd rfl o
        | cho m1 m2 m3 => exact absurd rfl o
        | two e m1 m2 => exact absurd rfl o
end
end G
namespace G
open PySem PySem.Spec PyProof.Rows L2 Evl TL
theorem col_len (m : Fn) : (colF m).length = 32 := by unfold colF; rw [List.length_map, List.length_range]
theorem col_at (m : Fn) {i : Nat} (h : i < 32) : (colF m)[i]? = some (wF m (bitF (bitsOf i 5))) := by unfold colF; rw [List.getElem?_map, List.getElem?_range h]; rfl
theorem inV_blsD {b : Bool} {l : List Bool} : inV (.bl b) (l.map V.bl) = decide (b ∈ l) := by
  unfold inV
  rw [List.any_map, Bool.eq_iff_iff, List.any_eq_true, decide_eq_true_iff]
  constructor
  · rintro ⟨y, hy, h⟩
    have h' : (y == b) = true := h
    rw [← eq_of_beq h']; exact hy
  · intro h
    exact ⟨b, h, (beq_self_eq_true b : (b == b) = true)⟩
theorem flat_bls (l : List Bool) : (l.map V.bl).all flatV = true := by
  rw [List.all_eq_true]
  intro y hy
  obtain ⟨k, _, rfl⟩ := List.mem_map.mp hy
  rfl
theorem eqv_bls : ∀ bs cs : List Bool, bs.length = cs.length → PyData.eqv (.tuple (bs.map PyData.bool)) (.tuple (cs.map PyData.bool)) = decide (bs = cs)
  | [], [], _ => by simp [PyData.eqv, PyData.eqvAll]
  | b :: bs, c :: cs, h => by
    have ih := eqv_bls bs cs (Nat.succ.inj h)
    simp only [PyData.eqv] at ih
    simp only [List.map_cons, PyData.eqv, PyData.eqvAll]
    rw [ih]
    cases b <;> cases c <;> simp
  | [], _ :: _, h => nomatch h
  | _ :: _, [], h => nomatch h
theorem shaped_bls (l : List Bool) : SeqAt.shaped (.tuple (l.map PyData.bool)) = true := by
  have : PyData.canLayAll0 (l.map PyData.bool) = true ∧ PyData.depthAll (l.map PyData.bool) = 0 := by
    induction l with
    | nil => exact ⟨rfl, rfl⟩
    | cons b bs h => exact ⟨by simp [PyData.canLayAll0, PyData.canLay0, h.1], by simp [PyData.depthAll, PyData.depth, h.2]⟩
  simp [SeqAt.shaped, PyData.canLay0, PyData.depth, this.1, this.2]
theorem dp_blsT {K : PySem.W.Frag} {H : Hp} {a : Addr} {l : List Bool} (h : H a = some (.tup (l.map V.bl))) : Dp K H (.ref a) (.tuple (l.map PyData.bool)) := .tup (SqT.of h) (dpAll_map (fun x => .bl x) l)
theorem FnAt.sub {S S' : List Addr} {H : Hp} (h : ∀ b ∈ S, b ∈ S') : ∀ {l : Addr} {m : Fn}, FnAt S' H l m → FnAt S H l m
  | _, .var _, z => ⟨fun y => z.1 (h _ y), z.2⟩
  | _, .con _, z => ⟨fun y => z.1 (h _ y), z.2⟩
  | _, .neg m, z => by
    obtain ⟨n, a, h1, h2⟩ := z
    exact ⟨fun y => n (h _ y), a, h1, FnAt.sub (m := m) h h2⟩
  | _, .cho m1 m2 m3, z => by
    obtain ⟨n, a, b, c, h1, h2, h3, h4⟩ := z
    exact ⟨fun y => n (h _ y), a, b, c, h1, FnAt.sub (m := m1) h h2, FnAt.sub (m := m2) h h3, FnAt.sub (m := m3) h h4⟩
  | _, .two e m1 m2, z => by
    obtain ⟨n, a, b, h1, h2, h3⟩ := z
    exact ⟨fun y => n (h _ y), a, b, h1, FnAt.sub (m := m1) h h2, FnAt.sub (m := m2) h h3⟩
theorem PoolOk.kp {p a nl pl ch : Addr} {H H' : Hp} (h : PoolOk p a H) (k : Kp nl pl ch H H') (n1 : p ≠ nl ∧ p ≠ pl ∧ p ≠ ch) (n2 : a ≠ nl ∧ a ≠ pl ∧ a ≠ ch) : PoolOk p a H' := by
  obtain ⟨ns, i, c, q, s, h1, h2, h3⟩ := h
  exact ⟨ns, i, c, q, s, k _ _ h1 n1.1 n1.2.1 n1.2.2, by rw [hid_ne (hid_neq h2)]; exact k _ _ (hid_get h2) n2.1 n2.2.1 n2.2.2, h3⟩
theorem Dg.px {C : Addr} {vs : List Nat} {cl : Nat} {p a : Addr} {H H' : Hp} {x nl pl ch : Addr} {N : List Nd} {M : Tsk → Option Nat} (h : Dg C vs cl H x nl pl ch N M) (X : Px p a H H') (n : ∀ b, (b = x ∨ b = nl ∨ b = pl ∨ b = ch) → b ≠ p) : Dg C vs cl H' x nl pl ch N M :=
  h.keep (fun b o hb z => X.at_ (by rw [hid_ne (n b hb)]; exact z)) fun b xs z => by
    obtain ⟨_, _, _, _, _, e, _⟩ := X.was
    exact X.at_ (by rw [hid_ne (ne_of z e (by intro y; cases y))]; exact z)
theorem eqv_ints : ∀ ns ms : List Int, ns.length = ms.length → PyData.eqv (.list (ns.map PyData.int)) (.list (ms.map PyData.int)) = decide (ns = ms)
  | [], [], _ => by simp [PyData.eqv, PyData.eqvAll]
  | b :: bs, c :: cs, h => by
    have ih := eqv_ints bs cs (Nat.succ.inj h)
    simp only [PyData.eqv] at ih
    simp only [List.map_cons, PyData.eqv, PyData.eqvAll]
    rw [ih]
    by_cases e : b = c <;> by_cases e2 : bs = cs <;> simp [e, e2]
  | [], _ :: _, h => nomatch h
  | _ :: _, [], h => nomatch h
theorem eqv_nilI (ns : List Int) : PyData.eqv (.list (ns.map PyData.int)) (.list []) = decide (ns = []) := by
  cases ns <;> simp [PyData.eqv, PyData.eqvAll]
theorem shaped_ints (l : List Int) : SeqAt.shaped (.list (l.map PyData.int)) = true := by
  have : PyData.canLayAll0 (l.map PyData.int) = true ∧ PyData.depthAll (l.map PyData.int) = 0 := by
    induction l with
    | nil => exact ⟨rfl, rfl⟩
    | cons b bs h => exact ⟨by simp [PyData.canLayAll0, PyData.canLay0, h.1], by simp [PyData.depthAll, PyData.depth, h.2]⟩
  simp [SeqAt.shaped, PyData.canLay0, PyData.depth, this.1, this.2]
theorem dp_intsL {K : PySem.W.Frag} {H : Hp} {a : Addr} {l : List Int} (h : H a = some (.lst (l.map V.int))) : Dp K H (.ref a) (.list (l.map PyData.int)) := .lst (SqL.of h) (dpAll_map (fun x => .int x) l)
theorem col_is {N : List Nd} {r : Nat} {d : Nat} {m : Fn} (hm : okFn d m) (h : ∀ f, ev N r f = wF m (gF us5 f)) : IsCol N r (colF m) := by
  refine IsCol.of (col_len m) fun i hi f mt => ?_
  have e := col_at m hi
  rw [h, List.getD_eq_getElem?_getD, e]
  show wF m (gF us5 f) = wF m (bitF (bitsOf i 5))
  refine wF_cong hm fun j hj => ?_
  rw [← mt j hj]
  show f (us5.getD j 0) = f j
  match j, hj with
  | 0, _ => rfl
  | 1, _ => rfl
  | 2, _ => rfl
  | 3, _ => rfl
  | 4, _ => rfl
  | n + 5, h => exact absurd h (by omega)
/-! ### all, any, a table over columns -/
def rowB (cols : List (List Bool)) (i : Nat) : List Bool := cols.map fun c => c.getD i false
theorem foldr_and : ∀ l : List Bool, l.foldr Bool.and true = decide (l.count false = 0)
  | [] => rfl
  | b :: l => by
    have := foldr_and l
    rw [List.foldr_cons, this, List.count_cons]
    cases b
    · show false = _; rw [decide_eq_false]; simp
    · show decide _ = _; simp
theorem foldr_or : ∀ l : List Bool, l.foldr Bool.or false = decide (0 < l.count true)
  | [] => rfl
  | b :: l => by
    have := foldr_or l
    rw [List.foldr_cons, this, List.count_cons]
    cases b
    · show decide _ = _; simp
    · show true = _; rw [decide_eq_true]; simp
theorem row_ev {N : List Nd} : ∀ {rs : List Nat} {cols : List (List Bool)}, All2 (fun r c => IsCol N r c ∧ c.length = 32) rs cols → ∀ {i : Nat} {f : Nat → Bool}, i < 32 → Mt i f → (rs.map fun a => ev N a f) = rowB cols i := by
  intro rs cols h i f hi m
  refine List.ext_getElem? fun k => ?_
  unfold rowB
  rw [List.getElem?_map, List.getElem?_map]
  cases e : rs[k]? with
  | none =>
    have := List.getElem?_eq_none_iff.mp e
    rw [List.getElem?_eq_none (by rw [← h.1]; exact this)]; rfl
  | some r =>
    obtain ⟨c, hc, h1, h2⟩ := h.at_ e
    rw [hc]
    show some (ev N r f) = some (c.getD i false)
    rw [h1.ev h2 hi m]
end G
namespace G
open PySem PySem.Spec PyProof.Rows L2 Evl
/-! ## helpers of the law's side -/
def sumB (bs : List Bool) : Nat → Nat
  | 0 => 0
  | j + 1 => sumB bs j + if bs.getD j false then 2 ^ j else 0
theorem sumB_lt (bs : List Bool) : ∀ j, sumB bs j < 2 ^ j
  | 0 => Nat.one_pos
  | j + 1 => by
    have h := sumB_lt bs j
    show sumB bs j + _ < 2 ^ (j + 1)
    rw [Nat.pow_succ]
    by_cases e : bs.getD j false = true
    · rw [if_pos e]; omega
    · rw [if_neg e]; omega
def lookB (tab bs : List Bool) : Bool := tab.getD (sumB bs bs.length) false
end G
namespace G
open PySem PySem.Spec PyProof.Rows L2 Evl TL
section
variable {P : Program} {w : World} {K : PySem.W.Frag} {mg : Str → Option Value} {base : Heap} {C : Addr}
structure TxtY (mg : Str → Option Value) : Prop where
  len : mg "len" = none
  range : mg "range" = none
theorem rg2 {m : Nat} (h : m = 2 ∨ m = 4 ∨ m = 8 ∨ m = 16) : RgC 0 (m : Nat) 2 (m / 2) := by
  rcases h with e | e | e | e <;> subst e <;> exact ⟨by decide, by decide, by decide +kernel, by decide +kernel⟩
def spApplied (C : Addr) : Sp := fun vs H Q _ => ∃ (x nl pl ch : Addr) (N : List Nd) (M : Tsk → Option Nat) (us : List Nat) (cl : Nat) (t rl : Addr) (tab : List Bool) (rs : List Nat), vs = [.ref x, .ref t, .ref rl] ∧ Dg C us cl H x nl pl ch N M ∧ H t = some (.tup (tab.map V.bl)) ∧ H rl = some (.lst (nV rs)) ∧
  (rl ≠ nl ∧ rl ≠ pl ∧ rl ≠ ch) ∧ (∀ r ∈ rs, r < N.length) ∧ tab.length = 2 ^ rs.length ∧ rs.length ≤ 4 ∧ N.length + 16 * wT us.length ≤ 9000000 ∧ cl + 16 * wT us.length ≤ 9000000 ∧
  ∀ (r : Nat) (N' : List Nd) (M' : Tsk → Option Nat) (H' : Hp), Kp nl pl ch H H' → Dg C us (cl + 16 * wT us.length) H' x nl pl ch N' M' → N <+: N' → N'.length ≤ N.length + 16 * wT us.length → r < N'.length → (∀ f, ev N' r f = lookB tab (rs.map fun a => ev N a f)) → Q (.int (r : Nat)) H'
theorem sumB_cong {a b : List Bool} : ∀ j, (∀ i, i < j → a.getD i false = b.getD i false) → sumB a j = sumB b j
  | 0, _ => rfl
  | j + 1, h => by
    show sumB a j + _ = sumB b j + _
    rw [sumB_cong j fun i hi => h i (by omega), h j (by omega)]
theorem sc_Diagrams_applied : FnScope ["self", "table", "references", "rows", "part", "value", "k"] ["self", "table", "references"] (defScope s_Diagrams_applied) := ⟨rfl, rfl, rfl, by decide +kernel, rfl, by decide +kernel, by decide +kernel⟩
theorem ok_Diagrams_applied {f2 : Addr} {d2 : FuncData} {f : Addr} {fd : FuncData} (F : Fun K "applied" "Diagrams.applied" s_Diagrams_applied f fd) (W : Cl_Diagrams K mg C) (TG : TxtG mg) (T : TxtY mg)
    (M_Diagrams_choose : Meth K C "choose" f2) (G_Diagrams_choose : FnOk P w K mg base CX0 2 f2 d2 ["self", "c", "a", "b"] (spChoose C)) (b_Diagrams_choose : Binds K d2 ["self", "c", "a", "b"] []) : FnOk P w K mg base CX0 3 f fd ["self", "table", "references"] (spApplied C) := by
  have c_Diagrams := W.cl
  obtain ⟨tT, g_TRUE⟩ := TG.tT
  obtain ⟨tF, g_FALSE⟩ := TG.fF
  refine F.ok sc_Diagrams_applied (fun vs H Q E h => ?_) (fun cdv A outer s H vs Q E hr h => ?_)
  · obtain ⟨x, nl, pl, ch, N, M, us, cl, t, rl, tab, rs, rfl, _⟩ := h
    rfl
  · obtain ⟨x, nl, pl, ch, N, M, us, cl, t, rl, tab, rs, rfl, D, ht, hrl, nrl, hrs, htl, hn4, hb1, hb2, q⟩ := h
    refine ⟨_, (pss_cons (ps_set (i := 3) sc_Diagrams_applied.nd rfl (.inr rfl) (pe_lc (own := [("value", 5)]) (g := gName 5) (tt := tYes) rfl sc_Diagrams_applied.nd (pi_tup (pv 1)) (blkOk_by (N := ["self", "table", "references", "rows", "part", "value", "k"]) (sc := defScope s_Diagrams_applied) (own := [("value", 5)]) (by decide +kernel)) (fun _ _ _ _ _ => (pg_name (i := 5) sc_Diagrams_applied.nd rfl (.inl rfl))) (fun _ _ _ _ _ => pts_nil) (fun _ _ _ _ _ => (pe_ifExp (pt_val (pv 5)) (gInt rfl g_TRUE) (gInt rfl g_FALSE)))))
    (pss_cons (ps_for PassesOwn.never rfl (pi_list (pv 2)) (pg_name (i := 4) sc_Diagrams_applied.nd rfl (.inr rfl))
      (pss_one (ps_set (i := 3) sc_Diagrams_applied.nd rfl (.inr rfl) (pe_lc (own := [("k", 6)]) (g := gName 6) (tt := tYes) rfl sc_Diagrams_applied.nd (pi_range3 rfl T.range (pa_cons pe_int (pa_cons (pe_callB call_len_seq (by rfl) T.len (by decide +kernel) (pa_cons (pv 3) pa_nil)) (pa_cons pe_int pa_nil)))) (blkOk_by (N := ["self", "table", "references", "rows", "part", "value", "k"]) (sc := defScope s_Diagrams_applied) (own := [("k", 6)]) (by decide +kernel)) (fun _ _ _ _ _ => (pg_name (i := 6) sc_Diagrams_applied.nd rfl (.inl rfl))) (fun _ _ _ _ _ => pts_nil) (fun _ _ _ _ _ => (pe_meth (pv 0) c_Diagrams M_Diagrams_choose G_Diagrams_choose (hr.mono (by omega)) b_Diagrams_choose .nil pass0 (pa_cons (pv 4) (pa_cons (pe_ix (kIxL (K := K) rfl) (pv 3) (pe_op op_add (pv 6) pe_int) (fun _ _ => rfl)) (pa_cons (pe_ix (kIxL (K := K) rfl) (pv 3) (pv 6) (fun _ _ => rfl)) pa_nil)))))))))
    (pss_one (ps_ret (pe_ix ix_list (pv 3) pe_int (fun _ _ => rfl)))))), ?_⟩
    have two := D.good.two
    obtain ⟨dx, h1⟩ := D.ob
    have ne3 : ∀ {b : Addr}, H b = none → b ≠ x ∧ b ≠ nl ∧ b ≠ pl ∧ b ≠ ch := fun {b} nb => by
      obtain ⟨na, h2, _⟩ := D.nodes
      obtain ⟨es, h4, _⟩ := D.fpl
      obtain ⟨cs, h7, _⟩ := D.fch
      exact ⟨(ne_of_none h1 nb).symm, (ne_of_none h2 nb).symm, (ne_of_none h4 nb).symm, (ne_of_none h7 nb).symm⟩
    have htab16 : tab.length ≤ 16 := by rw [htl]; exact Nat.le_trans (Nat.pow_le_pow_right (by decide) hn4) (by decide)
    generalize hWd : wT us.length = W0 at *
    have hmul : ∀ c, c ≤ 16 → c * W0 ≤ 16 * W0 := fun c h => Nat.mul_le_mul_right _ h
    -- rows
    refine ⟨_, rfl, t, rfl, ⟨_, SqT.of ht⟩, fun R nR => wk_tup (K := K) (a := t) (xs := tab.map V.bl) (fun j H' => Ex H H' ∧ H' R = some (.lst (nV ((tab.take j).map fun b => if b = true then 1 else 0)))) ⟨Ex.new nR, upd_same⟩ (fun j H' _ g => SqT.of (g.1 _ _ ht)) ?_ ?_⟩
    · rintro j y H2 hy ⟨E2, hR⟩
      obtain ⟨b, hb, rfl⟩ := bls_get hy
      have hj : j < tab.length := (List.getElem?_eq_some_iff.mp hb).1
      refine ⟨rfl, tYes_in ?_⟩
      simp only [wipe, _root_.L2.start, List.map_cons, List.map_nil, List.length_cons, List.length_nil, Nat.reduceAdd, Nat.reduceSub, List.replicate_succ, List.replicate_zero, List.cons_append, List.nil_append, List.set_cons_zero, List.set_cons_succ]
      refine ⟨_, rfl, _, rfl, ite2 (fun c1 => ⟨_, hR, sz_lt (by rw [nV_len, List.length_map, List.length_take]; omega), E2.mut nR, ?_⟩) (fun c1 => ⟨_, hR, sz_lt (by rw [nV_len, List.length_map, List.length_take]; omega), E2.mut nR, ?_⟩)⟩
      · subst c1
        rw [upd_same, take_snoc1 hb, List.map_append]
        exact congrArg (fun z => some (HO.lst z)) (nV_snoc _ 1).symm
      · obtain rfl : b = false := by cases b with | true => exact absurd rfl c1 | false => rfl
        rw [upd_same, take_snoc1 hb, List.map_append]
        exact congrArg (fun z => some (HO.lst z)) (nV_snoc _ 0).symm
    rintro H2 ⟨E2, hR⟩
    rw [List.length_map, List.take_length] at hR
    have nRn := ne3 nR
    have hrl2 := E2 _ _ hrl
    -- the sum's places
    refine ⟨_, rfl, rl, rfl, ⟨_, SqL.of hrl2⟩, for_list (K := K) (a := rl) (xs := nV rs)
      (fun i σ H' => Kp nl pl ch H H' ∧ ∃ (N' : List Nd) (M' : Tsk → Option Nat) (cl' c : Nat) (R' : Addr) (rw_ : List Nat) (y4 : Option V), Dg C us cl' H' x nl pl ch N' M' ∧ N <+: N' ∧ N'.length ≤ N.length + c * W0 ∧ cl' ≤ cl + c * W0 ∧ H' R' = some (.lst (nV rw_)) ∧ (R' ≠ nl ∧ R' ≠ pl ∧ R' ≠ ch) ∧ rw_.length = 2 ^ (rs.length - i) ∧ c + rw_.length ≤ 16 ∧
        (∀ j r, rw_[j]? = some r → r < N'.length ∧ ∀ f, ev N' r f = tab.getD (j * 2 ^ i + sumB (rs.map fun a => ev N a f) i) false) ∧ σ = [some (.ref x), some (.ref t), some (.ref rl), some (.ref R'), y4, none, none])
      ⟨.of E2, N, M, cl, 0, R, _, _, D.ex E2, List.prefix_refl _, by rw [Nat.zero_mul]; exact Nat.le_refl _, by rw [Nat.zero_mul]; exact Nat.le_refl _, hR, ⟨nRn.2.1, nRn.2.2.1, nRn.2.2.2⟩, by rw [List.length_map, htl]; rfl, by rw [List.length_map]; omega, ?_, rfl⟩ (fun i σ H' _ g => SqL.of (g.1 _ _ hrl nrl.1 nrl.2.1 nrl.2.2)) ?_ ?_⟩
    · intro j r hr'
      rw [List.getElem?_map] at hr'
      cases e : tab[j]? with
      | none => rw [e] at hr'; cases hr'
      | some b =>
        rw [e] at hr'
        have : r = if b = true then 1 else 0 := (Option.some.inj hr').symm
        subst this
        refine ⟨by split <;> omega, fun f => ?_⟩
        have eS : sumB (rs.map fun a => ev N a f) 0 = 0 := rfl
        rw [eS, Nat.pow_zero, Nat.mul_one, Nat.add_zero, List.getD_eq_getElem?_getD, e]
        cases b
        · rw [if_neg Bool.false_ne_true]; exact ev_lt2 (by decide)
        · rw [if_pos rfl]; exact ev_lt2 (by decide)
    · rintro i y σ H3 hy ⟨K3, N3, M3, cl3, c, R3, rw_, y4, D3, p3, hl3, hcl3, hR3, nR3, hwl, hcw, hsem, rfl⟩
      obtain ⟨part, hp, rfl⟩ := nV_get hy
      have hi : i < rs.length := (List.getElem?_eq_some_iff.mp hp).1
      have hpl : part < N.length := hrs part (List.mem_of_getElem? hp)
      have hpl3 : part < N3.length := Nat.lt_of_lt_of_le hpl (pre_len p3)
      have hm2 : rw_.length = 2 * 2 ^ (rs.length - (i + 1)) := by
        rw [hwl, show rs.length - i = (rs.length - (i + 1)) + 1 by omega, Nat.pow_succ, Nat.mul_comm]
      have hm4 : rw_.length = 2 ∨ rw_.length = 4 ∨ rw_.length = 8 ∨ rw_.length = 16 := by
        have h4 : rs.length - (i + 1) ≤ 3 := by omega
        generalize rs.length - (i + 1) = e at *
        match e, h4 with
        | 0, _ => exact .inl hm2
        | 1, _ => exact .inr (.inl hm2)
        | 2, _ => exact .inr (.inr (.inl hm2))
        | 3, _ => exact .inr (.inr (.inr hm2))
        | n + 4, h => exact absurd h (by omega)
      have hhalf : rw_.length / 2 = 2 ^ (rs.length - (i + 1)) := by rw [hm2]; omega
      obtain ⟨dx3, h13⟩ := D3.ob
      refine ⟨_, rfl, _, _, rfl, .inl (SqL.of hR3), _, _, _, rw_.length / 2, by rw [nV_len], rg2 hm4, fun R4 nR4 => wk_it walk_rangeC
        (fun j H' => Kp nl pl ch H3 H' ∧ ∃ (N' : List Nd) (M' : Tsk → Option Nat) (cl' : Nat) (ac : List Nat), Dg C us cl' H' x nl pl ch N' M' ∧ N3 <+: N' ∧ N'.length ≤ N.length + (c + j) * W0 ∧ cl' ≤ cl + (c + j) * W0 ∧ H' R4 = some (.lst (nV ac)) ∧ ac.length = j ∧
          ∀ k r, ac[k]? = some r → r < N'.length ∧ ∀ f, ev N' r f = tab.getD (k * 2 ^ (i + 1) + sumB (rs.map fun a => ev N a f) (i + 1)) false)
        ⟨.of (Ex.new nR4), N3, M3, cl3, [], D3.ex (Ex.new nR4), List.prefix_refl _, hl3, hcl3, upd_same, rfl, (fun k r z => by rw [List.getElem?_nil] at z; cases z)⟩ (fun _ _ _ _ => trivial) ?_ ?_⟩
      · rintro j z H4 H5 hj ⟨K4, N4, M4, cl4, ac, D4, p4, hl4, hcl4, hR4, hacl, hac⟩ ⟨rfl, ez⟩
        have nR40 : H R4 = none := D3.free K3 nR4
        obtain ⟨q0, q1, q2, q3⟩ := ne3 nR40
        have ez2 : z = V.int ((2 * j : Nat) : Int) := ez.trans (by
          show V.int ((0 : Int) + ((j : Nat) : Int) * 2) = _
          rw [show (0 : Int) + ((j : Nat) : Int) * 2 = ((2 * j : Nat) : Int) by omega])
        subst ez2
        have hj2 : 2 * j + 1 < rw_.length := by omega
        obtain ⟨ra, hra⟩ : ∃ r, rw_[2 * j]? = some r := ⟨_, List.getElem?_eq_getElem (by omega)⟩
        obtain ⟨rb, hrb⟩ : ∃ r, rw_[2 * j + 1]? = some r := ⟨_, List.getElem?_eq_getElem hj2⟩
        obtain ⟨a1, a2⟩ := hsem _ _ hra
        obtain ⟨b1, b2⟩ := hsem _ _ hrb
        have nva : (nV rw_)[2 * j]? = some (.int (ra : Nat)) := by unfold nV; rw [List.getElem?_map, List.getElem?_map, hra]; rfl
        have nvb : (nV rw_)[2 * j + 1]? = some (.int (rb : Nat)) := by unfold nV; rw [List.getElem?_map, List.getElem?_map, hrb]; rfl
        have hR34 := K4 _ _ hR3 nR3.1 nR3.2.1 nR3.2.2
        obtain ⟨dx4, h14⟩ := D4.ob
        have hcj : c + j + 1 ≤ 16 := by omega
        have m1 := hmul _ hcj
        have e1 : (c + j + 1) * W0 = (c + j) * W0 + W0 := by rw [Nat.succ_mul]
        have pl4 := pre_len p4
        refine ⟨rfl, tYes_in ?_⟩
        simp only [wipe, _root_.L2.start, List.map_cons, List.map_nil, List.length_cons, List.length_nil, Nat.reduceAdd, Nat.reduceSub, List.replicate_succ, List.replicate_zero, List.cons_append, List.nil_append, List.set_cons_zero, List.set_cons_succ]
        refine ⟨_, rfl, x, dx4, _, rfl, h14, dfl_no _ _ _ (by decide +kernel) (by decide +kernel) (by decide +kernel), _, rfl, _, rfl, _, rfl, _, _, rfl, rfl, _, _, _, _, rfl, rfl, SqL.of hR34, at_of (j := 2 * j + 1) rfl nvb, _, rfl, _, rfl, _, _, _, _, rfl, rfl, SqL.of hR34, at_of (j := 2 * j) rfl nva, ?_⟩
        refine ⟨x, nl, pl, ch, N4, M4, us, cl4, ⟨part, rb, ra⟩, rfl, D4, ⟨Nat.lt_of_lt_of_le hpl3 pl4, Nat.lt_of_lt_of_le b1 pl4, Nat.lt_of_lt_of_le a1 pl4⟩, by rw [hWd]; omega, by rw [hWd]; omega, fun r N5 M5 H6 K6 D6 p6 hl6 hr6 hev6 => ?_⟩
        rw [hWd] at D6 hl6
        have hR46 := K6 _ _ hR4 q1 q2 q3
        have T7 : TupEx H6 (upd H6 R4 (.lst (nV ac ++ [.int (r : Nat)]))) := .put hR46 fun _ z => nomatch z
        refine ⟨_, hR46, sz_lt (by rw [nV_len]; omega), (K4.trans K6).mut nR4, N5, M5, _, ac ++ [r], D6.keep (fun b o hb h => ?_) T7, p4.trans p6, ?_, ?_, by rw [upd_same, nV_snoc], by rw [List.length_append, hacl]; rfl, fun k r' hk => ?_⟩
        · rw [upd_ne fun z => by subst z; rcases hb with e | e | e | e; exact q0 e; exact q1 e; exact q2 e; exact q3 e]; exact h
        · show N5.length ≤ N.length + (c + j + 1) * W0
          omega
        · show cl4 + W0 ≤ cl + (c + j + 1) * W0
          omega
        · by_cases z : k < ac.length
          · rw [List.getElem?_append_left z] at hk
            obtain ⟨u1, u2⟩ := hac k r' hk
            exact ⟨Nat.lt_of_lt_of_le u1 (pre_len p6), fun f => by rw [pre_ev D4.good p6 u1]; exact u2 f⟩
          · have := (List.getElem?_eq_some_iff.mp hk).1
            rw [List.length_append] at this
            have : k < ac.length + 1 := this
            obtain rfl : k = ac.length := by omega
            rw [List.getElem?_append_right (Nat.le_refl _), Nat.sub_self] at hk
            cases hk
            refine ⟨hr6, fun f => ?_⟩
            rw [hev6, hacl]
            show (if ev N4 part f = true then ev N4 rb f else ev N4 ra f) = _
            rw [pre_ev D3.good p4 b1, pre_ev D3.good p4 a1, pre_ev D3.good p4 hpl3, pre_ev D.good p3 hpl, a2, b2]
            have eS : sumB (rs.map fun a => ev N a f) (i + 1) = sumB (rs.map fun a => ev N a f) i + if (rs.map fun a => ev N a f).getD i false then 2 ^ i else 0 := rfl
            have eg : (rs.map fun a => ev N a f).getD i false = ev N part f := by rw [List.getD_eq_getElem?_getD, List.getElem?_map, hp]; rfl
            rw [eS, eg, Nat.pow_succ]
            have ej : j * (2 ^ i * 2) = 2 * j * 2 ^ i := by rw [Nat.mul_comm (2 ^ i) 2, ← Nat.mul_assoc, Nat.mul_comm j 2]
            cases ev N part f with
            | true =>
              rw [if_pos rfl, if_pos rfl, ej, Nat.succ_mul]
              congr 1
              omega
            | false =>
              rw [if_neg Bool.false_ne_true, if_neg Bool.false_ne_true, ej]; rfl
      · rintro H4 ⟨K4, N4, M4, cl4, ac, D4, p4, hl4, hcl4, hR4, hacl, hac⟩
        obtain ⟨q0, q1, q2, q3⟩ := ne3 (D3.free K3 nR4)
        exact ⟨K3.trans K4, N4, M4, cl4, c + rw_.length / 2, R4, ac, _, D4, p3.trans p4, hl4, hcl4, hR4, ⟨q1, q2, q3⟩, by rw [hacl]; exact hhalf, by rw [hacl]; omega, hac, rfl⟩
    · rintro σ H3 ⟨K3, N3, M3, cl3, c, R3, rw_, y4, D3, p3, hl3, hcl3, hR3, nR3, hwl, hcw, hsem, rfl⟩
      rw [nV_len] at hwl hsem
      rw [Nat.sub_self, Nat.pow_zero] at hwl
      obtain ⟨r, rfl⟩ : ∃ r, rw_ = [r] := by match rw_, hwl with | [r], _ => exact ⟨r, rfl⟩
      obtain ⟨a1, a2⟩ := hsem 0 r rfl
      have m1 := hmul c (by omega)
      refine ⟨_, rfl, _, _, _, _, rfl, rfl, SqL.of hR3, atI_nat (j := 0) rfl, q r N3 M3 H3 K3 (D3.cl_le (by omega)) p3 (by omega) a1 fun f => ?_⟩
      rw [a2, Nat.zero_mul, Nat.zero_add]
      unfold lookB
      rw [List.length_map]
end
end G
namespace G
open PySem PySem.Spec PyProof.Rows L2 Evl TL
/-! ## the law's side: a function of a column -/
section
variable {P : Program} {w : World} {K : PySem.W.Frag} {mg : Str → Option Value} {base : Heap} {C : Addr}
def spOfCol (C : Addr) : Sp := fun vs H Q _ => ∃ (x nl pl ch : Addr) (N : List Nd) (M : Tsk → Option Nat) (cl : Nat) (t : Addr) (cs : List Bool), vs = [.ref x, .ref t] ∧ Dg C us5 cl H x nl pl ch N M ∧ H t = some (.tup (cs.map V.bl)) ∧ cs.length = 32 ∧ N.length + 45000 ≤ 9000000 ∧ cl + 45000 ≤ 9000000 ∧
  ∀ (r : Nat) (N' : List Nd) (M' : Tsk → Option Nat) (H' : Hp), Kp nl pl ch H H' → Dg C us5 (cl + 45000) H' x nl pl ch N' M' → N <+: N' → N'.length ≤ N.length + 45000 → r < N'.length → IsCol N' r cs → Q (.int (r : Nat)) H'
theorem sc_law_of_column : FnScope ["diagrams", "column", "total", "index", "row", "bits", "k", "part"] ["diagrams", "column"] (defScope s_law_of_column) := ⟨rfl, rfl, rfl, by decide +kernel, rfl, by decide +kernel, by decide +kernel⟩
theorem ok_law_of_column {B f0 f1 f2 f3 : Addr} {d0 d1 d2 d3 : FuncData} (D : Dfd K mg "_law_of_column" s_law_of_column ["diagrams", "column"]) (T : TxtS mg) (W : Cl_Diagrams K mg C)
    (M_Diagrams_variable : Meth K C "variable" f0) (G_Diagrams_variable : FnOk P w K mg base (L2.CX P w) 2 f0 d0 ["self", "k"] (spVariable C B)) (b_Diagrams_variable : Binds K d0 ["self", "k"] [])
    (M_Diagrams_negate : Meth K C "negate" f1) (G_Diagrams_negate : FnOk P w K mg base CX0 3 f1 d1 ["self", "a"] (spNeg C)) (b_Diagrams_negate : Binds K d1 ["self", "a"] [])
    (M_Diagrams_both : Meth K C "both" f2) (G_Diagrams_both : FnOk P w K mg base CX0 3 f2 d2 ["self", "a", "b"] (spTwo C (· && ·))) (b_Diagrams_both : Binds K d2 ["self", "a", "b"] [])
    (M_Diagrams_either : Meth K C "either" f3) (G_Diagrams_either : FnOk P w K mg base CX0 3 f3 d3 ["self", "a", "b"] (spTwo C (· || ·))) (b_Diagrams_either : Binds K d3 ["self", "a", "b"] [])
    (C2 : Has P w K mg base 1 "_law_bits" ["index", "many"] spBits) : Has P w K mg base 4 "_law_of_column" ["diagrams", "column"] (spOfCol C) := by
  have c_Diagrams := W.cl
  obtain ⟨f_law_bits, d_law_bits, G_law_bits, g_law_bits, k_law_bits, b_law_bits⟩ := C2
  refine D.has fun f fd F => F.ok sc_law_of_column (fun vs H Q E h => ?_) (fun cdv A outer s H vs Q E hr h => ?_)
  · obtain ⟨x, nl, pl, ch, N, M, cl, t, cs, rfl, _⟩ := h
    rfl
  · obtain ⟨x, nl, pl, ch, N, M, cl, t, cs, rfl, D, ht, hcs, hb1, hb2, q⟩ := h
    refine ⟨_, (pss_cons (ps_set (i := 2) sc_law_of_column.nd rfl (.inl rfl) pe_int)
    (pss_cons (ps_for PassesOwn.never rfl (pi_range1 rfl T.range (pa_cons pe_int pa_nil)) (pg_name (i := 3) sc_law_of_column.nd rfl (.inl rfl))
      (pss_one (ps_if (pt_val (pe_ix ix_tup (pv 1) (pv 3) (fun _ _ => rfl)))
        (pss_cons (ps_set (i := 4) sc_law_of_column.nd rfl (.inl rfl) pe_int)
        (pss_cons (ps_set (i := 5) sc_law_of_column.nd rfl (.inl rfl) (pe_call G_law_bits (hr.mono (by omega)) (by rfl) g_law_bits k_law_bits b_law_bits .nil pass0 (pa_cons (pv 3) (pa_cons pe_int pa_nil))))
        (pss_cons (ps_for PassesOwn.never rfl (pi_range1 rfl T.range (pa_cons pe_int pa_nil)) (pg_name (i := 6) sc_law_of_column.nd rfl (.inl rfl))
          (pss_cons (ps_set (i := 7) sc_law_of_column.nd rfl (.inl rfl) (pe_meth (pv 0) c_Diagrams M_Diagrams_variable G_Diagrams_variable (hr.mono (by omega)) b_Diagrams_variable .nil passX0 (pa_cons (pv 6) pa_nil)))
          (pss_cut (ps_if (pt_not (pt_val (pe_ix ix_tup (pv 5) (pv 6) (fun _ _ => rfl))))
            (pss_one (ps_set (i := 7) sc_law_of_column.nd rfl (.inl rfl) (pe_meth (pv 0) c_Diagrams M_Diagrams_negate G_Diagrams_negate (hr.mono (by omega)) b_Diagrams_negate .nil pass0 (pa_cons (pv 7) pa_nil))))
            pss_nil)
          (pss_one (ps_set (i := 4) sc_law_of_column.nd rfl (.inl rfl) (pe_meth (pv 0) c_Diagrams M_Diagrams_both G_Diagrams_both (hr.mono (by omega)) b_Diagrams_both .nil pass0 (pa_cons (pv 4) (pa_cons (pv 7) pa_nil))))))))
        (pss_one (ps_set (i := 2) sc_law_of_column.nd rfl (.inl rfl) (pe_meth (pv 0) c_Diagrams M_Diagrams_either G_Diagrams_either (hr.mono (by omega)) b_Diagrams_either .nil pass0 (pa_cons (pv 2) (pa_cons (pv 4) pa_nil))))))))
        pss_nil)))
    (pss_one (ps_ret (pv 2))))), ?_⟩
    have hW : wT us5.length = 125 := rfl
    have no : ∀ {a : Str}, ¬ a = "_chosen" → ¬ a = "_places" → ¬ a = "_nodes" → (dfl nl pl ch).lookup a = none := fun h1 h2 h3 => dfl_no _ _ _ h1 h2 h3
    have nv := no (a := "variable") (by decide +kernel) (by decide +kernel) (by decide +kernel)
    have nn := no (a := "negate") (by decide +kernel) (by decide +kernel) (by decide +kernel)
    have nb := no (a := "both") (by decide +kernel) (by decide +kernel) (by decide +kernel)
    have ne := no (a := "either") (by decide +kernel) (by decide +kernel) (by decide +kernel)
    refine ⟨_, rfl, by decide, by decide, for_range (n := ((32 : Nat) : Int).toNat)
      (fun j σ H' => Kp nl pl ch H H' ∧ ∃ (N' : List Nd) (M' : Tsk → Option Nat) (r : Nat) (y3 y4 y5 y6 y7 : Option V), Dg C us5 (cl + j * 1400) H' x nl pl ch N' M' ∧ N <+: N' ∧ N'.length ≤ N.length + j * 1400 ∧ r < N'.length ∧
        (∀ f, ev N' r f = true ↔ ∃ i, i < j ∧ cs[i]? = some true ∧ Mt i f) ∧ σ = [some (.ref x), some (.ref t), some (.int (r : Nat)), y3, y4, y5, y6, y7])
      ⟨.refl, N, M, 0, _, _, _, _, _, D, List.prefix_refl _, by omega, by have := D.good.two; omega, (fun f => ⟨fun z => (by rw [ev_lt2 (by decide)] at z; cases z), fun ⟨i, h, _⟩ => absurd h (by omega)⟩), rfl⟩ ?_ ?_⟩
    · rintro j σ H1 hj ⟨K1, N1, M1, r, y3, y4, y5, y6, y7, D1, p1, hl1, hr1, hev, rfl⟩
      have hj : j < 32 := hj
      rw [Int.zero_add]
      obtain ⟨b, hb⟩ : ∃ b, cs[j]? = some b := ⟨_, List.getElem?_eq_getElem (by omega)⟩
      have hbv : (cs.map V.bl)[j]? = some (.bl b) := by rw [List.getElem?_map, hb]; rfl
      have ht1 := D.tup K1 _ _ ht
      refine ⟨_, rfl, _, rfl, _, _, _, _, rfl, rfl, SqT.of ht1, at_of (j := j) rfl hbv, _, rfl, ite2 (fun c1 => ?_) (fun c1 => ?_)⟩
      · subst c1
        refine ⟨_, rfl, j, 5, rfl, by decide, fun tb H2 nt E2 hbt => ⟨_, rfl, by decide, by decide, for_range (n := ((5 : Nat) : Int).toNat)
          (fun k σ H' => Kp nl pl ch H1 H' ∧ ∃ (N2 : List Nd) (M2 : Tsk → Option Nat) (row : Nat) (y6 y7 : Option V), Dg C us5 (cl + j * 1400 + k * 250) H' x nl pl ch N2 M2 ∧ N1 <+: N2 ∧ N2.length ≤ N1.length + k * 251 ∧ row < N2.length ∧ H' tb = some (.tup ((bitsOf j 5).map V.bl)) ∧
            (∀ f, ev N2 row f = true ↔ ∀ i, i < k → f i = bitF (bitsOf j 5) i) ∧ σ = [some (.ref x), some (.ref t), some (.int (r : Nat)), some (.int (j : Nat)), some (.int (row : Nat)), some (.ref tb), y6, y7])
          ⟨.of E2, N1, M1, 1, _, _, D1.ex E2, List.prefix_refl _, by omega, by have := D1.good.two; omega, hbt, (fun f => ⟨fun _ i h => absurd h (by omega), fun _ => ev_lt2 (by decide)⟩), rfl⟩ ?_ ?_⟩⟩
        · rintro k σ H3 hk ⟨K3, N2, M2, row, y6, y7, D3, p3, hl3, hr3, hb3, hev3, rfl⟩
          have hk : k < 5 := hk
          rw [Int.zero_add]
          obtain ⟨dx, h1⟩ := D3.ob
          have hbit : ((bitsOf j 5).map V.bl)[k]? = some (.bl (bitF (bitsOf j 5) k)) := bit_lk (by rw [bitsOf_len]; exact hk)
          refine ⟨_, rfl, x, dx, _, rfl, h1, nv, _, rfl, x, nl, pl, ch, N2, M2, us5, _, _, rfl, D3, by omega, fun n en => ?_, fun z => absurd z (by omega)⟩
          obtain rfl : n = k := by omega
          refine ⟨?_, fun r4 N4 H4 K4 D4 p4 hl4 hr4 hev4 => ?_⟩
          · match n, hk with
            | 0, _ => decide
            | 1, _ => decide
            | 2, _ => decide
            | 3, _ => decide
            | 4, _ => decide
            | m + 5, h => exact absurd h (by omega)
          have hb4 := D3.tup K4 _ _ hb3
          have hr4' : row < N4.length := Nat.lt_of_lt_of_le hr3 (pre_len p4)
          refine ⟨fun σ H' => Kp nl pl ch H4 H' ∧ ∃ (N5 : List Nd) (M5 : Tsk → Option Nat) (pt : Nat), Dg C us5 (cl + j * 1400 + n * 250 + 125) H' x nl pl ch N5 M5 ∧ N4 <+: N5 ∧ N5.length ≤ N4.length + 125 ∧ pt < N5.length ∧ (∀ f, ev N5 pt f = true ↔ f n = bitF (bitsOf j 5) n) ∧
            σ = [some (.ref x), some (.ref t), some (.int (r : Nat)), some (.int (j : Nat)), some (.int (row : Nat)), some (.ref tb), some (.int (n : Nat)), some (.int (pt : Nat))], ?_, ?_⟩
          · refine ⟨_, rfl, _, rfl, _, _, _, _, rfl, rfl, SqT.of hb4, at_of (j := n) rfl hbit, _, rfl, ite2 (fun c2 => ?_) (fun c2 => ?_)⟩
            · have c2 : bitF (bitsOf j 5) n = false := by cases e : bitF (bitsOf j 5) n with | false => rfl | true => rw [e] at c2; cases c2
              obtain ⟨dx4, h14⟩ := D4.ob
              refine ⟨_, rfl, x, dx4, _, rfl, h14, nn, _, rfl, x, nl, pl, ch, N4, M2, us5, _, _, rfl, D4, hr4, by omega, by omega, fun r5 N5 M5 H5 K5 D5 p5 hl5 hr5 hev5 => ?_⟩
              refine ⟨K5, N5, M5, r5, D5, p5, by omega, hr5, fun f => ?_, rfl⟩
              rw [hev5, hev4, c2]
              cases f n <;> simp
            · have c2 : bitF (bitsOf j 5) n = true := by cases e : bitF (bitsOf j 5) n with | true => rfl | false => rw [e] at c2; exact absurd rfl c2
              refine ⟨.refl, N4, M2, r4, D4.cl_le (by omega), List.prefix_refl _, by omega, hr4, fun f => ?_, rfl⟩
              rw [hev4, c2]
          · rintro σ H5 ⟨K5, N5, M5, pt, D5, p5, hl5, hr5, hev5, rfl⟩
            obtain ⟨dx5, h15⟩ := D5.ob
            refine ⟨_, rfl, x, dx5, _, rfl, h15, nb, _, rfl, _, rfl, x, nl, pl, ch, N5, M5, us5, _, row, pt, rfl, D5, Nat.lt_of_lt_of_le hr4' (pre_len p5), hr5, by omega, by omega, fun r6 N6 M6 H6 K6 D6 p6 hl6 hr6 hev6 => ?_⟩
            refine ⟨K3.trans (K4.trans (K5.trans K6)), N6, M6, r6, _, _, D6.cl_le (by omega), p3.trans (p4.trans (p5.trans p6)), by omega, hr6, D5.tup K6 _ _ (D4.tup K5 _ _ hb4), fun f => ?_, rfl⟩
            rw [hev6, Bool.and_eq_true, hev5, pre_ev D4.good p5 hr4', pre_ev D3.good p4 hr3, hev3]
            constructor
            · rintro ⟨a1, a2⟩ i hi
              by_cases z : i = n
              · rw [z]; exact a2
              · exact a1 i (by omega)
            · intro a1
              exact ⟨fun i hi => a1 i (by omega), a1 n (by omega)⟩
        · rintro σ H3 ⟨K3, N2, M2, row, y6, y7, D3, p3, hl3, hr3, hb3, hev3, rfl⟩
          have e5 : ((5 : Nat) : Int).toNat = 5 := rfl
          rw [e5] at D3 hl3 hev3
          obtain ⟨dx, h1⟩ := D3.ob
          have hr1' : r < N2.length := Nat.lt_of_lt_of_le hr1 (pre_len p3)
          refine ⟨_, rfl, x, dx, _, rfl, h1, ne, _, rfl, _, rfl, x, nl, pl, ch, N2, M2, us5, _, r, row, rfl, D3, hr1', hr3, by omega, by omega, fun r6 N6 M6 H6 K6 D6 p6 hl6 hr6 hev6 => ?_⟩
          refine ⟨K1.trans (K3.trans K6), N6, M6, r6, _, _, _, _, _, D6.cl_le (by omega), p1.trans (p3.trans p6), by omega, hr6, fun f => ?_, rfl⟩
          rw [hev6, Bool.or_eq_true, pre_ev D1.good p3 hr1, hev, hev3]
          constructor
          · rintro (⟨i, a1, a2, a3⟩ | a1)
            · exact ⟨i, by omega, a2, a3⟩
            · exact ⟨j, by omega, hb, a1⟩
          · rintro ⟨i, a1, a2, a3⟩
            by_cases z : i = j
            · subst z; exact .inr a3
            · exact .inl ⟨i, by omega, a2, a3⟩
      · have hbf : b = false := by cases b with | false => rfl | true => exact absurd rfl c1
        subst hbf
        refine ⟨K1, N1, M1, r, _, _, _, _, _, D1.cl_le (by omega), p1, by omega, hr1, fun f => ?_, rfl⟩
        rw [hev]
        constructor
        · rintro ⟨i, a1, a2, a3⟩
          exact ⟨i, by omega, a2, a3⟩
        · rintro ⟨i, a1, a2, a3⟩
          have : i ≠ j := fun z => by subst z; rw [hb] at a2; cases a2
          exact ⟨i, by omega, a2, a3⟩
    · rintro σ H1 ⟨K1, N1, M1, r, y3, y4, y5, y6, y7, D1, p1, hl1, hr1, hev, rfl⟩
      have e32 : ((32 : Nat) : Int).toNat = 32 := rfl
      rw [e32] at D1 hl1 hev
      refine ⟨_, rfl, q r N1 M1 H1 K1 (D1.cl_le (by omega)) p1 (by omega) hr1 fun i b hb f m => ?_⟩
      have hi := (List.getElem?_eq_some_iff.mp hb).1
      rw [hcs] at hi
      rw [Bool.eq_iff_iff, hev]
      constructor
      · rintro ⟨i2, a1, a2, a3⟩
        obtain rfl := mt_one hi a1 m a3
        rw [hb] at a2
        exact Option.some.inj a2
      · rintro rfl
        exact ⟨i, hi, hb, m⟩
end
end G
namespace G
open PySem PySem.Spec PyProof.Rows L2 Evl TL
theorem pow5 : ∀ {m : Nat}, m < 5 → ([.int 1, .int 2, .int 4, .int 8, .int 16] : List V)[m]? = some (.int ((2 ^ m : Nat) : Int))
  | 0, _ => rfl | 1, _ => rfl | 2, _ => rfl | 3, _ => rfl | 4, _ => rfl
  | n + 5, h => by omega
theorem pow_le16 {k : Nat} (h : k < 5) : 2 ^ k ≤ 16 := Nat.le_trans (Nat.pow_le_pow_right (by decide) (show k ≤ 4 by omega)) (by decide)
section
variable {P : Program} {w : World} {K : PySem.W.Frag} {mg : Str → Option Value} {base : Heap} {C : Addr}
def spMatters : Sp := fun vs H Q _ => ∃ (t : Addr) (cs : List Bool) (k : Nat), vs = [.ref t, .int (k : Nat)] ∧ H t = some (.tup (cs.map V.bl)) ∧ cs.length = 32 ∧ k < 5 ∧ ∀ H', Ex H H' → Q (.bl (decide (matL cs k ≠ []))) H'
theorem sc_law_matters : FnScope ["column", "k", "low", "index"] ["column", "k"] (defScope s_law_matters) := ⟨rfl, rfl, rfl, by decide +kernel, rfl, by decide +kernel, by decide +kernel⟩
theorem ok_law_matters (D : Dfd K mg "_law_matters" s_law_matters ["column", "k"]) (T : TxtS mg) : Has P w K mg base 1 "_law_matters" ["column", "k"] spMatters := by
  refine D.has fun f fd F => F.ok sc_law_matters (fun vs H Q E h => ?_) (fun cdv A outer s H vs Q E hr h => ?_)
  · obtain ⟨t, cs, k, rfl, _⟩ := h
    rfl
  · obtain ⟨t, cs, k, rfl, ht, hcs, hk, q⟩ := h
    refine ⟨_, (pss_cons (ps_set (i := 2) sc_law_matters.nd rfl (.inr rfl) (pe_ix ix_list (pe_lst (pa_cons pe_int (pa_cons pe_int (pa_cons pe_int (pa_cons pe_int (pa_cons pe_int pa_nil)))))) (pv 1) (fun _ _ => rfl)))
    (pss_one (ps_ret (pe_cmpR (op_neD hr.units) (pe_lc (own := [("index", 3)]) (g := gName 3) (tt := _) rfl sc_law_matters.nd (pi_range1 rfl T.range (pa_cons pe_int pa_nil)) (blkOk_by (N := ["column", "k", "low", "index"]) (sc := defScope s_law_matters) (own := [("index", 3)]) (by decide +kernel)) (fun _ _ _ _ _ => (pg_name (i := 3) sc_law_matters.nd rfl (.inl rfl))) (fun _ _ _ _ _ => pts_one (PW.pt (pw_and (pt_cmpR op_eq (pe_op op_mod (pe_callTy call_int1 (by rfl) T.int (by decide +kernel) (pa_cons (pe_op op_fdivW (pv 3) (pv 2)) pa_nil)) pe_int) pe_int (nomark _)) (pw_and1 (pt_cmpR op_ne (pe_ix (kIxT (K := K) rfl) (pv 0) (pv 3) (fun _ _ => rfl)) (pe_ix (kIxT (K := K) rfl) (pv 0) (pe_op op_add (pv 3) (pv 2)) (fun _ _ => rfl)) (nomark _)))))) (fun _ _ _ _ _ => (pv 3))) (pe_lst pa_nil) (nomark _))))), ?_⟩
    have h16 := pow_le16 hk
    have hpos := pow_pos2 k
    refine ⟨(by show 5 ≤ sizeLine; decide), fun l5 n5 => ?_⟩
    have E1 : Ex H (upd H l5 (.lst [.int 1, .int 2, .int 4, .int 8, .int 16])) := Ex.new n5
    have hl5 : upd H l5 (.lst [.int 1, .int 2, .int 4, .int 8, .int 16]) l5 = some (.lst [.int 1, .int 2, .int 4, .int 8, .int 16]) := upd_same
    generalize upd H l5 (.lst [.int 1, .int 2, .int 4, .int 8, .int 16]) = H1 at *
    refine ⟨_, rfl, _, _, _, _, rfl, rfl, SqL.of hl5, at_of (j := k) rfl (pow5 hk), ?_⟩
    have hbl : ∀ {i : Nat}, i < 32 → (cs.map V.bl)[i]? = some (.bl (cs.getD i false)) := fun {i} hi => by
      rw [List.getElem?_map, List.getD_eq_getElem?_getD, List.getElem?_eq_getElem (by omega)]; rfl
    refine ⟨_, rfl, by decide, by decide, fun L nL => wk_it walk_range (fun j H' => Ex H1 H' ∧ H' L = some (.lst (nV ((List.range j).filter (matB cs k))))) ⟨Ex.new nL, upd_same⟩ (fun _ _ _ _ => trivial) ?_ ?_⟩
    · rintro j x H2 H3 hj ⟨E2, hL⟩ ⟨rfl, ez⟩
      have hj : j < 32 := hj
      have ez := ez.trans (show V.int (0 + (j : Int)) = .int (j : Nat) by rw [Int.zero_add])
      subst ez
      have ht2 := (E1.trans E2) _ _ ht
      have step : ∀ c : Bool, matB cs k j = c → (List.range (j + 1)).filter (matB cs k) = if c = true then (List.range j).filter (matB cs k) ++ [j] else (List.range j).filter (matB cs k) := fun c hc => by
        rw [List.range_succ, List.filter_append, List.filter_cons, List.filter_nil, hc]
        cases c <;> simp
      have hflen : ((List.range j).filter (matB cs k)).length ≤ j := by
        have := List.length_filter_le (matB cs k) (List.range j)
        rw [List.length_range] at this; exact this
      have no : matB cs k j = false → Ex H1 H3 ∧ H3 L = some (.lst (nV ((List.range (j + 1)).filter (matB cs k)))) := fun hc => ⟨E2, by rw [step _ hc, if_neg (by decide)]; exact hL⟩
      have ediv : ((j : Int) / ((2 ^ k : Nat) : Int) % 2) = ((j / 2 ^ k % 2 : Nat) : Int) := by omega
      refine ⟨rfl, _, rfl, _, rfl, _, _, rfl, rfl, divW_small hpos (by omega), .inl ⟨_, rfl, _, _, rfl, rfl, (by show (0 : Int) < 2; decide), rfl, _, rfl, ?_⟩⟩
      refine ite2 (fun c1 => ?_) (fun c1 => ?_)
      · have z : j / 2 ^ k % 2 = 0 := by
          have z : ((j : Int) / ((2 ^ k : Nat) : Int) % 2) = 0 := V.int.inj (of_decide_eq_true c1)
          rw [ediv] at z; omega
        have h2 : j + 2 ^ k < 32 := by
          have := fixI_low ⟨j, hj⟩ ⟨k, hk⟩
          obtain ⟨_, q2, q3⟩ := this
          have q2 : fixI j k true = fixI j k false + 2 ^ k := q2
          have q3 := q3 z
          have q3 : fixI j k false = j := q3
          have := (fixI_mt (v := true) hj hk (mt_self j)).1
          omega
        refine ⟨_, rfl, _, rfl, _, _, _, _, rfl, rfl, SqT.of ht2, at_of (j := j) rfl (hbl hj), _, rfl, _, rfl, _, rfl, _, _, rfl, rfl, _, _, _, _, rfl, rfl, SqT.of ht2, at_of (j := j + 2 ^ k) (by show (j : Int) + ((2 ^ k : Nat) : Int) = ((j + 2 ^ k : Nat) : Int); omega) (hbl h2), rfl, _, rfl, ?_⟩
        have em : matB cs k j = (!decide (V.bl (cs.getD j false) = V.bl (cs.getD (j + 2 ^ k) false))) := by
          unfold matB
          rw [decide_eq_true z, Bool.true_and, bl_eq]
          cases cs.getD j false <;> cases cs.getD (j + 2 ^ k) false <;> rfl
        refine ite2 (fun c2 => ?_) (fun c2 => ?_)
        · have em : matB cs k j = true := em.trans c2
          refine ⟨_, rfl, _, hL, sz_lt (by rw [nV_len]; omega), E2.mut nL, ?_⟩
          rw [upd_same, step _ em, if_pos rfl, nV_snoc]
        · exact no (by rw [em]; exact Bool.eq_false_iff.mpr c2)
      · have z : ¬ j / 2 ^ k % 2 = 0 := fun z => c1 (decide_eq_true (by show V.int ((j : Int) / ((2 ^ k : Nat) : Int) % 2) = _; rw [ediv, z]; rfl))
        exact no (by unfold matB; rw [decide_eq_false z]; rfl)
    · rintro H2 ⟨E2, hL⟩
      have e32 : ((32 : Nat) : Int).toNat = 32 := rfl
      have hL : H2 L = some (.lst (nV (matL cs k))) := hL
      refine ⟨Nat.zero_le _, fun o no => ?_⟩
      have hne : L ≠ o := ne_of_none hL no
      refine ⟨_, _, dp_intsL ((upd_ne hne).trans hL), dp_intsL (l := []) upd_same, shaped_ints _, shaped_ints [], ?_⟩
      have ee : (!PyData.eqv (.list (((matL cs k).map fun n : Nat => (n : Int)).map PyData.int)) (.list (([] : List Int).map PyData.int))) = decide (matL cs k ≠ []) := by
        rw [show ([] : List Int).map PyData.int = [] from rfl, eqv_nilI]
        cases matL cs k <;> simp
      rw [ee]
      exact q _ ((E1.trans E2).trans (Ex.new no))
def spFixed : Sp := fun vs H Q _ => ∃ (t : Addr) (cs : List Bool) (k : Nat) (v : Bool), vs = [.ref t, .int (k : Nat), .bl v] ∧ H t = some (.tup (cs.map V.bl)) ∧ cs.length = 32 ∧ k < 5 ∧ ∀ (u : Addr) H', Ex H H' → H' u = some (.tup ((fixedC cs k v).map V.bl)) → Q (.ref u) H'
theorem sc_law_fixed : FnScope ["column", "k", "value", "low", "out", "index", "base"] ["column", "k", "value"] (defScope s_law_fixed) := ⟨rfl, rfl, rfl, by decide +kernel, rfl, by decide +kernel, by decide +kernel⟩
theorem ok_law_fixed (D : Dfd K mg "_law_fixed" s_law_fixed ["column", "k", "value"]) (T : TxtS mg) : Has P w K mg base 1 "_law_fixed" ["column", "k", "value"] spFixed := by
  refine D.has fun f fd F => F.ok sc_law_fixed (fun vs H Q E h => ?_) (fun cdv A outer s H vs Q E hr h => ?_)
  · obtain ⟨t, cs, k, v, rfl, _⟩ := h
    rfl
  · obtain ⟨t, cs, k, v, rfl, ht, hcs, hk, q⟩ := h
    refine ⟨_, (pss_cons (ps_set (i := 3) sc_law_fixed.nd rfl (.inl rfl) (pe_ix ix_list (pe_lst (pa_cons pe_int (pa_cons pe_int (pa_cons pe_int (pa_cons pe_int (pa_cons pe_int pa_nil)))))) (pv 1) (fun _ _ => rfl)))
    (pss_cons (ps_set (i := 4) sc_law_fixed.nd rfl (.inl rfl) (pe_lst pa_nil))
    (pss_cons (ps_for PassesOwn.never rfl (pi_range1 rfl T.range (pa_cons pe_int pa_nil)) (pg_name (i := 5) sc_law_fixed.nd rfl (.inl rfl))
      (pss_cons (ps_set (i := 6) sc_law_fixed.nd rfl (.inl rfl) (pe_op op_sub (pv 5) (pe_op op_mul (pv 3) (pe_op op_mod (pe_callTy call_int1 (by rfl) T.int (by decide +kernel) (pa_cons (pe_op op_fdivW (pv 5) (pv 3)) pa_nil)) pe_int))))
      (pss_one (ps_expr (pe_bm PySem.F.plainAttrs_list PySem.F.slot_list_append PySem.F.type_list_append mt_append (pv 4) (pa_cons (pe_ix ix_tup (pv 0) (pe_op op_add (pv 6) (pe_op op_mul (pv 3) (pe_callTy call_int1 (by rfl) T.int (by decide +kernel) (pa_cons (pv 2) pa_nil)))) (fun _ _ => rfl)) pa_nil))))))
    (pss_one (ps_ret (pe_callTy call_tuple_of (by rfl) T.tuple (by decide +kernel) (pa_cons (pv 4) pa_nil))))))), ?_⟩
    have h16 := pow_le16 hk
    have hpos := pow_pos2 k
    refine ⟨(by show 5 ≤ sizeLine; decide), fun l5 n5 => ?_⟩
    have E1 : Ex H (upd H l5 (.lst [.int 1, .int 2, .int 4, .int 8, .int 16])) := Ex.new n5
    have hl5 : upd H l5 (.lst [.int 1, .int 2, .int 4, .int 8, .int 16]) l5 = some (.lst [.int 1, .int 2, .int 4, .int 8, .int 16]) := upd_same
    generalize upd H l5 (.lst [.int 1, .int 2, .int 4, .int 8, .int 16]) = H1 at *
    refine ⟨_, rfl, _, _, _, _, rfl, rfl, SqL.of hl5, at_of (j := k) rfl (pow5 hk), Nat.zero_le _, fun o no => ?_⟩
    have no0 : H o = none := fresh_back E1 no
    refine ⟨_, rfl, by decide, by decide, for_range (n := ((32 : Nat) : Int).toNat)
      (fun j σ H' => Ex H H' ∧ ∃ (y5 y6 : Option V), H' o = some (.lst (((List.range j).map fun i => cs.getD (fixI i k v) false).map V.bl)) ∧ σ = [some (.ref t), some (.int (k : Nat)), some (.bl v), some (.int ((2 ^ k : Nat) : Int)), some (.ref o), y5, y6])
      ⟨E1.mut no0, _, _, upd_same, rfl⟩ ?_ ?_⟩
    · rintro j σ H2 hj ⟨E2, y5, y6, hL, rfl⟩
      have hj : j < 32 := hj
      rw [Int.zero_add]
      have hdiv : j / 2 ^ k % 2 = 0 ∨ j / 2 ^ k % 2 = 1 := by omega
      have ediv : ((j : Int) / ((2 ^ k : Nat) : Int) % 2) = ((j / 2 ^ k % 2 : Nat) : Int) := by omega
      refine ⟨_, rfl, _, rfl, _, rfl, _, rfl, _, _, rfl, rfl, divW_small hpos (by omega), .inl ⟨_, rfl, _, _, rfl, rfl, (by show (0 : Int) < 2; decide), ?_⟩⟩
      have ht2 := E2 _ _ ht
      obtain ⟨hfx, _⟩ := fixI_mt (v := v) hj hk (mt_self j)
      have hcm : ∀ z : Int, CMul ((2 ^ k : Nat) : Int) z := fun z => .inl ⟨by omega, by omega⟩
      have hle : 2 ^ k * (j / 2 ^ k % 2) ≤ j := by
        rcases hdiv with e | e
        · rw [e]; omega
        · have h1 : j / 2 ^ k ≠ 0 := fun z => by rw [z] at e; cases e
          have h2 : 2 ^ k ≤ j := Nat.le_of_not_lt fun z => h1 (Nat.div_eq_of_lt z)
          rw [e]; omega
      have eix : ((j : Int) - ((2 ^ k : Nat) : Int) * ((j : Int) / ((2 ^ k : Nat) : Int) % 2)) + ((2 ^ k : Nat) : Int) * (if v = true then 1 else 0) = ((fixI j k v : Nat) : Int) := by
        rw [ediv]
        unfold fixI
        cases v
        · rw [if_neg (by decide), show Bool.toNat false = 0 from rfl, Nat.mul_zero, Int.mul_zero, ← Int.natCast_mul]; omega
        · rw [if_pos rfl, show Bool.toNat true = 1 from rfl, Nat.mul_one, Int.mul_one, ← Int.natCast_mul]; omega
      have hbl : (cs.map V.bl)[fixI j k v]? = some (.bl (cs.getD (fixI j k v) false)) := by
        rw [List.getElem?_map, List.getD_eq_getElem?_getD, List.getElem?_eq_getElem (by omega)]; rfl
      refine ⟨_, _, rfl, rfl, hcm _, _, _, rfl, rfl, _, rfl, .inl ⟨rfl, _, SqL.of hL⟩, _, rfl, _, rfl, _, rfl, _, rfl, .inr ⟨_, rfl, _, _, rfl, rfl, hcm _, _, _, rfl, rfl, _, _, _, _, rfl, rfl, SqT.of ht2, at_of (j := fixI j k v) eix hbl, o, _, _, rfl, rfl, hL, sz_lt (by rw [List.length_map, List.length_map, List.length_range]; omega), E2.mut no0, _, _, ?_, rfl⟩⟩
      rw [upd_same, List.range_succ, List.map_append, List.map_append]; rfl
    · rintro σ H2 ⟨E2, y5, y6, hL, rfl⟩
      refine ⟨_, rfl, _, _, rfl, .inl ⟨SqL.of hL, fun u nu => ?_⟩⟩
      exact q u _ (E2.trans (Ex.new nu)) upd_same
theorem lt_irr : ∀ i : Fin 32, ltBs (bitsOf i.val 5) (bitsOf i.val 5) = false := by decide +kernel
theorem lt_trans : ∀ i j k : Fin 32, ltBs (bitsOf i.val 5) (bitsOf j.val 5) = true → ltBs (bitsOf j.val 5) (bitsOf k.val 5) = true → ltBs (bitsOf i.val 5) (bitsOf k.val 5) = true := by decide +kernel
/-- the first true row before j -/
def BestAt (cs : List Bool) (j : Nat) : Option Nat → Prop
  | none => ∀ i, i < j → cs[i]? ≠ some true
  | some b => b < 32 ∧ cs[b]? = some true ∧ ∀ i, i < j → cs[i]? = some true → ltBs (bitsOf i 5) (bitsOf b 5) = false
def spFirst : Sp := fun vs H Q _ => ∃ (t : Addr) (cs : List Bool) (many : Nat), vs = [.ref t, .int (many : Nat)] ∧ H t = some (.tup (cs.map V.bl)) ∧ cs.length = 32 ∧ 5 ≤ many ∧ many ≤ 12 ∧
  (BestAt cs 32 none → ∀ H', Ex H H' → Q .non H') ∧ ∀ (b : Nat) (u : Addr) (H' : Hp), BestAt cs 32 (some b) → Ex H H' → H' u = some (.tup ((bitsOf b 5 ++ List.replicate (many - 5) false).map V.bl)) → Q (.ref u) H'
theorem sc_law_first : FnScope ["column", "many", "best", "index", "bits", "k"] ["column", "many"] (defScope s_law_first) := ⟨rfl, rfl, rfl, by decide +kernel, rfl, by decide +kernel, by decide +kernel⟩
theorem ok_law_first (D : Dfd K mg "_law_first" s_law_first ["column", "many"]) (T : TxtS mg) (C2 : Has P w K mg base 1 "_law_bits" ["index", "many"] spBits) : Has P w K mg base 2 "_law_first" ["column", "many"] spFirst := by
  obtain ⟨f_law_bits, d_law_bits, G_law_bits, g_law_bits, k_law_bits, b_law_bits⟩ := C2
  refine D.has fun f fd F => F.ok sc_law_first (fun vs H Q E h => ?_) (fun cdv A outer s H vs Q E hr h => ?_)
  · obtain ⟨t, cs, many, rfl, _⟩ := h
    rfl
  · obtain ⟨t, cs, many, rfl, ht, hcs, hm5, hm12, q0, q⟩ := h
    refine ⟨_, (pss_cons (ps_set (i := 2) sc_law_first.nd rfl (.inl rfl) pe_non)
    (pss_cons (ps_for PassesOwn.never rfl (pi_range1 rfl T.range (pa_cons pe_int pa_nil)) (pg_name (i := 3) sc_law_first.nd rfl (.inl rfl))
      (pss_cons (ps_set (i := 4) sc_law_first.nd rfl (.inl rfl) (pe_call G_law_bits (hr.mono (by omega)) (by rfl) g_law_bits k_law_bits b_law_bits .nil pass0 (pa_cons (pv 3) (pa_cons pe_int pa_nil))))
      (pss_one (ps_if (PW.pt (pw_and (pt_val (pe_ix ix_tup (pv 0) (pv 3) (fun _ _ => rfl))) (pw_and1 (PW.pt (pw_or (pt_cmpR op_isN (pv 2) pe_non (nomark _)) (pw_or1 (pt_cmpR (op_ltB hr.units0) (pv 4) (pv 2) (nomark _))))))))
        (pss_one (ps_set (i := 2) sc_law_first.nd rfl (.inl rfl) (pv 4)))
        pss_nil))))
    (pss_cons (ps_if (pt_cmpR op_isN (pv 2) pe_non (nomark _))
      (pss_one (ps_ret pe_non))
      pss_nil)
    (pss_one (ps_ret (pe_op op_catA (pv 2) (pe_callTy call_tuple_of (by rfl) T.tuple (by decide +kernel) (pa_cons (pe_lc (own := [("k", 5)]) (g := gName 5) (tt := tYes) rfl sc_law_first.nd (pi_range1 rfl T.range (pa_cons (pe_op op_sub (pv 1) pe_int) pa_nil)) (blkOk_by (N := ["column", "many", "best", "index", "bits", "k"]) (sc := defScope s_law_first) (own := [("k", 5)]) (by decide +kernel)) (fun _ _ _ _ _ => (pg_name (i := 5) sc_law_first.nd rfl (.inl rfl))) (fun _ _ _ _ _ => pts_nil) (fun _ _ _ _ _ => pe_bl)) pa_nil)))))))), ?_⟩
    refine ⟨_, rfl, by decide, by decide, for_range (n := ((32 : Nat) : Int).toNat)
      (fun j σ H' => Ex H H' ∧ ∃ (best : Option Nat) (v : V) (y3 y4 y5 : Option V), BestAt cs j best ∧ (best = none → v = .non) ∧ (∀ b, best = some b → ∃ u, v = .ref u ∧ H' u = some (.tup ((bitsOf b 5).map V.bl))) ∧ σ = [some (.ref t), some (.int (many : Nat)), some v, y3, y4, y5])
      ⟨.refl _, none, _, _, _, _, (fun i h => absurd h (by omega)), (fun _ => rfl), (fun b h => nomatch h), rfl⟩ ?_ ?_⟩
    · rintro j σ H1 hj ⟨E1, best, v, y3, y4, y5, hb, hv0, hv1, rfl⟩
      have hj : j < 32 := hj
      rw [Int.zero_add]
      obtain ⟨b, hcb⟩ : ∃ b, cs[j]? = some b := ⟨_, List.getElem?_eq_getElem (by omega)⟩
      have hbv : (cs.map V.bl)[j]? = some (.bl b) := by rw [List.getElem?_map, hcb]; rfl
      refine ⟨_, rfl, j, 5, rfl, by decide, fun tb H2 nt E2 hbt => ?_⟩
      have E02 := E1.trans E2
      have take : b = true → (∀ c, best = some c → ltBs (bitsOf j 5) (bitsOf c 5) = true) → BestAt cs (j + 1) (some j) := fun eb hlt => by
        subst eb
        refine ⟨hj, hcb, fun i hi hti => ?_⟩
        by_cases z : i = j
        · rw [z]; exact lt_irr ⟨j, hj⟩
        · cases best with
          | none => exact absurd hti (hb i (by omega))
          | some c =>
            obtain ⟨c32, _, hc2⟩ := hb
            have h1 := hc2 i (by omega) hti
            cases e : ltBs (bitsOf i 5) (bitsOf j 5) with
            | false => rfl
            | true =>
              have h3 := lt_trans ⟨i, by omega⟩ ⟨j, hj⟩ ⟨c, c32⟩ e (hlt c rfl)
              have h3 : ltBs (bitsOf i 5) (bitsOf c 5) = true := h3
              rw [h1] at h3; cases h3
      have stay : (b = true → ∃ c, best = some c ∧ ltBs (bitsOf j 5) (bitsOf c 5) = false) → BestAt cs (j + 1) best := fun hs => by
        cases best with
        | none =>
          intro i hi hti
          by_cases z : i = j
          · subst z
            rw [hcb] at hti
            obtain ⟨c, hc, _⟩ := hs (Option.some.inj hti)
            cases hc
          · exact hb i (by omega) hti
        | some c =>
          refine ⟨hb.1, hb.2.1, fun i hi hti => ?_⟩
          by_cases z : i = j
          · subst z
            rw [hcb] at hti
            obtain ⟨c', hc, h⟩ := hs (Option.some.inj hti)
            cases hc
            exact h
          · exact hb.2.2 i (by omega) hti
      refine ⟨_, rfl, _, rfl, _, _, _, _, rfl, rfl, SqT.of (E02 _ _ ht), at_of (j := j) rfl hbv, _, rfl, ite2 (fun c1 => ?_) (fun c1 => ?_)⟩
      · cases best with
        | none =>
          obtain rfl := hv0 rfl
          refine ⟨_, rfl, rfl, _, rfl, iteT ?_⟩
          exact ⟨_, rfl, E02, some j, _, _, _, _, take c1 (fun c h => nomatch h), (fun h => nomatch h), (fun c h => by cases h; exact ⟨tb, rfl, hbt⟩), rfl⟩
        | some c =>
          obtain ⟨u, rfl, hu⟩ := hv1 c rfl
          refine ⟨_, rfl, rfl, _, rfl, iteF ⟨_, rfl, _, rfl, tb, u, bitsOf j 5, bitsOf c 5, rfl, rfl, SqT.of hbt, SqT.of (E2 _ _ hu), _, rfl, ite2 (fun c2 => ?_) (fun c2 => ?_)⟩⟩
          · exact ⟨_, rfl, E02, some j, _, _, _, _, take c1 (fun c' h => by cases h; exact c2), (fun h => nomatch h), (fun c h => by cases h; exact ⟨tb, rfl, hbt⟩), rfl⟩
          · exact ⟨E02, some c, _, _, _, _, stay (fun _ => ⟨c, rfl, Bool.eq_false_iff.mpr c2⟩), (fun h => nomatch h), (fun c' h => by cases h; exact ⟨u, rfl, E2 _ _ hu⟩), rfl⟩
      · exact ⟨E02, best, _, _, _, _, stay (fun h => absurd h c1), hv0, (fun c h => by obtain ⟨u, e1, e2⟩ := hv1 c h; exact ⟨u, e1, E2 _ _ e2⟩), rfl⟩
    · rintro σ H1 ⟨E1, best, v, y3, y4, y5, hb, hv0, hv1, rfl⟩
      cases best with
      | none =>
        obtain rfl := hv0 rfl
        exact ⟨_, rfl, rfl, _, rfl, iteT (q0 hb _ E1)⟩
      | some c =>
        obtain ⟨u, rfl, hu⟩ := hv1 c rfl
        have em : ((many : Nat) : Int) - 5 = ((many - 5 : Nat) : Int) := by omega
        refine ⟨_, rfl, rfl, _, rfl, iteF ⟨_, rfl, _, rfl, _, _, rfl, rfl, _, rfl, by omega, by omega, fun L nL => lcRv (fun _ => .bl false) (by omega) (fun _ => rfl) (fun i H4 _ _ Q q => q) ⟨_, _, rfl, .inl ⟨SqL.of upd_same, fun t2 nt2 => ?_⟩⟩⟩⟩
        dsimp only at nt2 ⊢
        rw [em, Int.toNat_natCast] at nt2 ⊢
        have erep : ((List.range (many - 5)).map fun _ : Nat => V.bl false) = (List.replicate (many - 5) false).map V.bl := by
          rw [List.map_const', List.length_range, List.map_replicate]
        rw [erep] at nt2 ⊢
        have E2 := (Ex.new nL (o := .lst ((List.replicate (many - 5) false).map V.bl))).trans (Ex.new nt2 (o := .tup ((List.replicate (many - 5) false).map V.bl)))
        refine cat_tup (E2 _ _ hu) upd_same (by rw [List.length_map, List.length_map, bitsOf_len, List.length_replicate]; exact Nat.le_of_lt (sz_lt (by omega))) fun w H3 E3 hw => ?_
        exact q c w H3 hb (E1.trans (E2.trans E3)) (by rw [hw, List.map_append])
end
end G
namespace G
open PySem PySem.Spec PyProof.Rows L2 Evl TL
theorem okD_bls5 {n : Nat} {l : List Bool} (h : l.length ≤ 1000) : okD (n + 1) (.tup (l.map D.bl)) := ⟨by rw [List.length_map]; omega, fun d hd => by obtain ⟨_, _, rfl⟩ := List.mem_map.mp hd; cases n <;> trivial⟩
theorem pow8 : ∀ {m : Nat}, m < 8 → ([.int 1, .int 2, .int 4, .int 8, .int 16, .int 32, .int 64, .int 128] : List V)[m]? = some (.int ((2 ^ m : Nat) : Int))
  | 0, _ => rfl | 1, _ => rfl | 2, _ => rfl | 3, _ => rfl | 4, _ => rfl | 5, _ => rfl | 6, _ => rfl | 7, _ => rfl
  | n + 8, h => by omega
/-- two ascending lists with the same members -/
theorem asc_eq {l m : List Nat} (hl : l.Pairwise (· < ·)) (hm : m.Pairwise (· < ·)) (h : ∀ x, x ∈ l ↔ x ∈ m) : l = m := by
  induction l generalizing m with
  | nil =>
    cases m with
    | nil => rfl
    | cons y m => exact absurd ((h y).mpr List.mem_cons_self) (by simp)
  | cons x l ih =>
    cases m with
    | nil => exact absurd ((h x).mp List.mem_cons_self) (by simp)
    | cons y m =>
      obtain ⟨l1, l2⟩ := List.pairwise_cons.mp hl
      obtain ⟨m1, m2⟩ := List.pairwise_cons.mp hm
      have e : x = y := by
        have a1 := (h x).mp List.mem_cons_self
        have a2 := (h y).mpr List.mem_cons_self
        rcases List.mem_cons.mp a1 with e | e
        · exact e
        · rcases List.mem_cons.mp a2 with e2 | e2
          · exact e2.symm
          · have := m1 x e
            have := l1 y e2
            omega
      subst e
      rw [ih l2 m2 fun z => ?_]
      have hz := h z
      rw [List.mem_cons, List.mem_cons] at hz
      constructor
      · intro q
        rcases hz.mp (.inr q) with e | e
        · have := l1 z q; omega
        · exact e
      · intro q
        rcases hz.mpr (.inr q) with e | e
        · have := m1 z q; omega
        · exact e
theorem asc_range (n : Nat) (f : Nat → Bool) : ((List.range n).filter f).Pairwise (· < ·) := by
  refine List.Pairwise.filter _ ?_
  exact List.pairwise_lt_range
theorem us5_lt : ∀ u ∈ us5, u < 5 := by decide
theorem vars5 {N : List Nd} (hV : VarsIn us5 N) {i : Nat} {n : Nd} (h2 : 2 ≤ i) (h : N[i]? = some n) : n.k < 5 := us5_lt _ (hV i n h2 h)
theorem dep5 {N : List Nd} (G0 : GoodN N) (hV : VarsIn us5 N) {a k : Nat} {bl : List Nat} (ha : a < N.length) (B : Below N us5 a bl) (h : ∃ b ∈ bl, (ndA N b).k = k) : k < 5 := by
  obtain ⟨b, hb, rfl⟩ := h
  obtain ⟨b2, b1, _⟩ := B.shut b hb
  exact vars5 hV b2 (nd_at b1)
theorem Px.tup {p a : Addr} {H H' : Hp} (X : Px p a H H') : TupEx H H' := fun b xs z => by
  obtain ⟨_, _, _, _, _, e, _⟩ := X.was
  exact X.at_ (by rw [hid_ne (ne_of z e (by intro y; cases y))]; exact z)
section
variable {P : Program} {w : World} {K : PySem.W.Frag} {mg : Str → Option Value} {base : Heap} {C : Addr}
def spMeas (C : Addr) : Sp := fun vs H Q _ => ∃ (p pa x nl pl ch : Addr) (N : List Nd) (M : Tsk → Option Nat) (cl : Nat) (S : List Addr) (l : Addr) (m : Fn) (a : Nat), vs = [.ref p, .ref x, .ref l, .int (a : Nat)] ∧ PoolOk p pa H ∧ Dg C us5 cl H x nl pl ch N M ∧ (∀ b, (b = x ∨ b = nl ∨ b = pl ∨ b = ch) → b ≠ p) ∧ (pa ≠ nl ∧ pa ≠ pl ∧ pa ≠ ch) ∧ FnAt S H l m ∧ okFn 6 m ∧
  a < N.length ∧ (∀ f, ev N a f = wF m (gF us5 f)) ∧ N.length + 46000 ≤ 9000000 ∧ cl + 46000 ≤ 9000000 ∧
  ∀ (H1 H2 : Hp) (N' : List Nd) (M' : Tsk → Option Nat), Px p pa H H1 → Kp nl pl ch H1 H2 → PoolOk p pa H2 → Dg C us5 (cl + 46000) H2 x nl pl ch N' M' → N <+: N' → N'.length ≤ N.length + 46000 → Q (.bl true) H2
theorem sc_law_measured : FnScope ["pool", "diagrams", "made", "a", "column", "k", "many", "due", "value", "bit"] ["pool", "diagrams", "made", "a"] (defScope s_law_measured) := ⟨rfl, rfl, rfl, by decide +kernel, rfl, by decide +kernel, by decide +kernel⟩
theorem ok_law_measured {f0 f1 f2 f3 : Addr} {d0 d1 d2 d3 : FuncData} (D : Dfd K mg "_law_measured" s_law_measured ["pool", "diagrams", "made", "a"]) (T : TxtS mg) (W : Cl_Diagrams K mg C)
    (M_Diagrams_support : Meth K C "support" f0) (G_Diagrams_support : FnOk P w K mg base CX0 2 f0 d0 ["self", "a"] (spSupport C)) (b_Diagrams_support : Binds K d0 ["self", "a"] [])
    (M_Diagrams_count : Meth K C "count" f1) (G_Diagrams_count : FnOk P w K mg base CX0 2 f1 d1 ["self", "a", "many"] (spCount C)) (b_Diagrams_count : Binds K d1 ["self", "a", "many"] [])
    (M_Diagrams_least : Meth K C "least" f2) (G_Diagrams_least : FnOk P w K mg base CX0 1 f2 d2 ["self", "a", "many"] (spLeast C)) (b_Diagrams_least : Binds K d2 ["self", "a", "many"] [])
    (M_Diagrams_fix : Meth K C "fix" f3) (G_Diagrams_fix : FnOk P w K mg base CX0 2 f3 d3 ["self", "a", "k", "value"] (spFix C)) (b_Diagrams_fix : Binds K d3 ["self", "a", "k", "value"] [])
    (C1 : Has P w K mg base 8 "_law_column" ["made"] (spColumn 6)) (C2 : Has P w K mg base 2 "_law_same" ["actual", "due"] (spSame 2)) (C3 : Has P w K mg base 1 "_law_matters" ["column", "k"] spMatters) (C4 : Has P w K mg base 2 "_law_draw" ["pool", "many"] spDrawX)
    (C5 : Has P w K mg base 2 "_law_first" ["column", "many"] spFirst) (C6 : Has P w K mg base 4 "_law_of_column" ["diagrams", "column"] (spOfCol C)) (C7 : Has P w K mg base 1 "_law_fixed" ["column", "k", "value"] spFixed) : Has P w K mg base 9 "_law_measured" ["pool", "diagrams", "made", "a"] (spMeas C) := by
  have c_Diagrams := W.cl
  obtain ⟨f_law_column, d_law_column, G_law_column, g_law_column, k_law_column, b_law_column⟩ := C1
  obtain ⟨f_law_same, d_law_same, G_law_same, g_law_same, k_law_same, b_law_same⟩ := C2
  obtain ⟨f_law_matters, d_law_matters, G_law_matters, g_law_matters, k_law_matters, b_law_matters⟩ := C3
  obtain ⟨f_law_draw, d_law_draw, G_law_draw, g_law_draw, k_law_draw, b_law_draw⟩ := C4
  obtain ⟨f_law_first, d_law_first, G_law_first, g_law_first, k_law_first, b_law_first⟩ := C5
  obtain ⟨f_law_of_column, d_law_of_column, G_law_of_column, g_law_of_column, k_law_of_column, b_law_of_column⟩ := C6
  obtain ⟨f_law_fixed, d_law_fixed, G_law_fixed, g_law_fixed, k_law_fixed, b_law_fixed⟩ := C7
  refine D.has fun f fd F => F.ok sc_law_measured (fun vs H Q E h => ?_) (fun cdv A outer s H vs Q E hr h => ?_)
  · obtain ⟨p, pa, x, nl, pl, ch, N, M, cl, S, l, m, a, rfl, _⟩ := h
    rfl
  · obtain ⟨p, pa, x, nl, pl, ch, N, M, cl, S, l, m, a, rfl, hp, D, px1, ann, hF, hok, ha, hev, hb1, hb2, q⟩ := h
    refine ⟨_, (pss_cons (ps_set (i := 4) sc_law_measured.nd rfl (.inr rfl) (pe_call G_law_column (hr.mono (by omega)) (by rfl) g_law_column k_law_column b_law_column .nil pass0 (pa_cons (pv 2) pa_nil)))
    (pss_cons (ps_if (pt_not (pt_val (pe_call G_law_same (hr.mono (by omega)) (by rfl) g_law_same k_law_same b_law_same .nil pass0 (pa_cons (pe_meth (pv 1) c_Diagrams M_Diagrams_support G_Diagrams_support (hr.mono (by omega)) b_Diagrams_support .nil pass0 (pa_cons (pv 3) pa_nil)) (pa_cons (pe_lc (own := [("k", 5)]) (g := gName 5) (tt := _) rfl sc_law_measured.nd (pi_range1 rfl T.range (pa_cons pe_int pa_nil)) (blkOk_by (N := ["pool", "diagrams", "made", "a", "column", "k", "many", "due", "value", "bit"]) (sc := defScope s_law_measured) (own := [("k", 5)]) (by decide +kernel)) (fun _ _ _ _ _ => (pg_name (i := 5) sc_law_measured.nd rfl (.inl rfl))) (fun _ _ _ _ _ => pts_one (pt_val (pe_call G_law_matters (hr.mono (by omega)) (by rfl) g_law_matters k_law_matters b_law_matters .nil pass0 (pa_cons (pv 4) (pa_cons (pv 5) pa_nil))))) (fun _ _ _ _ _ => (pv 5))) pa_nil)))))
      (pss_one (ps_ret pe_bl))
      pss_nil)
    (pss_cons (ps_set (i := 6) sc_law_measured.nd rfl (.inl rfl) (pe_op op_add pe_int (pe_call G_law_draw (hr.mono (by omega)) (by rfl) g_law_draw k_law_draw b_law_draw .nil pass0 (pa_cons (pv 0) (pa_cons pe_int pa_nil)))))
    (pss_cons (ps_set (i := 7) sc_law_measured.nd rfl (.inl rfl) (pe_op op_mul (pe_callB call_len_seq (by rfl) T.len (by decide +kernel) (pa_cons (pe_lc (own := [("bit", 9)]) (g := gName 9) (tt := _) rfl sc_law_measured.nd (pi_tup (pv 4)) (blkOk_by (N := ["pool", "diagrams", "made", "a", "column", "k", "many", "due", "value", "bit"]) (sc := defScope s_law_measured) (own := [("bit", 9)]) (by decide +kernel)) (fun _ _ _ _ _ => (pg_name (i := 9) sc_law_measured.nd rfl (.inl rfl))) (fun _ _ _ _ _ => pts_one (pt_val (pv 9))) (fun _ _ _ _ _ => (pv 9))) pa_nil)) (pe_ix ix_list (pe_lst (pa_cons pe_int (pa_cons pe_int (pa_cons pe_int (pa_cons pe_int (pa_cons pe_int (pa_cons pe_int (pa_cons pe_int (pa_cons pe_int pa_nil))))))))) (pe_op op_sub (pv 6) pe_int) (fun _ _ => rfl))))
    (pss_cut (ps_if (PW.pt (pw_or (pt_not (pt_val (pe_call G_law_same (hr.mono (by omega)) (by rfl) g_law_same k_law_same b_law_same .nil pass0 (pa_cons (pe_meth (pv 1) c_Diagrams M_Diagrams_count G_Diagrams_count (hr.mono (by omega)) b_Diagrams_count .nil pass0 (pa_cons (pv 3) (pa_cons (pv 6) pa_nil))) (pa_cons (pv 7) pa_nil))))) (pw_or1 (pt_not (pt_val (pe_call G_law_same (hr.mono (by omega)) (by rfl) g_law_same k_law_same b_law_same .nil pass0 (pa_cons (pe_meth (pv 1) c_Diagrams M_Diagrams_least G_Diagrams_least (hr.mono (by omega)) b_Diagrams_least .nil pass0 (pa_cons (pv 3) (pa_cons (pv 6) pa_nil))) (pa_cons (pe_call G_law_first (hr.mono (by omega)) (by rfl) g_law_first k_law_first b_law_first .nil pass0 (pa_cons (pv 4) (pa_cons (pv 6) pa_nil))) pa_nil))))))))
      (pss_one (ps_ret pe_bl))
      pss_nil)
    (pss_cons (ps_set (i := 5) sc_law_measured.nd rfl (.inl rfl) (pe_call G_law_draw (hr.mono (by omega)) (by rfl) g_law_draw k_law_draw b_law_draw .nil pass0 (pa_cons (pv 0) (pa_cons pe_int pa_nil))))
    (pss_cons (ps_set (i := 8) sc_law_measured.nd rfl (.inl rfl) (pe_cmpR op_eq (pe_call G_law_draw (hr.mono (by omega)) (by rfl) g_law_draw k_law_draw b_law_draw .nil pass0 (pa_cons (pv 0) (pa_cons pe_int pa_nil))) pe_int (nomark _)))
    (pss_one (ps_ret (pe_and (pe_cmpR op_eq (pe_meth (pv 1) c_Diagrams M_Diagrams_fix G_Diagrams_fix (hr.mono (by omega)) b_Diagrams_fix .nil pass0 (pa_cons (pv 3) (pa_cons (pv 5) (pa_cons (pv 8) pa_nil)))) (pe_call G_law_of_column (hr.mono (by omega)) (by rfl) g_law_of_column k_law_of_column b_law_of_column .nil pass0 (pa_cons (pv 1) (pa_cons (pe_call G_law_fixed (hr.mono (by omega)) (by rfl) g_law_fixed k_law_fixed b_law_fixed .nil pass0 (pa_cons (pv 4) (pa_cons (pv 5) (pa_cons (pv 8) pa_nil)))) pa_nil))) (nomark _)) (pe_one (pe_cmpR op_eq (pe_meth (pv 1) c_Diagrams M_Diagrams_fix G_Diagrams_fix (hr.mono (by omega)) b_Diagrams_fix .nil pass0 (pa_cons (pv 3) (pa_cons pe_int (pa_cons (pv 8) pa_nil)))) (pv 3) (nomark _))))))))))))), ?_⟩
    have no : ∀ {a : Str}, ¬ a = "_chosen" → ¬ a = "_places" → ¬ a = "_nodes" → (dfl nl pl ch).lookup a = none := fun h1 h2 h3 => dfl_no _ _ _ h1 h2 h3
    have ns := no (a := "support") (by decide +kernel) (by decide +kernel) (by decide +kernel)
    have nc := no (a := "count") (by decide +kernel) (by decide +kernel) (by decide +kernel)
    have nle := no (a := "least") (by decide +kernel) (by decide +kernel) (by decide +kernel)
    have nf := no (a := "fix") (by decide +kernel) (by decide +kernel) (by decide +kernel)
    have G0 := D.good
    have hV := D.vars
    have hcol : IsCol N a (colF m) := col_is hok hev
    have hcl := col_len m
    obtain ⟨dx, h1⟩ := D.ob
    refine ⟨_, rfl, S, l, m, rfl, hF, hok, fun t H1 E1 ht1 => ?_⟩
    generalize colF m = cs at *
    have D1 := D.ex E1
    refine ⟨_, rfl, x, dx, _, rfl, E1 _ _ h1, ns, _, rfl, x, nl, pl, ch, N, M, us5, cl, a, rfl, D1, ha, by decide, by decide, fun kp ks bl H2 E2 nkp hkp hup hB hks => ?_⟩
    have E02 := E1.trans E2
    refine ⟨_, rfl, by decide, by decide, fun L nL => wk_it walk_range (fun j H' => Ex H2 H' ∧ H' L = some (.lst (nV ((List.range j).filter fun k => decide (matL cs k ≠ []))))) ⟨Ex.new nL, upd_same⟩ (fun _ _ _ _ => trivial) ?_ ?_⟩
    · rintro j y H3 H4 hj ⟨E3, hL⟩ ⟨rfl, ez⟩
      have hj : j < 5 := hj
      have ez := ez.trans (show V.int (0 + (j : Int)) = .int (j : Nat) by rw [Int.zero_add])
      subst ez
      have hflen : ((List.range j).filter fun k => decide (matL cs k ≠ [])).length ≤ j := by
        have := List.length_filter_le (fun k => decide (matL cs k ≠ [])) (List.range j)
        rw [List.length_range] at this; exact this
      refine ⟨rfl, _, rfl, _, rfl, t, cs, j, rfl, (E2.trans E3) _ _ ht1, hcl, hj, fun H5 E5 => ⟨_, rfl, ite2 (fun c1 => ?_) (fun c1 => ?_)⟩⟩
      · refine ⟨_, rfl, _, E5 _ _ hL, sz_lt (by rw [nV_len]; omega), (E3.trans E5).mut nL, ?_⟩
        rw [upd_same, List.range_succ, List.filter_append, List.filter_cons, List.filter_nil, if_pos c1, nV_snoc]
      · refine ⟨E3.trans E5, ?_⟩
        rw [List.range_succ, List.filter_append, List.filter_cons, List.filter_nil, if_neg c1, List.append_nil]
        exact E5 _ _ hL
    · rintro H3 ⟨E3, hL⟩
      have hL : H3 L = some (.lst (nV ((List.range 5).filter fun k => decide (matL cs k ≠ [])))) := hL
      have eks : ks = (List.range 5).filter fun k => decide (matL cs k ≠ []) := asc_eq hup (asc_range 5 _) fun k => by
        rw [hks k, List.mem_filter, List.mem_range, decide_eq_true_iff]
        constructor
        · intro z
          have h5 := dep5 G0 hV ha hB z
          exact ⟨h5, (mat_dep hcol hcl h5).mpr ((below_dep G0 ha hB).mp z)⟩
        · rintro ⟨h5, z⟩
          exact (below_dep G0 ha hB).mpr ((mat_dep hcol hcl h5).mp z)
      have hl5 : ((List.range 5).filter fun k => decide (matL cs k ≠ [])).length ≤ 5 := by
        have := List.length_filter_le (fun k => decide (matL cs k ≠ [])) (List.range 5)
        rw [List.length_range] at this; exact this
      refine ⟨_, _, .lst ((((List.range 5).filter fun k => decide (matL cs k ≠ [])).map fun n : Nat => (n : Int)).map G.D.int), rfl, rep_ints (eks ▸ E3 _ _ hkp), rep_ints hL, okD_ints (by rw [List.length_map]; omega), _, rfl, iteF ?_⟩
      have E03 := E02.trans E3
      refine ⟨_, rfl, p, pa, 8, rfl, by decide, by decide, hp.kept E03, fun d H4 hd X4 _ => ⟨_, _, rfl, rfl, ?_⟩⟩
      have hd : d < 8 := by omega
      have X04 : Px p pa H H4 := (Px.ofEx hp E03).trans X4
      have ht4 := X4.tup _ _ ((E2.trans E3) _ _ ht1)
      have D4 := D.px X04 px1
      refine ⟨_, rfl, t, rfl, ⟨_, SqT.of ht4⟩, fun L2 nL2 => wk_tup (K := K) (a := t) (xs := cs.map V.bl) (fun j H' => Ex H4 H' ∧ H' L2 = some (.lst (((cs.take j).filter id).map V.bl))) ⟨Ex.new nL2, upd_same⟩ (fun j H' _ g => SqT.of (g.1 _ _ ht4)) ?_ ?_⟩
      · rintro j y H5 hy ⟨E5, hL5⟩
        rw [List.getElem?_map] at hy
        obtain ⟨b, hb, rfl⟩ := Option.map_eq_some_iff.mp hy
        have hj : j < cs.length := (List.getElem?_eq_some_iff.mp hb).1
        have hfl : ((cs.take j).filter id).length ≤ j := by
          have := List.length_filter_le id (cs.take j)
          rw [List.length_take] at this; omega
        refine ⟨rfl, _, rfl, _, rfl, ite2 (fun c1 => ?_) (fun c1 => ?_)⟩
        · refine ⟨_, rfl, _, hL5, sz_lt (by rw [List.length_map]; omega), E5.mut nL2, ?_⟩
          have c1 : b = true := c1
          subst c1
          rw [upd_same, take_snoc1 hb, List.filter_append, List.map_append]; rfl
        · have c1 : b = false := Bool.eq_false_iff.mpr c1
          subst c1
          refine ⟨E5, ?_⟩
          rw [take_snoc1 hb, List.filter_append, show [false].filter id = [] from rfl, List.append_nil]
          exact hL5
      rintro H5 ⟨E5, hL5⟩
      rw [List.length_map, List.take_length] at hL5
      refine ⟨L2, _, rfl, .inl (SqL.of hL5), (by show 8 ≤ sizeLine; decide), fun l8 n8 => ?_⟩
      have E6 : Ex H5 (upd H5 l8 (.lst [.int 1, .int 2, .int 4, .int 8, .int 16, .int 32, .int 64, .int 128])) := Ex.new n8
      have hl8 : upd H5 l8 (.lst [.int 1, .int 2, .int 4, .int 8, .int 16, .int 32, .int 64, .int 128]) l8 = some (.lst [.int 1, .int 2, .int 4, .int 8, .int 16, .int 32, .int 64, .int 128]) := upd_same
      generalize upd H5 l8 (.lst [.int 1, .int 2, .int 4, .int 8, .int 16, .int 32, .int 64, .int 128]) = H6 at *
      have h2d : 2 ^ d ≤ 128 := Nat.le_trans (Nat.pow_le_pow_right (by decide) (show d ≤ 7 by omega)) (by decide)
      refine ⟨_, rfl, _, _, rfl, rfl, _, _, _, _, rfl, rfl, SqL.of hl8, at_of (j := d) (by show (5 : Int) + (d : Nat) - 5 = (d : Nat); omega) (pow8 hd), _, _, rfl, rfl, .inr ⟨Int.lt_of_lt_of_le (by decide) (Int.natCast_nonneg (2 ^ d)), Int.lt_of_le_of_lt (Int.ofNat_le.mpr h2d) (by decide)⟩, ?_⟩
      have E46 := E5.trans E6
      have D6 := D4.ex E46
      obtain ⟨dx6, h16⟩ := D6.ob
      have um : ∀ u ∈ us5, u < 5 + d := fun u hu => by have := us5_lt u hu; omega
      have hdue : cn N (5 + d) a * 2 ^ levN N (5 + d) a = (cs.filter id).length * 2 ^ d := by
        rw [cn_all G0 (fun i n h2 hn => by have := vars5 hV h2 hn; omega) ha (fun _ => false), col_sum G0 hcol hcl ha]
      have hcnt : (((cs.filter id).map V.bl).length : Int) * ((2 ^ d : Nat) : Int) = ((cn N (5 + d) a * 2 ^ levN N (5 + d) a : Nat) : Int) := by
        rw [hdue, List.length_map, Int.natCast_mul]
      refine ⟨fun σ H' => Ex H6 H' ∧ σ = [some (.ref p), some (.ref x), some (.ref l), some (.int (a : Nat)), some (.ref t), none, some (.int ((5 + d : Nat) : Int)), some (.int ((((cs.filter id).map V.bl).length : Int) * ((2 ^ d : Nat) : Int))), none, none], ?_, ?_⟩
      · refine ⟨_, rfl, x, dx6, _, rfl, h16, nc, _, rfl, _, rfl, x, nl, pl, ch, N, M, us5, cl, a, 5 + d, rfl, D6, ha, by decide, by decide, by omega, um, fun H7 E7 => ⟨_, rfl, _, _, .int _, rfl, .int _, hcnt ▸ .int _, trivial, _, rfl, iteF ?_⟩⟩
        have ht7 := E7 _ _ (E46 _ _ ht4)
        refine ⟨_, rfl, x, dx6, _, rfl, E7 _ _ h16, nle, _, rfl, _, rfl, x, nl, pl, ch, N, M, us5, cl, a, 5 + d, rfl, D6.ex E7, ha, by omega, um, fun a0 => ?_, fun lp out H8 a0 E8 nlp hlp hol hR => ?_⟩
        · have hno := (zero_col G0 hcol hcl ha).mp a0
          refine ⟨_, rfl, _, rfl, t, cs, 5 + d, rfl, ht7, hcl, by omega, by omega, fun _ H9 E9 => ?_, fun b u H9 hb E9 hu => ?_⟩
          · exact ⟨_, _, .non, rfl, .non, .non, trivial, _, rfl, iteF ⟨E7.trans E9, rfl⟩⟩
          · exact absurd (List.mem_of_getElem? hb.2.1) hno
        · refine ⟨_, rfl, _, rfl, t, cs, 5 + d, rfl, E8 _ _ ht7, hcl, by omega, by omega, fun hb H9 E9 => ?_, fun b u H9 hb E9 hu => ?_⟩
          · refine absurd ((zero_col G0 hcol hcl ha).mpr fun z => ?_) a0
            obtain ⟨i, hi, hz⟩ := List.getElem_of_mem z
            exact hb i (by omega) (by rw [List.getElem?_eq_getElem hi, hz])
          · have eo := least_first G0 hV hcol hcl ha (by omega) hol hR hb.1 hb.2.1 hb.2.2
            refine ⟨_, _, .tup (out.map G.D.bl), rfl, rep_bls (E9 _ _ hlp), rep_bls (eo ▸ hu), okD_bls5 (by omega), _, rfl, iteF ⟨E7.trans (E8.trans E9), rfl⟩⟩
      rintro σ H7 ⟨E7, rfl⟩
      have X07 : Px p pa H H7 := (X04.more E46).more E7
      refine ⟨_, rfl, p, pa, 5, rfl, by decide, by decide, X07.pool, fun k H8 hk X8 _ => ?_⟩
      refine ⟨_, rfl, p, pa, 2, rfl, by decide, by decide, X8.pool, fun v0 H9 _ X9 _ => ⟨rfl, ?_⟩⟩
      have hk : k < 5 := by omega
      generalize decide (V.int ((v0 : Nat) : Int) = V.int 1) = v at *
      have X09 := X07.trans (X8.trans X9)
      have D9 := D.px X09 px1
      have ht9 := (X8.trans X9).tup _ _ (E7 _ _ (E46 _ _ ht4))
      obtain ⟨dx9, h19⟩ := D9.ob
      refine ⟨_, rfl, x, dx9, _, rfl, h19, nf, _, rfl, _, rfl, _, rfl, x, nl, pl, ch, N, M, us5, cl, a, k, v, rfl, D9, ha, by decide, by decide, by omega, fun r N2 Ha Ka Da p2 hl2 hr2 hev2 => ?_⟩
      have hta := D9.tup Ka _ _ ht9
      refine ⟨_, rfl, _, rfl, _, rfl, _, rfl, t, cs, k, v, rfl, hta, hcl, hk, fun u Hb Eb hu => ?_⟩
      refine ⟨x, nl, pl, ch, N2, M, cl, u, fixedC cs k v, rfl, Da.ex Eb, hu, fixed_len _ _ _, by omega, by omega, fun r2 N3 M3 Hc Kc Dc p3 hl3 hr3 hc3 => ?_⟩
      have e1 : r = r2 := IsCol.one Dc.good (fixed_len _ _ _) ((fixed_col hcol hcl hk hev2).more Da.good p3 hr2) hc3 (Nat.lt_of_lt_of_le hr2 (pre_len p3)) hr3
      subst e1
      obtain ⟨dxc, h1c⟩ := Dc.ob
      have ha3 : a < N3.length := Nat.lt_of_lt_of_le ha (pre_len (p2.trans p3))
      refine ⟨rfl, _, rfl, iteY (by rw [decide_eq_true_iff]) ?_⟩
      refine ⟨_, rfl, x, dxc, _, rfl, h1c, nf, _, rfl, _, rfl, x, nl, pl, ch, N3, M3, us5, _, a, 77, v, rfl, Dc, ha3, by decide, by decide, by omega, fun r4 N4 Hd Kd Dd p4 hl4 hr4 hev4 => ⟨_, rfl, rfl, ?_⟩⟩
      have hcol3 := hcol.more G0 (p2.trans p3) ha
      have e4 : r4 = a := canon' Dd.good hr4 (Nat.lt_of_lt_of_le ha3 (pre_len p4)) fun f => by
        rw [hev4, pre_ev Dc.good p4 ha3]
        exact hcol3.indep hcl _ _ fun j hj => by unfold setF; rw [if_neg (by omega)]
      subst e4
      rw [decide_eq_true rfl]
      have K : Kp nl pl ch H9 Hd := Ka.trans ((Kp.of Eb).trans (Kc.trans Kd))
      exact q H9 Hd N4 M3 X09 K (X09.pool.kp K ⟨(px1 nl (.inr (.inl rfl))).symm, (px1 pl (.inr (.inr (.inl rfl)))).symm, (px1 ch (.inr (.inr (.inr rfl)))).symm⟩ ann) (Dd.cl_le (by omega)) (p2.trans (p3.trans p4)) (by omega)
end
end G
namespace G
open PySem PySem.Spec PyProof.Rows L2 Evl TL
theorem Fr.sub {S S' : List Addr} {H H' : Hp} (f : Fr S H H') (h : ∀ b ∈ S, b ∈ S') : Fr S' H H' := fun b o hb n => f b o hb fun z => n (h b z)
theorem Fr.refl {S : List Addr} {H : Hp} : Fr S H H := fun _ _ h _ => h
theorem nV_at {l : List Nat} {i r : Nat} (h : l[i]? = some r) : (nV l)[i]? = some (.int (r : Nat)) := by
  unfold nV; rw [List.getElem?_map, List.getElem?_map, h]; rfl
theorem Dg.fresh {C : Addr} {vs : List Nat} {cl : Nat} {H : Hp} {x nl pl ch : Addr} {N : List Nd} {M : Tsk → Option Nat} (D : Dg C vs cl H x nl pl ch N M) {b : Addr} (nb : H b = none) : b ≠ x ∧ b ≠ nl ∧ b ≠ pl ∧ b ≠ ch := by
  obtain ⟨dx', h1⟩ := D.ob
  obtain ⟨na, h2, _⟩ := D.nodes
  obtain ⟨es, h4, _⟩ := D.fpl
  obtain ⟨cs, h7, _⟩ := D.fch
  exact ⟨(ne_of_none h1 nb).symm, (ne_of_none h2 nb).symm, (ne_of_none h4 nb).symm, (ne_of_none h7 nb).symm⟩
theorem getD_range {g : Nat → Bool} {i : Nat} (h : i < 32) : ((List.range 32).map g).getD i false = g i := by
  rw [List.getD_eq_getElem?_getD, List.getElem?_map, List.getElem?_range h]; rfl
theorem cut_four (l : List Nat) : cutV (nV l) none (some 4) = nV (l.take 4) := by
  unfold cutV
  rw [HT.sIx_none]
  have e : HT.sIx (nV l).length (nV l).length (some 4) = min 4 l.length := by
    show (if (4 : Int) < 0 then ((4 : Int) + ((nV l).length : Int)).toNat else min (4 : Int).toNat (nV l).length) = _
    rw [if_neg (by decide), nV_len]; rfl
  rw [e, Nat.sub_zero, List.drop_zero]
  unfold nV
  rw [← List.map_take, ← List.map_take]
  congr 2
  by_cases h : 4 ≤ l.length
  · rw [Nat.min_eq_left h]
  · rw [Nat.min_eq_right (by omega), List.take_length, List.take_of_length_le (by omega)]
theorem pow4 : ∀ {m : Nat}, m < 4 → ([.int 1, .int 2, .int 4, .int 8] : List V)[m]? = some (.int ((2 ^ m : Nat) : Int))
  | 0, _ => rfl | 1, _ => rfl | 2, _ => rfl | 3, _ => rfl
  | n + 4, h => by omega
section
variable {P : Program} {w : World} {K : PySem.W.Frag} {mg : Str → Option Value} {base : Heap} {C : Addr}
def spFuncA : Sp := fun vs H Q E => ∃ d, d ≤ 4 ∧ spFunc (d + 1) vs H Q E
theorem fn_law_functionA {f : Addr} {fd : FuncData} (h : ∀ n, FnOk P w K mg base CX0 (n + 2) f fd ["pool", "depth"] (spFunc n)) : FnOk P w K mg base CX0 7 f fd ["pool", "depth"] spFuncA :=
  ⟨fun vs H Q E z => by obtain ⟨d, _, z⟩ := z; exact (h (d + 1)).len vs H Q E z, fun A outer s H args us vs Q E hr he hb hv z => by
    obtain ⟨d, hd, z⟩ := z
    exact ((h (d + 1)).mono (show d + 1 + 2 ≤ 7 by omega)).run A outer s H args us vs Q E hr he hb hv z⟩
def spLaw (K : PySem.W.Frag) : Sp := fun vs H Q _ => ∃ (a : Addr) (ns : List Int), vs = [.ref a] ∧ SqL K H a (ns.map V.int) ∧ ns.length ≤ 63 ∧ ∀ H', Q (.bl true) H'
theorem sc_law : FnScope ["script", "pool", "diagrams", "k", "functions", "found", "places", "columns", "index", "every", "some", "table", "due", "at", "made", "place", "column"] ["script"] (defScope s_law) := ⟨rfl, rfl, rfl, by decide +kernel, rfl, by decide +kernel, by decide +kernel⟩
theorem fn_law {f0 f1 f2 f3 : Addr} {d0 d1 d2 d3 : FuncData} {f : Addr} {fd : FuncData} (F : Fun K "law" "law" s_law f fd) (T : TxtS mg) (W : Cl_Diagrams K mg C)
    (C1 : Has P w K mg base 1 "_law_pool" ["script"] (spPool K)) (C2 : Has P w K mg base 2 "_law_draw" ["pool", "many"] spDrawX) (C3 : Has P w K mg base 7 "_law_function" ["pool", "depth"] spFuncA) (C4 : Has P w K mg base 10 "_law_refer" ["diagrams", "made", "gaps"] (spRefer C 7))
    (C5 : Has P w K mg base 8 "_law_column" ["made"] (spColumn 6)) (C6 : Has P w K mg base 9 "_law_measured" ["pool", "diagrams", "made", "a"] (spMeas C)) (C7 : Has P w K mg base 4 "_law_of_column" ["diagrams", "column"] (spOfCol C)) (C8 : Has P w K mg base 3 "_law_table" ["pool", "many"] spTable)
    (Mk_Diagrams : Mk K C f0) (G_Diagrams_init : FnOk P w K mg base CX0 1 f0 d0 ["self"] (spDInit C)) (b_Diagrams_init : Binds K d0 ["self"] [])
    (M_Diagrams_all_of : Meth K C "all_of" f1) (G_Diagrams_all_of : FnOk P w K mg base CX0 4 f1 d1 ["self", "references"] (spJoin C Bool.and true)) (b_Diagrams_all_of : Binds K d1 ["self", "references"] [])
    (M_Diagrams_any_of : Meth K C "any_of" f2) (G_Diagrams_any_of : FnOk P w K mg base CX0 4 f2 d2 ["self", "references"] (spJoin C Bool.or false)) (b_Diagrams_any_of : Binds K d2 ["self", "references"] [])
    (M_Diagrams_applied : Meth K C "applied" f3) (G_Diagrams_applied : FnOk P w K mg base CX0 3 f3 d3 ["self", "table", "references"] (spApplied C)) (b_Diagrams_applied : Binds K d3 ["self", "table", "references"] []) : FnOk P w K mg base CX0 11 f fd ["script"] (spLaw K) := by
  obtain ⟨f_law_pool, d_law_pool, G_law_pool, g_law_pool, k_law_pool, b_law_pool⟩ := C1
  obtain ⟨f_law_draw, d_law_draw, G_law_draw, g_law_draw, k_law_draw, b_law_draw⟩ := C2
  obtain ⟨f_law_function, d_law_function, G_law_function, g_law_function, k_law_function, b_law_function⟩ := C3
  obtain ⟨f_law_refer, d_law_refer, G_law_refer, g_law_refer, k_law_refer, b_law_refer⟩ := C4
  obtain ⟨f_law_column, d_law_column, G_law_column, g_law_column, k_law_column, b_law_column⟩ := C5
  obtain ⟨f_law_measured, d_law_measured, G_law_measured, g_law_measured, k_law_measured, b_law_measured⟩ := C6
  obtain ⟨f_law_of_column, d_law_of_column, G_law_of_column, g_law_of_column, k_law_of_column, b_law_of_column⟩ := C7
  obtain ⟨f_law_table, d_law_table, G_law_table, g_law_table, k_law_table, b_law_table⟩ := C8
  have c_Diagrams := W.cl
  have g_Diagrams := W.gC
  refine F.ok sc_law (fun vs H Q E h => ?_) (fun cdv A outer s H vs Q E hr h => ?_)
  · obtain ⟨a, ns, rfl, _⟩ := h
    rfl
  · obtain ⟨sa, ns, rfl, hs, hn, q⟩ := h
    refine ⟨_, (pss_cons (ps_set (i := 1) sc_law.nd rfl (.inr rfl) (pe_call G_law_pool (hr.mono (by omega)) (by rfl) g_law_pool k_law_pool b_law_pool .nil pass0 (pa_cons (pv 0) pa_nil)))
    (pss_cons (ps_set (i := 2) sc_law.nd rfl (.inr rfl) (pe_make0 Mk_Diagrams G_Diagrams_init (hr.mono (by omega)) (by rfl) g_Diagrams b_Diagrams_init .nil pass0))
    (pss_cons (ps_set (i := 4) sc_law.nd rfl (.inr rfl) (pe_lc (own := [("k", 3)]) (g := gName 3) (tt := tYes) rfl sc_law.nd (pi_range1 rfl T.range (pa_cons (pe_op op_add pe_int (pe_call G_law_draw (hr.mono (by omega)) (by rfl) g_law_draw k_law_draw b_law_draw .nil pass0 (pa_cons (pv 1) (pa_cons pe_int pa_nil)))) pa_nil)) (blkOk_by (N := ["script", "pool", "diagrams", "k", "functions", "found", "places", "columns", "index", "every", "some", "table", "due", "at", "made", "place", "column"]) (sc := defScope s_law) (own := [("k", 3)]) (by decide +kernel)) (fun _ _ _ _ _ => (pg_name (i := 3) sc_law.nd rfl (.inl rfl))) (fun _ _ _ _ _ => pts_nil) (fun _ _ _ _ _ => (pe_call G_law_function (hr.mono (by omega)) (by rfl) g_law_function k_law_function b_law_function .nil pass0 (pa_cons (pv 1) (pa_cons (pe_call G_law_draw (hr.mono (by omega)) (by rfl) g_law_draw k_law_draw b_law_draw .nil pass0 (pa_cons (pv 1) (pa_cons pe_int pa_nil))) pa_nil))))))
    (pss_cons (ps_set (i := 5) sc_law.nd rfl (.inr rfl) (pe_lc (own := [("made", 14)]) (g := gName 14) (tt := tYes) rfl sc_law.nd (pi_list (pv 4)) (blkOk_by (N := ["script", "pool", "diagrams", "k", "functions", "found", "places", "columns", "index", "every", "some", "table", "due", "at", "made", "place", "column"]) (sc := defScope s_law) (own := [("made", 14)]) (by decide +kernel)) (fun _ _ _ _ _ => (pg_name (i := 14) sc_law.nd rfl (.inl rfl))) (fun _ _ _ _ _ => pts_nil) (fun _ _ _ _ _ => (pe_call G_law_refer (hr.mono (by omega)) (by rfl) g_law_refer k_law_refer b_law_refer .nil pass0 (pa_cons (pv 2) (pa_cons (pv 14) (pa_cons (pe_lst (pa_cons pe_int (pa_cons pe_int (pa_cons pe_int (pa_cons pe_int (pa_cons pe_int pa_nil)))))) pa_nil)))))))
    (pss_cons (ps_for PassesOwn.never rfl (pi_range1 rfl T.range (pa_cons (pe_callB call_len_seq (by rfl) T.len (by decide +kernel) (pa_cons (pv 5) pa_nil)) pa_nil)) (pg_name (i := 3) sc_law.nd rfl (.inl rfl))
      (pss_one (ps_if (pt_not (pt_val (pe_call G_law_measured (hr.mono (by omega)) (by rfl) g_law_measured k_law_measured b_law_measured .nil pass0 (pa_cons (pv 1) (pa_cons (pv 2) (pa_cons (pe_ix ix_list (pv 4) (pv 3) (fun _ _ => rfl)) (pa_cons (pe_ix ix_list (pv 5) (pv 3) (fun _ _ => rfl)) pa_nil)))))))
        (pss_one (ps_ret pe_bl))
        pss_nil)))
    (pss_cons (ps_setLc (i := 6) (own := [("k", 3)]) (g := gName 3) (tt := tYes) rfl sc_law.nd rfl rfl (sw_true rfl rfl rfl (by decide +kernel)) (pi_range1 rfl T.range (pa_cons (pe_call G_law_draw (hr.mono (by omega)) (by rfl) g_law_draw k_law_draw b_law_draw .nil pass0 (pa_cons (pv 1) (pa_cons pe_int pa_nil))) pa_nil)) (blkOk_by (N := ["script", "pool", "diagrams", "k", "functions", "found", "places", "columns", "index", "every", "some", "table", "due", "at", "made", "place", "column"]) (sc := defScope s_law) (own := [("k", 3)]) (by decide +kernel)) (fun _ _ _ _ _ => (pg_name (i := 3) sc_law.nd rfl (.inl rfl))) (fun _ _ _ _ _ => pts_nil) (fun _ _ _ _ _ => (pe_call G_law_draw (hr.mono (by omega)) (by rfl) g_law_draw k_law_draw b_law_draw .nil pass0 (pa_cons (pv 1) (pa_cons (pe_callB (kLen (K := K) rfl) (by rfl) T.len (by decide +kernel) (pa_cons (pv 5) pa_nil)) pa_nil)))))
    (pss_cons (ps_set (i := 7) sc_law.nd rfl (.inr rfl) (pe_lc (own := [("place", 15)]) (g := gName 15) (tt := tYes) rfl sc_law.nd (pi_list (pv 6)) (blkOk_by (N := ["script", "pool", "diagrams", "k", "functions", "found", "places", "columns", "index", "every", "some", "table", "due", "at", "made", "place", "column"]) (sc := defScope s_law) (own := [("place", 15)]) (by decide +kernel)) (fun _ _ _ _ _ => (pg_name (i := 15) sc_law.nd rfl (.inl rfl))) (fun _ _ _ _ _ => pts_nil) (fun _ _ _ _ _ => (pe_call G_law_column (hr.mono (by omega)) (by rfl) g_law_column k_law_column b_law_column .nil pass0 (pa_cons (pe_ix (kIxL (K := K) rfl) (pv 4) (pv 15) (fun _ _ => rfl)) pa_nil)))))
    (pss_cons (ps_set (i := 9) sc_law.nd rfl (.inl rfl) (pe_callTy call_tuple_of (by rfl) T.tuple (by decide +kernel) (pa_cons (pe_lc (own := [("index", 8)]) (g := gName 8) (tt := tYes) rfl sc_law.nd (pi_range1 rfl T.range (pa_cons pe_int pa_nil)) (blkOk_by (N := ["script", "pool", "diagrams", "k", "functions", "found", "places", "columns", "index", "every", "some", "table", "due", "at", "made", "place", "column"]) (sc := defScope s_law) (own := [("index", 8)]) (by decide +kernel)) (fun _ _ _ _ _ => (pg_name (i := 8) sc_law.nd rfl (.inr rfl))) (fun _ _ _ _ _ => pts_nil) (fun _ _ _ _ _ => (pe_cmpR op_eq (kBm (K := K) rfl PySem.F.plainAttrs_list PySem.F.slot_list_count PySem.F.type_list_count (kMtCount (K := K) rfl) (pe_lc (own := [("column", 16)]) (g := gName 16) (tt := tYes) rfl sc_law.nd (kPiL (K := K) rfl (pv 7)) (blkOk_by (own := [("column", 16)]) (by kernel_rfl)) (fun _ _ _ _ _ => (pg_name (i := 16) sc_law.nd rfl (.inl rfl))) (fun _ _ _ _ _ => pts_nil) (fun _ _ _ _ _ => (pe_ix (kIxT (K := K) rfl) (pv 16) (pv 8) (fun _ _ => rfl)))) (pa_cons pe_bl pa_nil)) pe_int (nomark _)))) pa_nil)))
    (pss_cons (ps_set (i := 10) sc_law.nd rfl (.inl rfl) (pe_callTy call_tuple_of (by rfl) T.tuple (by decide +kernel) (pa_cons (pe_lc (own := [("index", 8)]) (g := gName 8) (tt := tYes) rfl sc_law.nd (pi_range1 rfl T.range (pa_cons pe_int pa_nil)) (blkOk_by (N := ["script", "pool", "diagrams", "k", "functions", "found", "places", "columns", "index", "every", "some", "table", "due", "at", "made", "place", "column"]) (sc := defScope s_law) (own := [("index", 8)]) (by decide +kernel)) (fun _ _ _ _ _ => (pg_name (i := 8) sc_law.nd rfl (.inr rfl))) (fun _ _ _ _ _ => pts_nil) (fun _ _ _ _ _ => (pe_cmpR op_gt (kBm (K := K) rfl PySem.F.plainAttrs_list PySem.F.slot_list_count PySem.F.type_list_count (kMtCount (K := K) rfl) (pe_lc (own := [("column", 16)]) (g := gName 16) (tt := tYes) rfl sc_law.nd (kPiL (K := K) rfl (pv 7)) (blkOk_by (own := [("column", 16)]) (by kernel_rfl)) (fun _ _ _ _ _ => (pg_name (i := 16) sc_law.nd rfl (.inl rfl))) (fun _ _ _ _ _ => pts_nil) (fun _ _ _ _ _ => (pe_ix (kIxT (K := K) rfl) (pv 16) (pv 8) (fun _ _ => rfl)))) (pa_cons pe_bl pa_nil)) pe_int (nomark _)))) pa_nil)))
    (pss_cons (ps_if (pt_cmpR op_ne (pe_meth (pv 2) c_Diagrams M_Diagrams_all_of G_Diagrams_all_of (hr.mono (by omega)) b_Diagrams_all_of .nil pass0 (pa_cons (pe_lc (own := [("place", 15)]) (g := gName 15) (tt := tYes) rfl sc_law.nd (pi_list (pv 6)) (blkOk_by (N := ["script", "pool", "diagrams", "k", "functions", "found", "places", "columns", "index", "every", "some", "table", "due", "at", "made", "place", "column"]) (sc := defScope s_law) (own := [("place", 15)]) (by decide +kernel)) (fun _ _ _ _ _ => (pg_name (i := 15) sc_law.nd rfl (.inl rfl))) (fun _ _ _ _ _ => pts_nil) (fun _ _ _ _ _ => (pe_ix (kIxL (K := K) rfl) (pv 5) (pv 15) (fun _ _ => rfl)))) pa_nil)) (pe_call G_law_of_column (hr.mono (by omega)) (by rfl) g_law_of_column k_law_of_column b_law_of_column .nil pass0 (pa_cons (pv 2) (pa_cons (pv 9) pa_nil))) (nomark _))
      (pss_one (ps_ret pe_bl))
      pss_nil)
    (pss_cons (ps_if (pt_cmpR op_ne (pe_meth (pv 2) c_Diagrams M_Diagrams_any_of G_Diagrams_any_of (hr.mono (by omega)) b_Diagrams_any_of .nil pass0 (pa_cons (pe_lc (own := [("place", 15)]) (g := gName 15) (tt := tYes) rfl sc_law.nd (pi_list (pv 6)) (blkOk_by (N := ["script", "pool", "diagrams", "k", "functions", "found", "places", "columns", "index", "every", "some", "table", "due", "at", "made", "place", "column"]) (sc := defScope s_law) (own := [("place", 15)]) (by decide +kernel)) (fun _ _ _ _ _ => (pg_name (i := 15) sc_law.nd rfl (.inl rfl))) (fun _ _ _ _ _ => pts_nil) (fun _ _ _ _ _ => (pe_ix (kIxL (K := K) rfl) (pv 5) (pv 15) (fun _ _ => rfl)))) pa_nil)) (pe_call G_law_of_column (hr.mono (by omega)) (by rfl) g_law_of_column k_law_of_column b_law_of_column .nil pass0 (pa_cons (pv 2) (pa_cons (pv 10) pa_nil))) (nomark _))
      (pss_one (ps_ret pe_bl))
      pss_nil)
    (pss_cons (ps_set (i := 6) sc_law.nd rfl (.inl rfl) (pe_slice sl_list (pv 6) po_none (po_some pe_int)))
    (pss_cons (ps_set (i := 11) sc_law.nd rfl (.inl rfl) (pe_call G_law_table (hr.mono (by omega)) (by rfl) g_law_table k_law_table b_law_table .nil pass0 (pa_cons (pv 1) (pa_cons (pe_callB call_len_seq (by rfl) T.len (by decide +kernel) (pa_cons (pv 6) pa_nil)) pa_nil))))
    (pss_cons (ps_set (i := 12) sc_law.nd rfl (.inl rfl) (pe_lst pa_nil))
    (pss_cons (ps_for PassesOwn.never rfl (pi_range1 rfl T.range (pa_cons pe_int pa_nil)) (pg_name (i := 8) sc_law.nd rfl (.inl rfl))
      (pss_cons (ps_set (i := 13) sc_law.nd rfl (.inl rfl) pe_int)
      (pss_cons (ps_for PassesOwn.never rfl (pi_range1 rfl T.range (pa_cons (pe_callB call_len_seq (by rfl) T.len (by decide +kernel) (pa_cons (pv 6) pa_nil)) pa_nil)) (pg_name (i := 3) sc_law.nd rfl (.inl rfl))
        (pss_one (ps_set (i := 13) sc_law.nd rfl (.inl rfl) (pe_op op_add (pv 13) (pe_op op_mul (pe_ix ix_list (pe_lst (pa_cons pe_int (pa_cons pe_int (pa_cons pe_int (pa_cons pe_int pa_nil))))) (pv 3) (fun _ _ => rfl)) (pe_callTy call_int1 (by rfl) T.int (by decide +kernel) (pa_cons (pe_ix ix_tup (pe_ix ix_list (pv 7) (pv 3) (fun _ _ => rfl)) (pv 8) (fun _ _ => rfl)) pa_nil)))))))
      (pss_one (ps_expr (pe_bm PySem.F.plainAttrs_list PySem.F.slot_list_append PySem.F.type_list_append mt_append (pv 12) (pa_cons (pe_ix ix_tup (pv 11) (pv 13) (fun _ _ => rfl)) pa_nil)))))))
    (pss_one (ps_ret (pe_cmpR op_eq (pe_meth (pv 2) c_Diagrams M_Diagrams_applied G_Diagrams_applied (hr.mono (by omega)) b_Diagrams_applied .nil pass0 (pa_cons (pv 11) (pa_cons (pe_lc (own := [("place", 15)]) (g := gName 15) (tt := tYes) rfl sc_law.nd (pi_list (pv 6)) (blkOk_by (N := ["script", "pool", "diagrams", "k", "functions", "found", "places", "columns", "index", "every", "some", "table", "due", "at", "made", "place", "column"]) (sc := defScope s_law) (own := [("place", 15)]) (by decide +kernel)) (fun _ _ _ _ _ => (pg_name (i := 15) sc_law.nd rfl (.inl rfl))) (fun _ _ _ _ _ => pts_nil) (fun _ _ _ _ _ => (pe_ix (kIxL (K := K) rfl) (pv 5) (pv 15) (fun _ _ => rfl)))) pa_nil))) (pe_call G_law_of_column (hr.mono (by omega)) (by rfl) g_law_of_column k_law_of_column b_law_of_column .nil pass0 (pa_cons (pv 2) (pa_cons (pe_callTy call_tuple_of (by rfl) T.tuple (by decide +kernel) (pa_cons (pv 12) pa_nil)) pa_nil))) (nomark _))))))))))))))))))), ?_⟩
    refine ⟨_, rfl, sa, ns, rfl, hs, by omega, fun p a H0 hp _ _ => ?_⟩
    -- the diagrams
    refine fun x dx nx nd ndx => ⟨x, dx, rfl, upd_same, fun nl pl ch H1 nnl npl nch B hD => ⟨rfl, ?_⟩⟩
    have E1 : Ex H0 H1 := ExB.made nx nd B
    have fnl := bmade_free nnl
    have fpl := bmade_free npl
    have fch := bmade_free nch
    have hp1 := hp.kept E1
    have px1 : ∀ b, (b = x ∨ b = nl ∨ b = pl ∨ b = ch) → b ≠ p := fun b hb => by
      rcases hb with e | e | e | e <;> rw [e]
      · exact hp.ne nx
      · exact hp.ne fnl
      · exact hp.ne fpl
      · exact hp.ne fch
    have pnn : p ≠ nl ∧ p ≠ pl ∧ p ≠ ch := ⟨(px1 nl (.inr (.inl rfl))).symm, (px1 pl (.inr (.inr (.inl rfl)))).symm, (px1 ch (.inr (.inr (.inr rfl)))).symm⟩
    have ann : a ≠ nl ∧ a ≠ pl ∧ a ≠ ch := ⟨hp.ne2 fnl, hp.ne2 fpl, hp.ne2 fch⟩
    have D3 : Dg C us5 0 H1 x nl pl ch N0 fun _ => none := hD us5
    -- functions
    refine ⟨_, rfl, p, a, 4, rfl, by decide, by decide, hp1, fun v H4 hv X4 _ => ⟨_, _, rfl, rfl, _, rfl, by omega, by omega, fun L nL => ?_⟩⟩
    have D4 := D3.px X4 px1
    have X5 : Px p a H4 (upd H4 L (.lst [])) := (Px.refl X4.pool).new nL
    have al : ∀ {H' : Hp}, Px p a H4 H' → H' L ≠ none → Alive [L, p, nl, pl, ch] H' := fun {H'} X hL b hb => by
      have D' := D4.px X px1
      obtain ⟨na, h2, _⟩ := D'.nodes
      obtain ⟨es, h4, _⟩ := D'.fpl
      obtain ⟨cs, h7, _⟩ := D'.fch
      obtain ⟨_, _, _, _, _, e, _⟩ := X.pool
      simp only [List.mem_cons, List.not_mem_nil, or_false] at hb
      rcases hb with z | z | z | z | z <;> rw [z]
      · exact hL
      · rw [e]; exact fun y => nomatch y
      · rw [h2]; exact fun y => nomatch y
      · rw [h4]; exact fun y => nomatch y
      · rw [h7]; exact fun y => nomatch y
    have pL : L ≠ p := X4.pool.ne nL
    refine lc_range (lo := 0) (n := ((1 : Int) + (v : Int)).toNat) (fun j H' => Px p a H4 H' ∧ ∃ (ls : List Addr) (ms : List Fn), H' L = some (.lst (ls.map V.ref)) ∧ All2 (FnAt [L, p, nl, pl, ch] H') ls ms ∧ ls.length = j ∧ ∀ m ∈ ms, okFn 4 m) ⟨X5, [], [], upd_same, .nil, rfl, (fun _ h => nomatch h)⟩ ?_ ?_
    · rintro j H6 hj ⟨X6, ls, ms, hL6, hA6, hlj, hms⟩
      refine ⟨rfl, tYes_in ?_⟩
      simp only [wipe, _root_.L2.start, List.map_cons, List.map_nil, List.length_cons, List.length_nil, Nat.reduceAdd, Nat.reduceSub, List.replicate_succ, List.replicate_zero, List.cons_append, List.nil_append, List.set_cons_zero, List.set_cons_succ]
      refine ⟨_, rfl, _, rfl, p, a, 4, rfl, by decide, by decide, X6.pool, fun dd H7 hdd X7 _ => ?_⟩
      have X47 := X6.trans X7
      have hL7 : H7 L = some (.lst (ls.map V.ref)) := X7.at_ (by rw [hid_ne pL]; exact hL6)
      refine ⟨dd, by omega, p, a, [L, p, nl, pl, ch], rfl, X7.pool, by simp, al X47 (by rw [hL7]; exact fun y => nomatch y), fun l m H8 X8 hF8 ho8 => ?_⟩
      have hL8 : H8 L = some (.lst (ls.map V.ref)) := X8.at_ (by rw [hid_ne pL]; exact hL7)
      have F68 : Fr [L, p, nl, pl, ch] H6 H8 := (Fr.px (by simp) X7).trans (Fr.px (by simp) X8)
      have F9 : Fr [L, p, nl, pl, ch] H8 (upd H8 L (.lst (ls.map V.ref ++ [.ref l]))) := fun b o h n => by rw [upd_ne fun z => n (by rw [z]; simp)]; exact h
      refine ⟨_, hL8, sz_lt (by rw [List.length_map]; omega), (X47.trans X8).mut nL, ls ++ [l], ms ++ [m], by rw [upd_same, List.map_append]; rfl, (hA6.imp fun _ _ z => (z.fr F68).fr F9).snoc (hF8.fr F9), by rw [List.length_append, hlj]; rfl, fun m' hm' => ?_⟩
      rcases List.mem_append.mp hm' with z | z
      · exact hms m' z
      · rw [List.mem_singleton.mp z]; exact ho8.mono (by omega)
    rintro H6 ⟨X6, fa, fs, hFL, hA6, hlj, hms⟩
    have hlen : fa.length = 1 + v := by omega
    have hfl : fa.length = fs.length := hA6.1
    have D6 := D4.px X6 px1
    have al6 := al X6 (by rw [hFL]; exact fun y => nomatch y)
    have SS : nl ∈ [L, p, nl, pl, ch] ∧ pl ∈ [L, p, nl, pl, ch] ∧ ch ∈ [L, p, nl, pl, ch] := ⟨by simp, by simp, by simp⟩
    have hok : ∀ m ∈ fs, okFn 6 m := fun m hm => (hms m hm).mono (by decide)
    have hcB : ∀ m ∈ fs, cst m ≤ 5081 := fun m hm => cst_le (hms m hm)
    have ne6 : ∀ {b : Addr}, H6 b = none → b ≠ x ∧ b ≠ nl ∧ b ≠ pl ∧ b ≠ ch := fun {b} nb => by
      obtain ⟨dx', h1⟩ := D6.ob
      obtain ⟨na, h2, _⟩ := D6.nodes
      obtain ⟨es, h4, _⟩ := D6.fpl
      obtain ⟨cs, h7, _⟩ := D6.fch
      exact ⟨(ne_of_none h1 nb).symm, (ne_of_none h2 nb).symm, (ne_of_none h4 nb).symm, (ne_of_none h7 nb).symm⟩
    have f0 : L ∉ [p, nl, pl, ch] := fun z => by
      obtain ⟨na, h2, _⟩ := D4.nodes
      obtain ⟨es, h4, _⟩ := D4.fpl
      obtain ⟨cs, h7, _⟩ := D4.fch
      simp only [List.mem_cons, List.not_mem_nil, or_false] at z
      rcases z with e | e | e | e
      · exact pL e
      · rw [e, h2] at nL; cases nL
      · rw [e, h4] at nL; cases nL
      · rw [e, h7] at nL; cases nL
    obtain ⟨f1, f2, f3⟩ : L ≠ nl ∧ L ≠ pl ∧ L ≠ ch := ⟨fun z => f0 (by rw [z]; simp), fun z => f0 (by rw [z]; simp), fun z => f0 (by rw [z]; simp)⟩
    have hN2 : N0.length = 2 := rfl
    -- found
    refine ⟨_, rfl, L, rfl, ⟨_, SqL.of hFL⟩, fun L2 nL2 => wk_list (K := K) (a := L) (xs := fa.map V.ref)
      (fun j H' => Kp nl pl ch H6 H' ∧ ∃ (N : List Nd) (M : Tsk → Option Nat) (rs : List Nat), Dg C us5 (j * 5081) H' x nl pl ch N M ∧ N.length ≤ 2 + j * 5081 ∧ H' L2 = some (.lst (nV rs)) ∧ rs.length = j ∧ ∀ i r m, rs[i]? = some r → fs[i]? = some m → r < N.length ∧ ∀ f, ev N r f = wF m (gF us5 f))
      ⟨.of (Ex.new nL2), N0, _, [], (D6.ex (Ex.new nL2)).cl_le (Nat.zero_le _), (by rw [hN2]; omega), upd_same, rfl, (fun i r k z => by rw [List.getElem?_nil] at z; cases z)⟩ (fun j H' _ z => SqL.of (z.1 _ _ hFL f1 f2 f3)) ?_ ?_⟩
    · rintro j y H13 hy ⟨K13, N, M, rs, D13, hNl, hL2, hrl, hrs⟩
      obtain ⟨b, hb, rfl⟩ := refs_get hy
      obtain ⟨m, hm, hFm⟩ := hA6.at_ hb
      have hj : j < 4 := by have := (List.getElem?_eq_some_iff.mp hb).1; omega
      have hmm := List.mem_of_getElem? hm
      have hc := hcB m hmm
      obtain ⟨Ln0, Ln1, Ln2, Ln3⟩ := ne6 nL2
      refine ⟨rfl, tYes_in ?_⟩
      simp only [wipe, _root_.L2.start, List.map_cons, List.map_nil, List.length_cons, List.length_nil, Nat.reduceAdd, Nat.reduceSub, List.replicate_succ, List.replicate_zero, List.cons_append, List.nil_append, List.set_cons_zero, List.set_cons_succ]
      refine ⟨_, rfl, _, rfl, (by show 5 ≤ sizeLine; decide), fun g ng => ?_⟩
      have E14 : Ex H13 (upd H13 g (.lst [.int 0, .int 1, .int 2, .int 3, .int 4])) := Ex.new ng
      have hg14 : upd H13 g (.lst [.int 0, .int 1, .int 2, .int 3, .int 4]) g = some (.lst (nV us5)) := upd_same
      have hL2g : upd H13 g (.lst [.int 0, .int 1, .int 2, .int 3, .int 4]) L2 = some (.lst (nV rs)) := E14 _ _ hL2
      generalize upd H13 g (.lst [.int 0, .int 1, .int 2, .int 3, .int 4]) = H14 at *
      have gS : g ∉ [L, p, nl, pl, ch] := fun z => by
        have := al6 g z
        cases e : H6 g with
        | none => exact this e
        | some o =>
          obtain ⟨na, h2, _⟩ := D13.nodes
          obtain ⟨es, h4, _⟩ := D13.fpl
          obtain ⟨cs, h7, _⟩ := D13.fch
          by_cases e1 : g = nl
          · rw [e1, h2] at ng; cases ng
          by_cases e2 : g = pl
          · rw [e2, h4] at ng; cases ng
          by_cases e3 : g = ch
          · rw [e3, h7] at ng; cases ng
          rw [K13 _ _ e e1 e2 e3] at ng; cases ng
      refine ⟨x, nl, pl, ch, N, M, us5, _, [L, p, nl, pl, ch], b, g, m, rfl, D13.ex E14, hFm.fr ((Fr.kp SS.1 SS.2.1 SS.2.2 K13).trans (.of E14)), hok m hmm, SS.1, SS.2.1, SS.2.2, gS, hg14, rfl, by omega, by omega, fun r N' M' H15 K15 D15 p15 hl15 hr15 hev15 => ?_⟩
      have hL3 := K15 _ _ hL2g Ln1 Ln2 Ln3
      have T16 : TupEx H15 (upd H15 L2 (.lst (nV rs ++ [.int (r : Nat)]))) := .put hL3 fun _ z => nomatch z
      refine ⟨_, hL3, sz_lt (by rw [nV_len]; omega), (K13.trans ((Kp.of E14).trans K15)).mut nL2, N', M', rs ++ [r], (D15.keep (fun b o hb h => ?_) T16).cl_le (by omega), by omega, by rw [upd_same, nV_snoc], by rw [List.length_append, hrl]; rfl, fun i r' k' hi hk' => ?_⟩
      · rw [upd_ne fun z => by subst z; rcases hb with e | e | e | e; exact Ln0 e; exact Ln1 e; exact Ln2 e; exact Ln3 e]; exact h
      · by_cases z : i < rs.length
        · rw [List.getElem?_append_left z] at hi
          obtain ⟨a1, a2⟩ := hrs i r' k' hi hk'
          exact ⟨Nat.lt_of_lt_of_le a1 (pre_len p15), fun f => by rw [pre_ev D13.good p15 a1]; exact a2 f⟩
        · have := (List.getElem?_eq_some_iff.mp hi).1
          rw [List.length_append] at this
          have : i < rs.length + 1 := this
          obtain rfl : i = rs.length := by omega
          rw [List.getElem?_append_right (Nat.le_refl _), Nat.sub_self] at hi
          cases hi
          rw [hrl, hm] at hk'
          cases hk'
          exact ⟨hr15, hev15⟩
    rintro H13 ⟨K13, N, M, rs, D13, hNl, hL2, hrl, hrs⟩
    rw [List.length_map] at D13 hNl hrl
    obtain ⟨Ln0, Ln1, Ln2, Ln3⟩ := ne6 nL2
    have hFL13 := K13 _ _ hFL f1 f2 f3
    have hA13 := hA6.imp fun _ _ z => z.fr (Fr.kp SS.1 SS.2.1 SS.2.2 K13)
    have hp13 := X6.pool.kp K13 pnn ann
    have L2p : L2 ≠ p := X6.pool.ne nL2
    have L2S : L2 ∉ [p, nl, pl, ch] := fun z => by
      simp only [List.mem_cons, List.not_mem_nil, or_false] at z
      rcases z with e | e | e | e
      · exact L2p e
      · exact Ln1 e
      · exact Ln2 e
      · exact Ln3 e
    have hNB : N.length ≤ 20400 := by omega
    have D13 := D13.cl_le (show fa.length * 5081 ≤ 20400 by omega)
    have hrl2 : rs.length = fs.length := by rw [hrl, hfl]
    clear hNl
    -- measured
    refine ⟨_, rfl, _, _, rfl, .inl (SqL.of hL2), _, rfl, by omega, by rw [nV_len]; omega, for_range (n := (((nV rs).length : Nat) : Int).toNat)
      (fun k σ H' => Fr [p, nl, pl, ch] H13 H' ∧ PoolOk p a H' ∧ ∃ (N' : List Nd) (M' : Tsk → Option Nat) (y3 : Option V), Dg C us5 (20400 + k * 46000) H' x nl pl ch N' M' ∧ N <+: N' ∧ N'.length ≤ 20400 + k * 46000 ∧ σ = [some (.ref sa), some (.ref p), some (.ref x), y3, some (.ref L), some (.ref L2), none, none, none, none, none, none, none, none, none, none, none])
      ⟨.refl, hp13, N, M, _, D13.cl_le (by omega), List.prefix_refl _, by omega, rfl⟩ ?_ ?_⟩
    · rintro k σ H14 hk ⟨F14, hp14, N', M', y3, D14, p14, hN14, rfl⟩
      rw [Int.toNat_natCast, nV_len] at hk
      rw [Int.zero_add]
      obtain ⟨r, hr⟩ : ∃ r, rs[k]? = some r := ⟨_, List.getElem?_eq_getElem hk⟩
      obtain ⟨m, hm⟩ : ∃ m, fs[k]? = some m := ⟨_, List.getElem?_eq_getElem (by omega)⟩
      obtain ⟨b, hb, hFb⟩ := hA13.of hm
      obtain ⟨hrN, hrev⟩ := hrs k r m hr hm
      have hbv : (fa.map V.ref)[k]? = some (.ref b) := by rw [List.getElem?_map, hb]; rfl
      have hrv : (nV rs)[k]? = some (.int (r : Nat)) := nV_at hr
      have hFL14 := F14 _ _ hFL13 f0
      have hL214 := F14 _ _ hL2 L2S
      have F14' : Fr [L, p, nl, pl, ch] H13 H14 := F14.sub (fun b hb => List.mem_cons_of_mem _ hb)
      refine ⟨_, rfl, _, rfl, _, rfl, _, rfl, _, _, _, _, rfl, rfl, SqL.of hFL14, at_of (j := k) rfl hbv, _, rfl, _, rfl, _, _, _, _, rfl, rfl, SqL.of hL214, at_of (j := k) rfl hrv, p, a, x, nl, pl, ch, N', M', _, [L, p, nl, pl, ch], b, m, r, rfl, hp14, D14, px1, ann, hFb.fr F14', hok m (List.mem_of_getElem? hm), Nat.lt_of_lt_of_le hrN (pre_len p14), fun f => by rw [pre_ev D13.good p14 hrN, hrev], by omega, by omega, fun Hx H15 N3 M3 X15 K15 hp15 D15 p15 hl15 => ⟨_, rfl, iteF ?_⟩⟩
      exact ⟨F14.trans ((Fr.px (by simp) X15).trans (Fr.kp (by simp) (by simp) (by simp) K15)), hp15, N3, M3, _, D15.cl_le (by omega), p14.trans p15, by omega, rfl⟩
    rintro σ H14 ⟨F14, hp14, N1, M1, y3, D14, p14, hN14, rfl⟩
    rw [Int.toNat_natCast, nV_len] at D14 hN14
    have hN14 : N1.length ≤ 210000 := by omega
    have D14 := D14.cl_le (show 20400 + rs.length * 46000 ≤ 210000 by omega)
    have hcols : ∀ i r m, rs[i]? = some r → fs[i]? = some m → r < N1.length ∧ IsCol N1 r (colF m) := fun i r m h1 h2 => by
      obtain ⟨z1, z2⟩ := hrs i r m h1 h2
      exact ⟨Nat.lt_of_lt_of_le z1 (pre_len p14), (col_is (hok m (List.mem_of_getElem? h2)) z2).more D13.good p14 z1⟩
    -- places
    refine ⟨_, rfl, p, a, 6, rfl, by decide, by decide, hp14, fun q6 H15 hq6 X15 _ => ⟨_, rfl, by omega, by omega, fun L6 nL6 => ?_⟩⟩
    have D15 := D14.px X15 px1
    have F15 := F14.trans (Fr.px (S := [p, nl, pl, ch]) (by simp) X15)
    have L6p : L6 ≠ p := X15.pool.ne nL6
    have X6' : Px p a H15 (upd H15 L6 (.lst [])) := (Px.refl X15.pool).new nL6
    have hL215 := F15 _ _ hL2 L2S
    refine lc_range (lo := 0) (n := ((q6 : Nat) : Int).toNat) (fun j H' => Px p a H15 H' ∧ ∃ ps : List Nat, H' L6 = some (.lst (nV ps)) ∧ ps.length = j ∧ ∀ i ∈ ps, i < rs.length) ⟨X6', [], upd_same, rfl, (fun _ h => nomatch h)⟩ ?_ ?_
    · rintro j H16 hj ⟨X16, ps, hL6, hpl, hps⟩
      rw [Int.toNat_natCast] at hj
      refine ⟨rfl, tYes_in ?_⟩
      simp only [wipe, _root_.L2.start, List.map_cons, List.map_nil, List.length_cons, List.length_nil, Nat.reduceAdd, Nat.reduceSub, List.replicate_succ, List.replicate_zero, List.cons_append, List.nil_append, List.set_cons_zero, List.set_cons_succ]
      have hL216 := X16.at_ (by rw [hid_ne L2p]; exact hL215)
      refine ⟨_, rfl, _, rfl, _, _, rfl, .inl (SqL.of hL216), p, a, _, rfl, by rw [nV_len]; omega, by rw [nV_len]; omega, X16.pool, fun u H17 hu X17 _ => ?_⟩
      have hL67 : H17 L6 = some (.lst (nV ps)) := X17.at_ (by rw [hid_ne L6p]; exact hL6)
      refine ⟨_, hL67, sz_lt (by rw [nV_len]; omega), (X16.trans X17).mut nL6, ps ++ [u], by rw [upd_same, nV_snoc], by rw [List.length_append, hpl]; rfl, fun i hi => ?_⟩
      rcases List.mem_append.mp hi with z | z
      · exact hps i z
      · rw [List.mem_singleton.mp z]; rw [nV_len] at hu; omega
    rintro H16 ⟨X16, ps, hL6, hpl, hps⟩
    rw [Int.toNat_natCast] at hpl
    have hp5 : ps.length ≤ 5 := by omega
    have F16 := F15.trans (Fr.px (S := [p, nl, pl, ch]) (by simp) X16)
    have D16 := D15.px X16 px1
    have hFL16 := F16 _ _ hFL13 f0
    have hL216 := F16 _ _ hL2 L2S
    have F16' : Fr [L, p, nl, pl, ch] H13 H16 := F16.sub (fun b hb => List.mem_cons_of_mem _ hb)
    have hA16 := hA13.imp fun _ _ z => z.fr F16'
    have fsat : ∀ {i : Nat}, i < rs.length → fs[i]? = some (fs.getD i (.con 0)) := fun {i} hi => by
      rw [List.getD_eq_getElem?_getD, List.getElem?_eq_getElem (by omega)]; rfl
    -- columns
    refine ⟨_, rfl, L6, rfl, ⟨_, SqL.of hL6⟩, fun L7 nL7 => wk_list (K := K) (a := L6) (xs := nV ps)
      (fun j H' => Ex H16 H' ∧ ∃ ts : List Addr, H' L7 = some (.lst (ts.map V.ref)) ∧ All2 (fun t i => H' t = some (.tup ((colF (fs.getD i (.con 0))).map V.bl))) ts (ps.take j)) ⟨Ex.new nL7, [], upd_same, .nil⟩ (fun j H' _ z => SqL.of (z.1 _ _ hL6)) ?_ ?_⟩
    · rintro j y H17 hy ⟨E17, ts, hL7, hts⟩
      obtain ⟨i, hi, rfl⟩ := nV_get hy
      have hin := hps i (List.mem_of_getElem? hi)
      have hm := fsat hin
      obtain ⟨b, hb, hFb⟩ := hA16.of hm
      have hbv : (fa.map V.ref)[i]? = some (.ref b) := by rw [List.getElem?_map, hb]; rfl
      have hj : j < 5 := by have := (List.getElem?_eq_some_iff.mp hi).1; omega
      refine ⟨rfl, tYes_in ?_⟩
      simp only [wipe, _root_.L2.start, List.map_cons, List.map_nil, List.length_cons, List.length_nil, Nat.reduceAdd, Nat.reduceSub, List.replicate_succ, List.replicate_zero, List.cons_append, List.nil_append, List.set_cons_zero, List.set_cons_succ]
      refine ⟨_, rfl, _, rfl, _, _, _, _, rfl, rfl, SqL.of (E17 _ _ hFL16), at_of (j := i) rfl hbv, [L, p, nl, pl, ch], b, _, rfl, hFb.fr (.of E17), hok _ (List.mem_of_getElem? hm), fun t H18 E18 ht => ?_⟩
      have hL78 := E18 _ _ hL7
      have T19 : TupEx H18 (upd H18 L7 (.lst (ts.map V.ref ++ [.ref t]))) := .put hL78 fun _ z => nomatch z
      refine ⟨_, hL78, sz_lt (by rw [List.length_map, hts.1, List.length_take]; omega), (E17.trans E18).mut nL7, ts ++ [t], by rw [upd_same, List.map_append]; rfl, ?_⟩
      rw [take_snoc1 hi]
      exact (hts.imp fun _ _ z => T19 _ _ (E18 _ _ z)).snoc (T19 _ _ ht)
    rintro H17 ⟨E17, ts, hL7, hts⟩
    rw [nV_len, List.take_length] at hts
    generalize hcs : ps.map (fun i => colF (fs.getD i (.con 0))) = cols at *
    have hc17 : All2 (fun t c => H17 t = some (.tup (c.map V.bl)) ∧ c.length = 32) ts cols := by
      subst hcs
      refine ⟨by rw [List.length_map]; exact hts.1, fun i t c h1 h2 => ?_⟩
      rw [List.getElem?_map] at h2
      obtain ⟨k, hk, rfl⟩ := Option.map_eq_some_iff.mp h2
      exact ⟨hts.2 i t k h1 hk, col_len _⟩
    have hcl : cols.length ≤ 5 := by rw [← hcs, List.length_map]; exact hp5
    have D17 := D16.ex E17
    have F17 := F16.trans (Fr.of (S := [p, nl, pl, ch]) E17)
    -- every
    have hcat : ∀ {H' : Hp}, Ex H17 H' → ∀ {k : Nat} {t : Addr}, ts[k]? = some t → ∀ {i : Nat}, i < 32 → ∃ c, cols[k]? = some c ∧ H' t = some (.tup (c.map V.bl)) ∧ (c.map V.bl)[i]? = some (.bl (c.getD i false)) := fun {H'} E {k t} ht {i} hi => by
      obtain ⟨c, hc, hct, h32⟩ := hc17.at_ ht
      refine ⟨c, hc, E _ _ hct, ?_⟩
      rw [List.getElem?_map, List.getD_eq_getElem?_getD, List.getElem?_eq_getElem (by omega)]; rfl
    refine ⟨_, rfl, by decide, by decide, fun R nR => wk_it walk_range (fun j H' => Ex H17 H' ∧ H' R = some (.lst (((List.range j).map fun i => decide ((rowB cols i).count false = 0)).map V.bl))) ⟨Ex.new nR, upd_same⟩ (fun _ _ _ _ => trivial) ?_ ?_⟩
    · rintro j y H18 H18' hj ⟨E18, hR⟩ ⟨rfl, ez⟩
      have hj : j < 32 := hj
      have ez := ez.trans (show V.int (0 + (j : Int)) = .int (j : Nat) by rw [Int.zero_add])
      subst ez
      refine ⟨rfl, tYes_in ?_⟩
      simp only [wipe, _root_.L2.start, List.map_cons, List.map_nil, List.length_cons, List.length_nil, Nat.reduceAdd, Nat.reduceSub, List.replicate_succ, List.replicate_zero, List.cons_append, List.nil_append, List.set_cons_zero, List.set_cons_succ]
      refine ⟨_, rfl, L7, rfl, ⟨_, SqL.of (E18 _ _ hL7)⟩, fun R2 nR2 => wk_list (K := K) (a := L7) (xs := ts.map V.ref) (fun k H' => Ex H18' H' ∧ H' R2 = some (.lst ((rowB (cols.take k) j).map V.bl))) ⟨Ex.new nR2, upd_same⟩ (fun k H' _ z => SqL.of (z.1 _ _ (E18 _ _ hL7))) ?_ ?_⟩
      · rintro k y H19 hy ⟨E19, hR2⟩
        obtain ⟨t, ht, rfl⟩ := refs_get hy
        obtain ⟨c, hc, hct, hcv⟩ := hcat (E18.trans E19) ht hj
        have hk := (List.getElem?_eq_some_iff.mp hc).1
        refine ⟨rfl, tYes_in ?_⟩
        simp only [wipe, _root_.L2.start, List.map_cons, List.map_nil, List.length_cons, List.length_nil, Nat.reduceAdd, Nat.reduceSub, List.replicate_succ, List.replicate_zero, List.cons_append, List.nil_append, List.set_cons_zero, List.set_cons_succ]
        refine ⟨_, rfl, _, rfl, _, _, _, _, rfl, rfl, SqT.of hct, at_of (j := j) rfl hcv, _, hR2, sz_lt (by unfold rowB; rw [List.length_map, List.length_map, List.length_take]; omega), E19.mut nR2, ?_⟩
        unfold rowB
        rw [upd_same, take_snoc1 hc, List.map_append, List.map_append]; rfl
      rintro H19 ⟨E19, hR2⟩
      rw [List.length_map, hc17.1, List.take_length] at hR2
      refine ⟨.inl ⟨rfl, _, SqL.of hR2⟩, R2, rowB cols j, false, rfl, rfl, SqL.of hR2, rfl, _, E19 _ _ hR, sz_lt (by rw [List.length_map, List.length_map, List.length_range]; omega), (E18.trans E19).mut nR, ?_⟩
      rw [upd_same, List.range_succ, List.map_append, List.map_append]
      have ed : decide (V.int (((rowB cols j).count false : Nat) : Int) = V.int 0) = decide ((rowB cols j).count false = 0) := by
        rw [Bool.eq_iff_iff, decide_eq_true_iff, decide_eq_true_iff]
        exact ⟨fun z => by have := V.int.inj z; omega, fun z => by rw [z]; rfl⟩
      rw [ed]; rfl
    rintro H18 ⟨E18, hR⟩
    have hR : H18 R = some (.lst (((List.range 32).map fun i => decide ((rowB cols i).count false = 0)).map V.bl)) := hR
    refine ⟨R, _, rfl, .inl ⟨SqL.of hR, fun t1 nt1 => ?_⟩⟩
    have E19 : Ex H17 (upd H18 t1 (.tup (((List.range 32).map fun i => decide ((rowB cols i).count false = 0)).map V.bl))) := E18.trans (Ex.new nt1)
    have ht1 : upd H18 t1 (.tup (((List.range 32).map fun i => decide ((rowB cols i).count false = 0)).map V.bl)) t1 = some (.tup (((List.range 32).map fun i => decide ((rowB cols i).count false = 0)).map V.bl)) := upd_same
    generalize upd H18 t1 (.tup (((List.range 32).map fun i => decide ((rowB cols i).count false = 0)).map V.bl)) = H19 at *
    -- some
    refine ⟨_, rfl, by decide, by decide, fun S2 nS2 => wk_it walk_range (fun j H' => Ex H19 H' ∧ H' S2 = some (.lst (((List.range j).map fun i => decide (0 < (rowB cols i).count true)).map V.bl))) ⟨Ex.new nS2, upd_same⟩ (fun _ _ _ _ => trivial) ?_ ?_⟩
    · rintro j y H20 H20' hj ⟨E20, hR⟩ ⟨rfl, ez⟩
      have hj : j < 32 := hj
      have ez := ez.trans (show V.int (0 + (j : Int)) = .int (j : Nat) by rw [Int.zero_add])
      subst ez
      have E1720 := E19.trans E20
      refine ⟨rfl, tYes_in ?_⟩
      simp only [wipe, _root_.L2.start, List.map_cons, List.map_nil, List.length_cons, List.length_nil, Nat.reduceAdd, Nat.reduceSub, List.replicate_succ, List.replicate_zero, List.cons_append, List.nil_append, List.set_cons_zero, List.set_cons_succ]
      refine ⟨_, rfl, L7, rfl, ⟨_, SqL.of (E1720 _ _ hL7)⟩, fun R2 nR2 => wk_list (K := K) (a := L7) (xs := ts.map V.ref) (fun k H' => Ex H20' H' ∧ H' R2 = some (.lst ((rowB (cols.take k) j).map V.bl))) ⟨Ex.new nR2, upd_same⟩ (fun k H' _ z => SqL.of (z.1 _ _ (E1720 _ _ hL7))) ?_ ?_⟩
      · rintro k y H21 hy ⟨E21, hR2⟩
        obtain ⟨t, ht, rfl⟩ := refs_get hy
        obtain ⟨c, hc, hct, hcv⟩ := hcat (E1720.trans E21) ht hj
        have hk := (List.getElem?_eq_some_iff.mp hc).1
        refine ⟨rfl, tYes_in ?_⟩
        simp only [wipe, _root_.L2.start, List.map_cons, List.map_nil, List.length_cons, List.length_nil, Nat.reduceAdd, Nat.reduceSub, List.replicate_succ, List.replicate_zero, List.cons_append, List.nil_append, List.set_cons_zero, List.set_cons_succ]
        refine ⟨_, rfl, _, rfl, _, _, _, _, rfl, rfl, SqT.of hct, at_of (j := j) rfl hcv, _, hR2, sz_lt (by unfold rowB; rw [List.length_map, List.length_map, List.length_take]; omega), E21.mut nR2, ?_⟩
        unfold rowB
        rw [upd_same, take_snoc1 hc, List.map_append, List.map_append]; rfl
      rintro H21 ⟨E21, hR2⟩
      rw [List.length_map, hc17.1, List.take_length] at hR2
      refine ⟨.inl ⟨rfl, _, SqL.of hR2⟩, R2, rowB cols j, true, rfl, rfl, SqL.of hR2, _, _, rfl, rfl, _, E21 _ _ hR, sz_lt (by rw [List.length_map, List.length_map, List.length_range]; omega), (E20.trans E21).mut nS2, ?_⟩
      rw [upd_same, List.range_succ, List.map_append, List.map_append]
      have ed : decide ((0 : Int) < (((rowB cols j).count true : Nat) : Int)) = decide (0 < (rowB cols j).count true) := by
        rw [Bool.eq_iff_iff, decide_eq_true_iff, decide_eq_true_iff]
        omega
      have ee : (fun i j : Int => V.bl (decide (j < i))) (((rowB cols j).count true : Nat) : Int) 0 = V.bl (decide (0 < (rowB cols j).count true)) := congrArg V.bl ed
      rw [ee]; rfl
    rintro H20 ⟨E20, hR20⟩
    have hR20 : H20 S2 = some (.lst (((List.range 32).map fun i => decide (0 < (rowB cols i).count true)).map V.bl)) := hR20
    refine ⟨S2, _, rfl, .inl ⟨SqL.of hR20, fun t2 nt2 => ?_⟩⟩
    have E21 : Ex H19 (upd H20 t2 (.tup (((List.range 32).map fun i => decide (0 < (rowB cols i).count true)).map V.bl))) := E20.trans (Ex.new nt2)
    have ht2 : upd H20 t2 (.tup (((List.range 32).map fun i => decide (0 < (rowB cols i).count true)).map V.bl)) t2 = some (.tup (((List.range 32).map fun i => decide (0 < (rowB cols i).count true)).map V.bl)) := upd_same
    generalize upd H20 t2 (.tup (((List.range 32).map fun i => decide (0 < (rowB cols i).count true)).map V.bl)) = H21 at *
    have ht1' := E21 _ _ ht1
    have E1721 := E19.trans E21
    have D21 := D17.ex E1721
    have hp21 := (X16.pool.kept E17).kept E1721
    have F21 := F17.trans (Fr.of (S := [p, nl, pl, ch]) E1721)
    have hL221 := F21 _ _ hL2 L2S
    have hL621 := E1721 _ _ (E17 _ _ hL6)
    have hL721 := E1721 _ _ hL7
    have hc21 : All2 (fun t c => H21 t = some (.tup (c.map V.bl)) ∧ c.length = 32) ts cols := hc17.imp fun _ _ z => ⟨E1721 _ _ z.1, z.2⟩
    obtain ⟨_, sn1, sn2, sn3⟩ := D15.fresh nL6
    obtain ⟨_, tn1, tn2, tn3⟩ := D16.fresh nL7
    have hrat : ∀ {i : Nat}, i < rs.length → rs[i]? = some (rs.getD i 0) := fun {i} hi => by
      rw [List.getD_eq_getElem?_getD, List.getElem?_eq_getElem hi]; rfl
    generalize hrs' : ps.map (fun i => rs.getD i 0) = rc at *
    have hrc : All2 (fun r c => IsCol N1 r c ∧ c.length = 32) rc cols := by
      subst hrs' hcs
      refine ⟨by rw [List.length_map, List.length_map], fun i r c h1 h2 => ?_⟩
      rw [List.getElem?_map] at h1 h2
      obtain ⟨k, hk, rfl⟩ := Option.map_eq_some_iff.mp h1
      rw [hk] at h2
      cases h2
      have hkr := hps k (List.mem_of_getElem? hk)
      exact ⟨(hcols k _ _ (hrat hkr) (fsat hkr)).2, col_len _⟩
    have hrcN : ∀ r ∈ rc, r < N1.length := fun r hr => by
      subst hrs'
      obtain ⟨k, hk, rfl⟩ := List.mem_map.mp hr
      have hkr := hps k hk
      exact (hcols k _ _ (hrat hkr) (fsat hkr)).1
    have hrc5 : rc.length ≤ 5 := by rw [← hrs', List.length_map]; exact hp5
    have hW : wT us5.length = 125 := rfl
    have no : ∀ {a : Str}, ¬ a = "_chosen" → ¬ a = "_places" → ¬ a = "_nodes" → (dfl nl pl ch).lookup a = none := fun h1 h2 h3 => dfl_no _ _ _ h1 h2 h3
    have nall := no (a := "all_of") (by decide +kernel) (by decide +kernel) (by decide +kernel)
    have nany := no (a := "any_of") (by decide +kernel) (by decide +kernel) (by decide +kernel)
    have nap := no (a := "applied") (by decide +kernel) (by decide +kernel) (by decide +kernel)
    obtain ⟨dx21, h121⟩ := D21.ob
    -- all_of
    refine ⟨_, rfl, x, dx21, _, rfl, h121, nall, _, rfl, L6, rfl, ⟨_, SqL.of hL621⟩, fun R3 nR3 => wk_list (K := K) (a := L6) (xs := nV ps) (fun j H' => Ex H21 H' ∧ H' R3 = some (.lst (nV ((ps.take j).map fun i => rs.getD i 0)))) ⟨Ex.new nR3, upd_same⟩ (fun j H' _ z => SqL.of (z.1 _ _ hL621)) ?_ ?_⟩
    · rintro j y H22 hy ⟨E22, hR3⟩
      obtain ⟨i, hi, rfl⟩ := nV_get hy
      have hin := hps i (List.mem_of_getElem? hi)
      refine ⟨rfl, tYes_in ?_⟩
      simp only [wipe, _root_.L2.start, List.map_cons, List.map_nil, List.length_cons, List.length_nil, Nat.reduceAdd, Nat.reduceSub, List.replicate_succ, List.replicate_zero, List.cons_append, List.nil_append, List.set_cons_zero, List.set_cons_succ]
      refine ⟨_, rfl, _, rfl, _, _, _, _, rfl, rfl, SqL.of (E22 _ _ hL221), at_of (j := i) rfl (nV_at (hrat hin)), _, hR3, sz_lt (by rw [nV_len, List.length_map, List.length_take]; omega), E22.mut nR3, ?_⟩
      rw [upd_same, take_snoc1 hi, List.map_append, ← nV_snoc]; rfl
    rintro H22 ⟨E22, hR3⟩
    rw [nV_len, List.take_length, hrs'] at hR3
    refine ⟨x, nl, pl, ch, N1, M1, us5, _, R3, rc, rfl, D21.ex E22, hR3, hrcN, hrc5, by omega, by omega, fun r1 N2 M2 H23 K23 D23 p23 hl23 hr23 hev23 => ?_⟩
    have ht123 := D21.tup (Kp.trans (.of E22) K23) _ _ ht1'
    refine ⟨_, rfl, _, rfl, x, nl, pl, ch, N2, M2, _, t1, _, rfl, D23, ht123, by rw [List.length_map, List.length_range], by omega, by omega, fun r2 N3 M3 H24 K24 D24 p24 hl24 hr24 hc24 => ⟨rfl, ?_⟩⟩
    have hr23' := Nat.lt_of_lt_of_le hr23 (pre_len p24)
    have cAll : IsCol N2 r1 ((List.range 32).map fun i => decide ((rowB cols i).count false = 0)) := IsCol.of (by rw [List.length_map, List.length_range]) fun i hi f m => by
      rw [hev23, row_ev hrc hi m, foldr_and, getD_range hi]
    have e1 : r1 = r2 := IsCol.one D24.good (by rw [List.length_map, List.length_range]) (cAll.more D23.good p24 hr23) hc24 hr23' hr24
    subst e1
    refine ⟨_, rfl, iteN (by rw [decide_eq_true rfl]; rfl) ?_⟩
    have K24 : Kp nl pl ch H21 H24 := (Kp.of E22).trans (K23.trans K24)
    have hL624 := K24 _ _ hL621 sn1 sn2 sn3
    have hL224 := K24 _ _ hL221 Ln1 Ln2 Ln3
    have hL724 := K24 _ _ hL721 tn1 tn2 tn3
    have hT24 := D21.tup K24
    have p13 : N1 <+: N3 := p23.trans p24
    have hrc3 : All2 (fun r c => IsCol N3 r c ∧ c.length = 32) rc cols := ⟨hrc.1, fun i r c h1 h2 => ⟨(hrc.2 i r c h1 h2).1.more D14.good p13 (hrcN r (List.mem_of_getElem? h1)), (hrc.2 i r c h1 h2).2⟩⟩
    have hrcN3 : ∀ r ∈ rc, r < N3.length := fun r hr => Nat.lt_of_lt_of_le (hrcN r hr) (pre_len p13)
    obtain ⟨dx24, h124⟩ := D24.ob
    -- any_of
    refine ⟨_, rfl, x, dx24, _, rfl, h124, nany, _, rfl, L6, rfl, ⟨_, SqL.of hL624⟩, fun R4 nR4 => wk_list (K := K) (a := L6) (xs := nV ps) (fun j H' => Ex H24 H' ∧ H' R4 = some (.lst (nV ((ps.take j).map fun i => rs.getD i 0)))) ⟨Ex.new nR4, upd_same⟩ (fun j H' _ z => SqL.of (z.1 _ _ hL624)) ?_ ?_⟩
    · rintro j y H25 hy ⟨E25, hR4⟩
      obtain ⟨i, hi, rfl⟩ := nV_get hy
      have hin := hps i (List.mem_of_getElem? hi)
      refine ⟨rfl, tYes_in ?_⟩
      simp only [wipe, _root_.L2.start, List.map_cons, List.map_nil, List.length_cons, List.length_nil, Nat.reduceAdd, Nat.reduceSub, List.replicate_succ, List.replicate_zero, List.cons_append, List.nil_append, List.set_cons_zero, List.set_cons_succ]
      refine ⟨_, rfl, _, rfl, _, _, _, _, rfl, rfl, SqL.of (E25 _ _ hL224), at_of (j := i) rfl (nV_at (hrat hin)), _, hR4, sz_lt (by rw [nV_len, List.length_map, List.length_take]; omega), E25.mut nR4, ?_⟩
      rw [upd_same, take_snoc1 hi, List.map_append, ← nV_snoc]; rfl
    rintro H25 ⟨E25, hR4⟩
    rw [nV_len, List.take_length, hrs'] at hR4
    refine ⟨x, nl, pl, ch, N3, M3, us5, _, R4, rc, rfl, D24.ex E25, hR4, hrcN3, hrc5, by omega, by omega, fun r3 N4 M4 H26 K26 D26 p26 hl26 hr26 hev26 => ?_⟩
    have ht226 := D24.tup (Kp.trans (.of E25) K26) _ _ (hT24 _ _ ht2)
    refine ⟨_, rfl, _, rfl, x, nl, pl, ch, N4, M4, _, t2, _, rfl, D26, ht226, by rw [List.length_map, List.length_range], by omega, by omega, fun r4 N5 M5 H27 K27 D27 p27 hl27 hr27 hc27 => ⟨rfl, ?_⟩⟩
    have hr26' := Nat.lt_of_lt_of_le hr26 (pre_len p27)
    have cAny : IsCol N4 r3 ((List.range 32).map fun i => decide (0 < (rowB cols i).count true)) := IsCol.of (by rw [List.length_map, List.length_range]) fun i hi f m => by
      rw [hev26, row_ev hrc3 hi m, foldr_or, getD_range hi]
    have e2 : r3 = r4 := IsCol.one D27.good (by rw [List.length_map, List.length_range]) (cAny.more D26.good p27 hr26) hc27 hr26' hr27
    subst e2
    refine ⟨_, rfl, iteN (by rw [decide_eq_true rfl]; rfl) ?_⟩
    have K27 : Kp nl pl ch H24 H27 := (Kp.of E25).trans (K26.trans K27)
    have hL627 := K27 _ _ hL624 sn1 sn2 sn3
    have hL227 := K27 _ _ hL224 Ln1 Ln2 Ln3
    have hL727 := K27 _ _ hL724 tn1 tn2 tn3
    have hT27 := hT24.trans (D24.tup K27)
    have p35 : N3 <+: N5 := p26.trans p27
    have hrc5' : All2 (fun r c => IsCol N5 r c ∧ c.length = 32) rc cols := ⟨hrc3.1, fun i r c h1 h2 => ⟨(hrc3.2 i r c h1 h2).1.more D24.good p35 (hrcN3 r (List.mem_of_getElem? h1)), (hrc3.2 i r c h1 h2).2⟩⟩
    have hrcN5 : ∀ r ∈ rc, r < N5.length := fun r hr => Nat.lt_of_lt_of_le (hrcN3 r hr) (pre_len p35)
    have hp27 := hp21.kp (K24.trans K27) pnn ann
    have hc27 : All2 (fun t c => H27 t = some (.tup (c.map V.bl)) ∧ c.length = 32) ts cols := hc21.imp fun _ _ z => ⟨hT27 _ _ z.1, z.2⟩
    have hN5 : N5.length ≤ 302000 := by omega
    have D27 := D27.cl_le (show _ ≤ 302000 by omega)
    -- four places at the most
    refine ⟨_, rfl, _, rfl, L6, _, rfl, SqL.of hL627, fun L8 nL8 => ?_⟩
    rw [cut_four]
    have E28 : Ex H27 (upd H27 L8 (.lst (nV (ps.take 4)))) := Ex.new nL8
    have hL828 : upd H27 L8 (.lst (nV (ps.take 4))) L8 = some (.lst (nV (ps.take 4))) := upd_same
    generalize upd H27 L8 (.lst (nV (ps.take 4))) = H28 at *
    have hn4 : (ps.take 4).length ≤ 4 := by rw [List.length_take]; omega
    obtain ⟨_, un1, un2, un3⟩ := D27.fresh nL8
    have L8p : L8 ≠ p := hp27.ne nL8
    have L7p : L7 ≠ p := X16.pool.ne nL7
    -- the table
    refine ⟨_, rfl, _, rfl, _, _, rfl, .inl (SqL.of hL828), p, a, (nV (ps.take 4)).length, rfl, by rw [nV_len]; omega, hp27.kept E28, fun tt tab H29 htl X29 ntt htt => ?_⟩
    rw [nV_len] at htl
    have D29 := (D27.ex E28).px X29 px1
    have hT29 := (TupEx.of E28).trans X29.tup
    have hL829 := X29.at_ (by rw [hid_ne L8p]; exact hL828)
    have hL229 := X29.at_ (by rw [hid_ne L2p]; exact E28 _ _ hL227)
    have hL729 := X29.at_ (by rw [hid_ne L7p]; exact E28 _ _ hL727)
    have hc29 : All2 (fun t c => H29 t = some (.tup (c.map V.bl)) ∧ c.length = 32) ts cols := hc27.imp fun _ _ z => ⟨hT29 _ _ z.1, z.2⟩
    generalize hps4 : ps.take 4 = p4 at *
    have hp4 : ∀ {k i : Nat}, p4[k]? = some i → k < 4 ∧ ps[k]? = some i := fun {k i} h => by
      rw [← hps4, List.getElem?_take] at h
      split at h
      · exact ⟨by assumption, h⟩
      · cases h
    -- due
    refine ⟨Nat.zero_le _, fun o no => ⟨_, rfl, by decide, by decide, for_range (n := ((32 : Nat) : Int).toNat)
      (fun j σ H' => Ex H29 H' ∧ ∃ y3 y8 y13 : Option V, H' o = some (.lst (((List.range j).map fun i => lookB tab (rowB (cols.take 4) i)).map V.bl)) ∧ σ = [some (.ref sa), some (.ref p), some (.ref x), y3, some (.ref L), some (.ref L2), some (.ref L8), some (.ref L7), y8, some (.ref t1), some (.ref t2), some (.ref tt), some (.ref o), y13, none, none, none])
      ⟨Ex.new no, _, _, _, upd_same, rfl⟩ ?_ ?_⟩⟩
    · rintro j σ H30 hj ⟨E30, y3, y8, y13, hO, rfl⟩
      have hj : j < 32 := hj
      rw [Int.zero_add]
      have hc4 : (cols.take 4).length = p4.length := by
        rw [← hcs, ← hps4, List.length_take, List.length_take, List.length_map]
      refine ⟨_, rfl, _, _, rfl, .inl (SqL.of (E30 _ _ hL829)), _, rfl, by omega, by rw [nV_len]; omega, for_range (n := (((nV p4).length : Nat) : Int).toNat)
        (fun k σ H' => Ex H30 H' ∧ ∃ y3 : Option V, σ = [some (.ref sa), some (.ref p), some (.ref x), y3, some (.ref L), some (.ref L2), some (.ref L8), some (.ref L7), some (.int (j : Nat)), some (.ref t1), some (.ref t2), some (.ref tt), some (.ref o), some (.int ((sumB (rowB (cols.take 4) j) k : Nat) : Int)), none, none, none])
        ⟨.refl _, _, rfl⟩ ?_ ?_⟩
      · rintro k σ H31 hk ⟨E31, y3, rfl⟩
        rw [Int.toNat_natCast, nV_len] at hk
        rw [Int.zero_add]
        have E2931 := E30.trans E31
        have hk4 : k < 4 := by omega
        obtain ⟨t, ht⟩ : ∃ t, ts[k]? = some t := ⟨_, List.getElem?_eq_getElem (by rw [hc29.1]; rw [List.length_take] at hc4; omega)⟩
        obtain ⟨c, hc, hct, h32⟩ := hc29.at_ ht
        have htv : (ts.map V.ref)[k]? = some (.ref t) := by rw [List.getElem?_map, ht]; rfl
        have hcv : (c.map V.bl)[j]? = some (.bl (c.getD j false)) := by
          rw [List.getElem?_map, List.getD_eq_getElem?_getD, List.getElem?_eq_getElem (by omega)]; rfl
        have hrow : (rowB (cols.take 4) j).getD k false = c.getD j false := by
          unfold rowB
          rw [List.getD_eq_getElem?_getD, List.getElem?_map, List.getElem?_take, if_pos hk4, hc]; rfl
        refine ⟨_, rfl, (by show 4 ≤ sizeLine; decide), fun l4 n4 => ?_⟩
        have E32 : Ex H31 (upd H31 l4 (.lst [.int 1, .int 2, .int 4, .int 8])) := Ex.new n4
        have hl4 : upd H31 l4 (.lst [.int 1, .int 2, .int 4, .int 8]) l4 = some (.lst [.int 1, .int 2, .int 4, .int 8]) := upd_same
        generalize upd H31 l4 (.lst [.int 1, .int 2, .int 4, .int 8]) = H32 at *
        have E2932 := E2931.trans E32
        refine ⟨_, rfl, _, _, _, _, rfl, rfl, SqL.of hl4, at_of (j := k) rfl (pow4 hk4), _, rfl, _, rfl, _, _, _, _, rfl, rfl, SqL.of (E2932 _ _ hL729), at_of (j := k) rfl htv, _, rfl, _, _, _, _, rfl, rfl, SqT.of (E2932 _ _ hct), at_of (j := j) rfl hcv, .inr ⟨_, rfl, _, _, rfl, rfl, .inr ⟨by split <;> decide, by split <;> decide⟩, _, _, rfl, rfl, E31.trans E32, some (.int (k : Nat)), ?_⟩⟩
        have es : sumB (rowB (cols.take 4) j) (k + 1) = sumB (rowB (cols.take 4) j) k + if c.getD j false then 2 ^ k else 0 := by
          show sumB _ k + (if (rowB (cols.take 4) j).getD k false then 2 ^ k else 0) = _
          rw [hrow]
        have ev : ((sumB (rowB (cols.take 4) j) k : Nat) : Int) + ((2 ^ k : Nat) : Int) * (if c.getD j false = true then 1 else 0) = ((sumB (rowB (cols.take 4) j) (k + 1) : Nat) : Int) := by
          rw [es]
          by_cases z : c.getD j false = true
          · rw [if_pos z, if_pos z, Int.mul_one, Int.natCast_add]
          · rw [if_neg z, if_neg z, Int.mul_zero, Int.add_zero, Nat.add_zero]
        rw [← ev]; rfl
      · rintro σ H31 ⟨E31, y3, rfl⟩
        rw [Int.toNat_natCast, nV_len]
        have hO31 := E31 _ _ hO
        have hrl4 : (rowB (cols.take 4) j).length = p4.length := by unfold rowB; rw [List.length_map, hc4]
        have hlt : sumB (rowB (cols.take 4) j) p4.length < tab.length := by rw [htl]; exact sumB_lt _ _
        have hval : (tab.map V.bl)[sumB (rowB (cols.take 4) j) p4.length]? = some (.bl (lookB tab (rowB (cols.take 4) j))) := by
          unfold lookB
          rw [hrl4, List.getElem?_map, List.getD_eq_getElem?_getD, List.getElem?_eq_getElem hlt]; rfl
        refine ⟨_, rfl, .inl ⟨rfl, _, SqL.of hO31⟩, _, rfl, _, rfl, _, _, _, _, rfl, rfl, SqT.of (E30 _ _ htt |> E31 _ _), at_of (j := sumB (rowB (cols.take 4) j) p4.length) rfl hval, o, _, _, rfl, rfl, hO31, sz_lt (by rw [List.length_map, List.length_map, List.length_range]; omega), (E30.trans E31).mut no, _, _, _, ?_, rfl⟩
        rw [upd_same, List.range_succ, List.map_append, List.map_append]; rfl
    · rintro σ H30 ⟨E30, y3', y8, y13, hO, rfl⟩
      have hO : H30 o = some (.lst (((List.range 32).map fun i => lookB tab (rowB (cols.take 4) i)).map V.bl)) := hO
      have D30 := D29.ex E30
      obtain ⟨dx30, h130⟩ := D30.ob
      have hL830 := E30 _ _ hL829
      obtain ⟨_, on1, on2, on3⟩ := D29.fresh no
      refine ⟨_, rfl, x, dx30, _, rfl, h130, nap, _, rfl, _, rfl, L8, rfl, ⟨_, SqL.of hL830⟩, fun R5 nR5 => wk_list (K := K) (a := L8) (xs := nV p4) (fun j H' => Ex H30 H' ∧ H' R5 = some (.lst (nV ((p4.take j).map fun i => rs.getD i 0)))) ⟨Ex.new nR5, upd_same⟩ (fun j H' _ z => SqL.of (z.1 _ _ hL830)) ?_ ?_⟩
      · rintro j y H31 hy ⟨E31, hR5⟩
        obtain ⟨i, hi, rfl⟩ := nV_get hy
        have hin := hps i (List.mem_of_getElem? (hp4 hi).2)
        refine ⟨rfl, tYes_in ?_⟩
        simp only [wipe, _root_.L2.start, List.map_cons, List.map_nil, List.length_cons, List.length_nil, Nat.reduceAdd, Nat.reduceSub, List.replicate_succ, List.replicate_zero, List.cons_append, List.nil_append, List.set_cons_zero, List.set_cons_succ]
        refine ⟨_, rfl, _, rfl, _, _, _, _, rfl, rfl, SqL.of (E31 _ _ (E30 _ _ hL229)), at_of (j := i) rfl (nV_at (hrat hin)), _, hR5, sz_lt (by rw [nV_len, List.length_map, List.length_take]; omega), E31.mut nR5, ?_⟩
        rw [upd_same, take_snoc1 hi, List.map_append, ← nV_snoc]; rfl
      rintro H31 ⟨E31, hR5⟩
      rw [nV_len, List.take_length] at hR5
      have erc : p4.map (fun i => rs.getD i 0) = rc.take 4 := by rw [← hps4, ← hrs', List.map_take]
      rw [erc] at hR5
      have hrc4 : All2 (fun r c => IsCol N5 r c ∧ c.length = 32) (rc.take 4) (cols.take 4) := by
        refine ⟨by rw [List.length_take, List.length_take, hrc5'.1], fun i r c h1 h2 => ?_⟩
        rw [List.getElem?_take] at h1 h2
        split at h1
        · rename_i hi
          rw [if_pos hi] at h2
          exact hrc5'.2 i r c h1 h2
        · cases h1
      have hrl4 : (rc.take 4).length = p4.length := by rw [← erc, List.length_map]
      obtain ⟨_, rn1, rn2, rn3⟩ := D30.fresh nR5
      refine ⟨x, nl, pl, ch, N5, M5, us5, _, tt, R5, tab, rc.take 4, rfl, D30.ex E31, E31 _ _ (E30 _ _ htt), hR5, ⟨rn1, rn2, rn3⟩, fun r hr => hrcN5 r (List.mem_of_mem_take hr), by rw [htl, hrl4], by omega, by omega, by omega, fun r5 N6 M6 H32 K32 D32 p32 hl32 hr32 hev32 => ?_⟩
      have hO32 := K32 _ _ (E31 _ _ hO) on1 on2 on3
      refine ⟨_, rfl, _, rfl, _, _, rfl, .inl ⟨SqL.of hO32, fun t3 nt3 => ?_⟩⟩
      refine ⟨x, nl, pl, ch, N6, M6, _, t3, _, rfl, D32.ex (Ex.new nt3), upd_same, by rw [List.length_map, List.length_range], by omega, by omega, fun r6 N7 M7 H33 K33 D33 p33 hl33 hr33 hc33 => ⟨rfl, ?_⟩⟩
      have hr32' := Nat.lt_of_lt_of_le hr32 (pre_len p33)
      have cApp : IsCol N6 r5 ((List.range 32).map fun i => lookB tab (rowB (cols.take 4) i)) := IsCol.of (by rw [List.length_map, List.length_range]) fun i hi f m => by
        rw [hev32, row_ev hrc4 hi m, getD_range hi]
      have e3 : r5 = r6 := IsCol.one D33.good (by rw [List.length_map, List.length_range]) (cApp.more D32.good p33 hr32) hc33 hr32' hr33
      subst e3
      rw [decide_eq_true rfl]
      exact q H33
end
end G
namespace G
open PySem PySem.Spec PyProof.Rows L2
/-- the defs and the built-in names as the top has left them -/
structure All (K : PySem.W.Frag) (mg : Str → Option Value) : Prop where
  d_law_pool : Dfd K mg "_law_pool" s_law_pool ["script"]
  d_law_spread : Dfd K mg "_law_spread" s_law_spread ["cell"]
  d_law_draw : Dfd K mg "_law_draw" s_law_draw ["pool", "many"]
  d_law_same : Dfd K mg "_law_same" s_law_same ["actual", "due"]
  d_law_bits : Dfd K mg "_law_bits" s_law_bits ["index", "many"]
  d_law_table : Dfd K mg "_law_table" s_law_table ["pool", "many"]
  d_law_function : Dfd K mg "_law_function" s_law_function ["pool", "depth"]
  d_law_worth : Dfd K mg "_law_worth" s_law_worth ["made", "bits"]
  d_law_refer : Dfd K mg "_law_refer" s_law_refer ["diagrams", "made", "gaps"]
  d_law_column : Dfd K mg "_law_column" s_law_column ["made"]
  d_law_of_column : Dfd K mg "_law_of_column" s_law_of_column ["diagrams", "column"]
  d_law_matters : Dfd K mg "_law_matters" s_law_matters ["column", "k"]
  d_law_fixed : Dfd K mg "_law_fixed" s_law_fixed ["column", "k", "value"]
  d_law_first : Dfd K mg "_law_first" s_law_first ["column", "many"]
  d_law_measured : Dfd K mg "_law_measured" s_law_measured ["pool", "diagrams", "made", "a"]
  z_min : mg "min" = none
  z_max : mg "max" = none
  z_tuple : mg "tuple" = none
  z_list : mg "list" = none
  z_len : mg "len" = none
  z_range : mg "range" = none
  z_sorted : mg "sorted" = none
  z_sum : mg "sum" = none
  z_set : mg "set" = none
  z_int : mg "int" = none
  z_isinstance : mg "isinstance" = none
  z_bool : mg "bool" = none
  z_str : mg "str" = none
  z_ValueError : mg "ValueError" = none
  c_FALSE : ∃ t, mg "FALSE" = some (.int 0 t)
  c_TRUE : ∃ t, mg "TRUE" = some (.int 1 t)
  k_Diagrams : ∃ C : Addr, Cl_Diagrams K mg C
  e_BadArgument : ∃ C : Addr, ExcH K mg "BadArgument" C
end G
namespace G
open PySem PySem.Spec PyProof.Rows L2
theorem glue {P : Program} {w : World} {K : PySem.W.Frag} {mg : Str → Option Value} {base : Heap} (A : All K mg) {f : Addr} {fd : FuncData} (F : Fun K "law" "law" s_law f fd) : FnOk P w K mg base CX0 11 f fd ["script"] (spLaw K) := by
  have TL : TxtL mg := ⟨A.z_int, A.z_len, A.z_list, A.z_range⟩
  have TS : TxtS mg := ⟨A.z_isinstance, A.z_tuple, A.z_list, A.z_len, A.z_range, A.z_bool, A.z_int, A.z_str⟩
  have TD : TxtG mg := ⟨A.c_FALSE, A.c_TRUE, A.z_min, A.z_tuple, A.z_len⟩
  have TB : TxtB mg := ⟨A.z_set, A.z_sorted⟩
  have TC : TxtC mg := ⟨A.z_sum⟩
  have TQ : TxtQ mg := ⟨A.z_tuple⟩
  have TJ : TxtJ mg := ⟨A.z_list, A.z_len, A.z_range⟩
  have TY : TxtY mg := ⟨A.z_len, A.z_range⟩
  obtain ⟨B, UB⟩ := A.e_BadArgument
  obtain ⟨C, W⟩ := A.k_Diagrams
  obtain ⟨fi, di, Mi, Fi, bi⟩ := W.m_init
  obtain ⟨f0, d0, M0, F0, b0⟩ := W.m_variable
  obtain ⟨f1, d1, M1, F1, b1⟩ := W.m_negate
  obtain ⟨f2, d2, M2, F2, b2⟩ := W.m_both
  obtain ⟨f3, d3, M3, F3, b3⟩ := W.m_either
  obtain ⟨f4, d4, M4, F4, b4⟩ := W.m_choose
  obtain ⟨f6, d6, M6, F6, b6⟩ := W.m_node
  obtain ⟨f7, d7, M7, F7, b7⟩ := W.m_half
  obtain ⟨f8, d8, M8, F8, b8⟩ := W.m_known_choice
  obtain ⟨f9, d9, M9, F9, b9⟩ := W.m_all_of
  obtain ⟨f10, d10, M10, F10, b10⟩ := W.m_any_of
  obtain ⟨f11, d11, M11, F11, b11⟩ := W.m_applied
  obtain ⟨f12, d12, M12, F12, b12⟩ := W.m_fix
  obtain ⟨f13, d13, M13, F13, b13⟩ := W.m_support
  obtain ⟨f14, d14, M14, F14, b14⟩ := W.m_count
  obtain ⟨f15, d15, M15, F15, b15⟩ := W.m_least
  obtain ⟨f16, d16, M16, F16, b16⟩ := W.m_level
  obtain ⟨f17, d17, M17, F17, b17⟩ := W.m_below
  have hd := drawX (P := P) (w := w) (base := base) (ok_law_draw A.d_law_draw TL (ok_law_spread A.d_law_spread TL))
  have hb := ok_law_bits (P := P) (w := w) (base := base) A.d_law_bits TS
  have g7 := ok_Diagrams_half (P := P) (w := w) (base := base) F7 W TD
  have g8 := ok_Diagrams_known_choice (P := P) (w := w) (base := base) F8 W TD
  have g6 := ok_Diagrams_node (P := P) (w := w) (base := base) F6 W TD
  have g4 := ok_Diagrams_choose F4 W TD M7 g7 b7 M8 g8 b8 M6 g6 b6
  have g0 := ok_Diagrams_variable F0 W TD UB.u M6 g6 b6
  have g1 := ok_Diagrams_negate F1 W TD M4 g4 b4
  have g2 := ok_Diagrams_both F2 W TD A.z_max M4 g4 b4
  have g3 := ok_Diagrams_either F3 W TD A.z_max M4 g4 b4
  have g9 := ok_Diagrams_all_of F9 W TD TJ M2 g2 b2
  have g10 := ok_Diagrams_any_of F10 W TD TJ M3 g3 b3
  have g11 := ok_Diagrams_applied F11 W TD TY M4 g4 b4
  have g16 := ok_Diagrams_level (P := P) (w := w) (base := base) F16 W TD
  have g17 := ok_Diagrams_below (P := P) (w := w) (base := base) F17 W TD TB
  have g12 := ok_Diagrams_fix F12 W TD M17 g17 b17 M6 g6 b6
  have g13 := ok_Diagrams_support F13 W TB M17 g17 b17
  have g14 := ok_Diagrams_count F14 W TD TC M17 g17 b17 M16 g16 b16
  have g15 := ok_Diagrams_least (P := P) (w := w) (base := base) F15 W TD TQ
  obtain ⟨ff, df, Ff, gf, bf⟩ := A.d_law_function
  obtain ⟨fr, dr, Fr', gr, br⟩ := A.d_law_refer
  obtain ⟨fw, dw, Fw, gw, bw⟩ := A.d_law_worth
  have hc := ok_law_column (d := 6) A.d_law_column TS ⟨fw, dw, fn_law_worth Fw gw bw TS 7, gw, Fw.kp, bw⟩ hb
  have ho := ok_law_of_column A.d_law_of_column TS W M0 g0 b0 M1 g1 b1 M2 g2 b2 M3 g3 b3 hb
  have hm := ok_law_measured A.d_law_measured TS W M13 g13 b13 M14 g14 b14 M15 g15 b15 M12 g12 b12 hc (ok_law_same A.d_law_same TS 2) (ok_law_matters A.d_law_matters TS) hd (ok_law_first A.d_law_first TS hb) ho (ok_law_fixed A.d_law_fixed TS)
  exact fn_law F TS W (ok_law_pool A.d_law_pool TL) hd ⟨ff, df, fn_law_functionA (fn_law_function Ff gf bf TS hd), gf, Ff.kp, bf⟩
    ⟨fr, dr, fn_law_refer Fr' gr br W M0 g0 b0 M1 g1 b1 M2 g2 b2 M3 g3 b3 M4 g4 b4 7, gr, Fr'.kp, br⟩ hc hm ho (ok_law_table A.d_law_table TS hd hb)
    Mi (ok_Diagrams_init Fi W TD) bi M9 g9 b9 M10 g10 b10 M11 g11 b11
end G
namespace G
open PySem PySem.Spec PyProof.Rows L2
theorem all_mk {l : PySem.W.OpenLaw} {w : World} {K : PySem.W.Frag} {h : Heap} {mg : Str → Option Value} {fa f0 f1 f2 f3 f4 f5 f6 f7 f8 f9 f10 f11 f12 f13 f14 f15 : Addr} (X : K.In h) (G : h.Ns mainGlobals mg) (hfa : mg "law" = some (.ref fa))
    {od0 an0 od1 an1 od2 an2 od3 an3 od4 an4 od5 an5 od6 an6 od7 an7 od8 an8 od9 an9 od10 an10 od11 an11 od12 an12 od13 an13 od14 an14 od15 an15 : Option Addr} {sl0 sl1 sl2 sl3 sl4 sl5 sl6 sl7 sl8 sl9 sl10 sl11 sl12 sl13 sl14 sl15 : Array (Option Value)} {oc0 kv0 dc0 pm0 cd0 ct0 oc1 kv1 dc1 pm1 cd1 ct1 oc2 kv2 dc2 pm2 cd2 ct2 oc3 kv3 dc3 pm3 cd3 ct3 oc4 kv4 dc4 pm4 cd4 ct4 oc5 kv5 dc5 pm5 cd5 ct5 oc6 kv6 dc6 pm6 cd6 ct6 oc7 kv7 dc7 pm7 cd7 ct7 oc8 kv8 dc8 pm8 cd8 ct8 oc9 kv9 dc9 pm9 cd9 ct9 oc10 kv10 dc10 pm10 cd10 ct10 oc11 kv11 dc11 pm11 cd11 ct11 oc12 kv12 dc12 pm12 cd12 ct12 oc13 kv13 dc13 pm13 cd13 ct13 oc14 kv14 dc14 pm14 cd14 ct14 oc15 kv15 dc15 pm15 cd15 ct15 : Value}
    (a0 : PySem.W.nsIn K mainGlobals "_law_pool" = some (some (.ref f0))) (l0 : K.lookup f0 = some ⟨oc0, od0, .func (PySem.W.fnOf "_law_pool" "_law_pool" (defArgs s_law_pool) (defBody s_law_pool) (defScope s_law_pool) .none kv0 dc0 pm0 an0 cd0 ct0), sl0⟩) (c0 : PySem.W.codeIn K cd0 "_law_pool" = true) (k0 : PySem.W.keepIn K (.ref f0) = true)
    (a1 : PySem.W.nsIn K mainGlobals "_law_spread" = some (some (.ref f1))) (l1 : K.lookup f1 = some ⟨oc1, od1, .func (PySem.W.fnOf "_law_spread" "_law_spread" (defArgs s_law_spread) (defBody s_law_spread) (defScope s_law_spread) .none kv1 dc1 pm1 an1 cd1 ct1), sl1⟩) (c1 : PySem.W.codeIn K cd1 "_law_spread" = true) (k1 : PySem.W.keepIn K (.ref f1) = true)
    (a2 : PySem.W.nsIn K mainGlobals "_law_draw" = some (some (.ref f2))) (l2 : K.lookup f2 = some ⟨oc2, od2, .func (PySem.W.fnOf "_law_draw" "_law_draw" (defArgs s_law_draw) (defBody s_law_draw) (defScope s_law_draw) .none kv2 dc2 pm2 an2 cd2 ct2), sl2⟩) (c2 : PySem.W.codeIn K cd2 "_law_draw" = true) (k2 : PySem.W.keepIn K (.ref f2) = true)
    (a3 : PySem.W.nsIn K mainGlobals "_law_same" = some (some (.ref f3))) (l3 : K.lookup f3 = some ⟨oc3, od3, .func (PySem.W.fnOf "_law_same" "_law_same" (defArgs s_law_same) (defBody s_law_same) (defScope s_law_same) .none kv3 dc3 pm3 an3 cd3 ct3), sl3⟩) (c3 : PySem.W.codeIn K cd3 "_law_same" = true) (k3 : PySem.W.keepIn K (.ref f3) = true)
    (a4 : PySem.W.nsIn K mainGlobals "_law_bits" = some (some (.ref f4))) (l4 : K.lookup f4 = some ⟨oc4, od4, .func (PySem.W.fnOf "_law_bits" "_law_bits" (defArgs s_law_bits) (defBody s_law_bits) (defScope s_law_bits) .none kv4 dc4 pm4 an4 cd4 ct4), sl4⟩) (c4 : PySem.W.codeIn K cd4 "_law_bits" = true) (k4 : PySem.W.keepIn K (.ref f4) = true)
    (a5 : PySem.W.nsIn K mainGlobals "_law_table" = some (some (.ref f5))) (l5 : K.lookup f5 = some ⟨oc5, od5, .func (PySem.W.fnOf "_law_table" "_law_table" (defArgs s_law_table) (defBody s_law_table) (defScope s_law_table) .none kv5 dc5 pm5 an5 cd5 ct5), sl5⟩) (c5 : PySem.W.codeIn K cd5 "_law_table" = true) (k5 : PySem.W.keepIn K (.ref f5) = true)
    (a6 : PySem.W.nsIn K mainGlobals "_law_function" = some (some (.ref f6))) (l6 : K.lookup f6 = some ⟨oc6, od6, .func (PySem.W.fnOf "_law_function" "_law_function" (defArgs s_law_function) (defBody s_law_function) (defScope s_law_function) .none kv6 dc6 pm6 an6 cd6 ct6), sl6⟩) (c6 : PySem.W.codeIn K cd6 "_law_function" = true) (k6 : PySem.W.keepIn K (.ref f6) = true)
    (a7 : PySem.W.nsIn K mainGlobals "_law_worth" = some (some (.ref f7))) (l7 : K.lookup f7 = some ⟨oc7, od7, .func (PySem.W.fnOf "_law_worth" "_law_worth" (defArgs s_law_worth) (defBody s_law_worth) (defScope s_law_worth) .none kv7 dc7 pm7 an7 cd7 ct7), sl7⟩) (c7 : PySem.W.codeIn K cd7 "_law_worth" = true) (k7 : PySem.W.keepIn K (.ref f7) = true)
    (a8 : PySem.W.nsIn K mainGlobals "_law_refer" = some (some (.ref f8))) (l8 : K.lookup f8 = some ⟨oc8, od8, .func (PySem.W.fnOf "_law_refer" "_law_refer" (defArgs s_law_refer) (defBody s_law_refer) (defScope s_law_refer) .none kv8 dc8 pm8 an8 cd8 ct8), sl8⟩) (c8 : PySem.W.codeIn K cd8 "_law_refer" = true) (k8 : PySem.W.keepIn K (.ref f8) = true)
    (a9 : PySem.W.nsIn K mainGlobals "_law_column" = some (some (.ref f9))) (l9 : K.lookup f9 = some ⟨oc9, od9, .func (PySem.W.fnOf "_law_column" "_law_column" (defArgs s_law_column) (defBody s_law_column) (defScope s_law_column) .none kv9 dc9 pm9 an9 cd9 ct9), sl9⟩) (c9 : PySem.W.codeIn K cd9 "_law_column" = true) (k9 : PySem.W.keepIn K (.ref f9) = true)
    (a10 : PySem.W.nsIn K mainGlobals "_law_of_column" = some (some (.ref f10))) (l10 : K.lookup f10 = some ⟨oc10, od10, .func (PySem.W.fnOf "_law_of_column" "_law_of_column" (defArgs s_law_of_column) (defBody s_law_of_column) (defScope s_law_of_column) .none kv10 dc10 pm10 an10 cd10 ct10), sl10⟩) (c10 : PySem.W.codeIn K cd10 "_law_of_column" = true) (k10 : PySem.W.keepIn K (.ref f10) = true)
    (a11 : PySem.W.nsIn K mainGlobals "_law_matters" = some (some (.ref f11))) (l11 : K.lookup f11 = some ⟨oc11, od11, .func (PySem.W.fnOf "_law_matters" "_law_matters" (defArgs s_law_matters) (defBody s_law_matters) (defScope s_law_matters) .none kv11 dc11 pm11 an11 cd11 ct11), sl11⟩) (c11 : PySem.W.codeIn K cd11 "_law_matters" = true) (k11 : PySem.W.keepIn K (.ref f11) = true)
    (a12 : PySem.W.nsIn K mainGlobals "_law_fixed" = some (some (.ref f12))) (l12 : K.lookup f12 = some ⟨oc12, od12, .func (PySem.W.fnOf "_law_fixed" "_law_fixed" (defArgs s_law_fixed) (defBody s_law_fixed) (defScope s_law_fixed) .none kv12 dc12 pm12 an12 cd12 ct12), sl12⟩) (c12 : PySem.W.codeIn K cd12 "_law_fixed" = true) (k12 : PySem.W.keepIn K (.ref f12) = true)
    (a13 : PySem.W.nsIn K mainGlobals "_law_first" = some (some (.ref f13))) (l13 : K.lookup f13 = some ⟨oc13, od13, .func (PySem.W.fnOf "_law_first" "_law_first" (defArgs s_law_first) (defBody s_law_first) (defScope s_law_first) .none kv13 dc13 pm13 an13 cd13 ct13), sl13⟩) (c13 : PySem.W.codeIn K cd13 "_law_first" = true) (k13 : PySem.W.keepIn K (.ref f13) = true)
    (a14 : PySem.W.nsIn K mainGlobals "_law_measured" = some (some (.ref f14))) (l14 : K.lookup f14 = some ⟨oc14, od14, .func (PySem.W.fnOf "_law_measured" "_law_measured" (defArgs s_law_measured) (defBody s_law_measured) (defScope s_law_measured) .none kv14 dc14 pm14 an14 cd14 ct14), sl14⟩) (c14 : PySem.W.codeIn K cd14 "_law_measured" = true) (k14 : PySem.W.keepIn K (.ref f14) = true)
    (a15 : PySem.W.nsIn K mainGlobals "law" = some (some (.ref f15))) (l15 : K.lookup f15 = some ⟨oc15, od15, .func (PySem.W.fnOf "law" "law" (defArgs s_law) (defBody s_law) (defScope s_law) .none kv15 dc15 pm15 an15 cd15 ct15), sl15⟩) (c15 : PySem.W.codeIn K cd15 "law" = true) (k15 : PySem.W.keepIn K (.ref f15) = true)
    {ct0 : Tok} (g0 : PySem.W.nsIn K mainGlobals "FALSE" = some (some (.int 0 ct0)))
    {ct1 : Tok} (g1 : PySem.W.nsIn K mainGlobals "TRUE" = some (some (.int 1 ct1)))
    {xC0 : Addr} (u0_0 : PySem.W.nsIn K mainGlobals "BadArgument" = some (some (.ref xC0))) (u0_1 : PySem.W.excIn K xC0 [.type "ValueError", .type "Exception", .type "BaseException", .type "object"] "ValueError.__new__" = true) (u0_2 : PySem.W.keepIn K (.ref xC0) = true) (u0_3 : PySem.W.subIn K (.ref xC0) (.type "BaseException") = some true) (u0_4 : PySem.W.typeIn K (.ref xC0) = some (.type "type")) (u0_5 : PySem.W.hasDictIn K xC0 = true) (u0_6 : PySem.W.subIn K (.ref xC0) (.ref xC0) = some true)
    {yC0 : Addr} {f0m0 : Addr} {od0m0 an0m0 : Option Addr} {sl0m0 : Array (Option Value)} {oc0m0 kv0m0 dc0m0 pm0m0 cd0m0 ct0m0 : Value} {f0m1 : Addr} {od0m1 an0m1 : Option Addr} {sl0m1 : Array (Option Value)} {oc0m1 kv0m1 dc0m1 pm0m1 cd0m1 ct0m1 : Value} {f0m2 : Addr} {od0m2 an0m2 : Option Addr} {sl0m2 : Array (Option Value)} {oc0m2 kv0m2 dc0m2 pm0m2 cd0m2 ct0m2 : Value} {f0m3 : Addr} {od0m3 an0m3 : Option Addr} {sl0m3 : Array (Option Value)} {oc0m3 kv0m3 dc0m3 pm0m3 cd0m3 ct0m3 : Value} {f0m4 : Addr} {od0m4 an0m4 : Option Addr} {sl0m4 : Array (Option Value)} {oc0m4 kv0m4 dc0m4 pm0m4 cd0m4 ct0m4 : Value} {f0m5 : Addr} {od0m5 an0m5 : Option Addr} {sl0m5 : Array (Option Value)} {oc0m5 kv0m5 dc0m5 pm0m5 cd0m5 ct0m5 : Value} {f0m6 : Addr} {od0m6 an0m6 : Option Addr} {sl0m6 : Array (Option Value)} {oc0m6 kv0m6 dc0m6 pm0m6 cd0m6 ct0m6 : Value} {f0m7 : Addr} {od0m7 an0m7 : Option Addr} {sl0m7 : Array (Option Value)} {oc0m7 kv0m7 dc0m7 pm0m7 cd0m7 ct0m7 : Value} {f0m8 : Addr} {od0m8 an0m8 : Option Addr} {sl0m8 : Array (Option Value)} {oc0m8 kv0m8 dc0m8 pm0m8 cd0m8 ct0m8 : Value} {f0m9 : Addr} {od0m9 an0m9 : Option Addr} {sl0m9 : Array (Option Value)} {oc0m9 kv0m9 dc0m9 pm0m9 cd0m9 ct0m9 : Value} {f0m10 : Addr} {od0m10 an0m10 : Option Addr} {sl0m10 : Array (Option Value)} {oc0m10 kv0m10 dc0m10 pm0m10 cd0m10 ct0m10 : Value} {f0m11 : Addr} {od0m11 an0m11 : Option Addr} {sl0m11 : Array (Option Value)} {oc0m11 kv0m11 dc0m11 pm0m11 cd0m11 ct0m11 : Value} {f0m12 : Addr} {od0m12 an0m12 : Option Addr} {sl0m12 : Array (Option Value)} {oc0m12 kv0m12 dc0m12 pm0m12 cd0m12 ct0m12 : Value} {f0m13 : Addr} {od0m13 an0m13 : Option Addr} {sl0m13 : Array (Option Value)} {oc0m13 kv0m13 dc0m13 pm0m13 cd0m13 ct0m13 : Value} {f0m14 : Addr} {od0m14 an0m14 : Option Addr} {sl0m14 : Array (Option Value)} {oc0m14 kv0m14 dc0m14 pm0m14 cd0m14 ct0m14 : Value} {f0m15 : Addr} {od0m15 an0m15 : Option Addr} {sl0m15 : Array (Option Value)} {oc0m15 kv0m15 dc0m15 pm0m15 cd0m15 ct0m15 : Value} {f0m16 : Addr} {od0m16 an0m16 : Option Addr} {sl0m16 : Array (Option Value)} {oc0m16 kv0m16 dc0m16 pm0m16 cd0m16 ct0m16 : Value} {f0m17 : Addr} {od0m17 an0m17 : Option Addr} {sl0m17 : Array (Option Value)} {oc0m17 kv0m17 dc0m17 pm0m17 cd0m17 ct0m17 : Value} {f0m18 : Addr} {od0m18 an0m18 : Option Addr} {sl0m18 : Array (Option Value)} {oc0m18 kv0m18 dc0m18 pm0m18 cd0m18 ct0m18 : Value}
    (y0_0 : PySem.W.nsIn K mainGlobals "Diagrams" = some (some (.ref yC0))) (y0_4 : PySem.W.findIn K (.ref yC0) "__setattr__" = some (some (.builtin "object.__setattr__"))) (y0_10 : PySem.W.findIn K (.ref yC0) "__init__" = some (some (.ref f0m0))) (y0_15 : PySem.W.findIn K (.ref yC0) "variable" = some (some (.ref f0m1))) (y0_20 : PySem.W.findIn K (.ref yC0) "negate" = some (some (.ref f0m2))) (y0_25 : PySem.W.findIn K (.ref yC0) "both" = some (some (.ref f0m3))) (y0_30 : PySem.W.findIn K (.ref yC0) "either" = some (some (.ref f0m4))) (y0_35 : PySem.W.findIn K (.ref yC0) "choose" = some (some (.ref f0m5))) (y0_40 : PySem.W.findIn K (.ref yC0) "all_of" = some (some (.ref f0m6))) (y0_45 : PySem.W.findIn K (.ref yC0) "any_of" = some (some (.ref f0m7))) (y0_50 : PySem.W.findIn K (.ref yC0) "applied" = some (some (.ref f0m8))) (y0_55 : PySem.W.findIn K (.ref yC0) "fix" = some (some (.ref f0m9))) (y0_60 : PySem.W.findIn K (.ref yC0) "value" = some (some (.ref f0m10))) (y0_65 : PySem.W.findIn K (.ref yC0) "support" = some (some (.ref f0m11))) (y0_70 : PySem.W.findIn K (.ref yC0) "count" = some (some (.ref f0m12))) (y0_75 : PySem.W.findIn K (.ref yC0) "least" = some (some (.ref f0m13))) (y0_80 : PySem.W.findIn K (.ref yC0) "_node" = some (some (.ref f0m14))) (y0_85 : PySem.W.findIn K (.ref yC0) "_half" = some (some (.ref f0m15))) (y0_90 : PySem.W.findIn K (.ref yC0) "_known_choice" = some (some (.ref f0m16))) (y0_95 : PySem.W.findIn K (.ref yC0) "_level" = some (some (.ref f0m17))) (y0_100 : PySem.W.findIn K (.ref yC0) "_below" = some (some (.ref f0m18))) (y0_102 : PySem.W.findIn K (.ref yC0) "_nodes" = some none) (y0_103 : PySem.W.findIn K (.ref yC0) "_places" = some none) (y0_104 : PySem.W.findIn K (.ref yC0) "_chosen" = some none) (y0_1 : PySem.W.plainGet K yC0 Str.empty = true) (y0_2 : PySem.W.hasDictIn K yC0 = true) (y0_3 : PySem.W.plainOver K yC0 = true) (y0_5 : PySem.W.makesIn K yC0 = true) (y0_6 : PySem.W.keepIn K (.ref yC0) = true) (y0_7 : K.lookup f0m0 = some ⟨oc0m0, od0m0, .func (PySem.W.fnOf "__init__" "Diagrams.__init__" (defArgs s_Diagrams_init) (defBody s_Diagrams_init) (defScope s_Diagrams_init) .none kv0m0 dc0m0 pm0m0 an0m0 cd0m0 ct0m0), sl0m0⟩) (y0_8 : PySem.W.codeIn K cd0m0 "Diagrams.__init__" = true) (y0_9 : PySem.W.keepIn K (.ref f0m0) = true) (y0_11 : PySem.W.isFn K (.ref f0m0) = true) (y0_12 : K.lookup f0m1 = some ⟨oc0m1, od0m1, .func (PySem.W.fnOf "variable" "Diagrams.variable" (defArgs s_Diagrams_variable) (defBody s_Diagrams_variable) (defScope s_Diagrams_variable) .none kv0m1 dc0m1 pm0m1 an0m1 cd0m1 ct0m1), sl0m1⟩) (y0_13 : PySem.W.codeIn K cd0m1 "Diagrams.variable" = true) (y0_14 : PySem.W.keepIn K (.ref f0m1) = true) (y0_16 : PySem.W.isFn K (.ref f0m1) = true) (y0_17 : K.lookup f0m2 = some ⟨oc0m2, od0m2, .func (PySem.W.fnOf "negate" "Diagrams.negate" (defArgs s_Diagrams_negate) (defBody s_Diagrams_negate) (defScope s_Diagrams_negate) .none kv0m2 dc0m2 pm0m2 an0m2 cd0m2 ct0m2), sl0m2⟩) (y0_18 : PySem.W.codeIn K cd0m2 "Diagrams.negate" = true) (y0_19 : PySem.W.keepIn K (.ref f0m2) = true) (y0_21 : PySem.W.isFn K (.ref f0m2) = true) (y0_22 : K.lookup f0m3 = some ⟨oc0m3, od0m3, .func (PySem.W.fnOf "both" "Diagrams.both" (defArgs s_Diagrams_both) (defBody s_Diagrams_both) (defScope s_Diagrams_both) .none kv0m3 dc0m3 pm0m3 an0m3 cd0m3 ct0m3), sl0m3⟩) (y0_23 : PySem.W.codeIn K cd0m3 "Diagrams.both" = true) (y0_24 : PySem.W.keepIn K (.ref f0m3) = true) (y0_26 : PySem.W.isFn K (.ref f0m3) = true) (y0_27 : K.lookup f0m4 = some ⟨oc0m4, od0m4, .func (PySem.W.fnOf "either" "Diagrams.either" (defArgs s_Diagrams_either) (defBody s_Diagrams_either) (defScope s_Diagrams_either) .none kv0m4 dc0m4 pm0m4 an0m4 cd0m4 ct0m4), sl0m4⟩) (y0_28 : PySem.W.codeIn K cd0m4 "Diagrams.either" = true) (y0_29 : PySem.W.keepIn K (.ref f0m4) = true) (y0_31 : PySem.W.isFn K (.ref f0m4) = true) (y0_32 : K.lookup f0m5 = some ⟨oc0m5, od0m5, .func (PySem.W.fnOf "choose" "Diagrams.choose" (defArgs s_Diagrams_choose) (defBody s_Diagrams_choose) (defScope s_Diagrams_choose) .none kv0m5 dc0m5 pm0m5 an0m5 cd0m5 ct0m5), sl0m5⟩) (y0_33 : PySem.W.codeIn K cd0m5 "Diagrams.choose" = true) (y0_34 : PySem.W.keepIn K (.ref f0m5) = true) (y0_36 : PySem.W.isFn K (.ref f0m5) = true) (y0_37 : K.lookup f0m6 = some ⟨oc0m6, od0m6, .func (PySem.W.fnOf "all_of" "Diagrams.all_of" (defArgs s_Diagrams_all_of) (defBody s_Diagrams_all_of) (defScope s_Diagrams_all_of) .none kv0m6 dc0m6 pm0m6 an0m6 cd0m6 ct0m6), sl0m6⟩) (y0_38 : PySem.W.codeIn K cd0m6 "Diagrams.all_of" = true) (y0_39 : PySem.W.keepIn K (.ref f0m6) = true) (y0_41 : PySem.W.isFn K (.ref f0m6) = true) (y0_42 : K.lookup f0m7 = some ⟨oc0m7, od0m7, .func (PySem.W.fnOf "any_of" "Diagrams.any_of" (defArgs s_Diagrams_any_of) (defBody s_Diagrams_any_of) (defScope s_Diagrams_any_of) .none kv0m7 dc0m7 pm0m7 an0m7 cd0m7 ct0m7), sl0m7⟩) (y0_43 : PySem.W.codeIn K cd0m7 "Diagrams.any_of" = true) (y0_44 : PySem.W.keepIn K (.ref f0m7) = true) (y0_46 : PySem.W.isFn K (.ref f0m7) = true) (y0_47 : K.lookup f0m8 = some ⟨oc0m8, od0m8, .func (PySem.W.fnOf "applied" "Diagrams.applied" (defArgs s_Diagrams_applied) (defBody s_Diagrams_applied) (defScope s_Diagrams_applied) .none kv0m8 dc0m8 pm0m8 an0m8 cd0m8 ct0m8), sl0m8⟩) (y0_48 : PySem.W.codeIn K cd0m8 "Diagrams.applied" = true) (y0_49 : PySem.W.keepIn K (.ref f0m8) = true) (y0_51 : PySem.W.isFn K (.ref f0m8) = true) (y0_52 : K.lookup f0m9 = some ⟨oc0m9, od0m9, .func (PySem.W.fnOf "fix" "Diagrams.fix" (defArgs s_Diagrams_fix) (defBody s_Diagrams_fix) (defScope s_Diagrams_fix) .none kv0m9 dc0m9 pm0m9 an0m9 cd0m9 ct0m9), sl0m9⟩) (y0_53 : PySem.W.codeIn K cd0m9 "Diagrams.fix" = true) (y0_54 : PySem.W.keepIn K (.ref f0m9) = true) (y0_56 : PySem.W.isFn K (.ref f0m9) = true) (y0_57 : K.lookup f0m10 = some ⟨oc0m10, od0m10, .func (PySem.W.fnOf "value" "Diagrams.value" (defArgs s_Diagrams_value) (defBody s_Diagrams_value) (defScope s_Diagrams_value) .none kv0m10 dc0m10 pm0m10 an0m10 cd0m10 ct0m10), sl0m10⟩) (y0_58 : PySem.W.codeIn K cd0m10 "Diagrams.value" = true) (y0_59 : PySem.W.keepIn K (.ref f0m10) = true) (y0_61 : PySem.W.isFn K (.ref f0m10) = true) (y0_62 : K.lookup f0m11 = some ⟨oc0m11, od0m11, .func (PySem.W.fnOf "support" "Diagrams.support" (defArgs s_Diagrams_support) (defBody s_Diagrams_support) (defScope s_Diagrams_support) .none kv0m11 dc0m11 pm0m11 an0m11 cd0m11 ct0m11), sl0m11⟩) (y0_63 : PySem.W.codeIn K cd0m11 "Diagrams.support" = true) (y0_64 : PySem.W.keepIn K (.ref f0m11) = true) (y0_66 : PySem.W.isFn K (.ref f0m11) = true) (y0_67 : K.lookup f0m12 = some ⟨oc0m12, od0m12, .func (PySem.W.fnOf "count" "Diagrams.count" (defArgs s_Diagrams_count) (defBody s_Diagrams_count) (defScope s_Diagrams_count) .none kv0m12 dc0m12 pm0m12 an0m12 cd0m12 ct0m12), sl0m12⟩) (y0_68 : PySem.W.codeIn K cd0m12 "Diagrams.count" = true) (y0_69 : PySem.W.keepIn K (.ref f0m12) = true) (y0_71 : PySem.W.isFn K (.ref f0m12) = true) (y0_72 : K.lookup f0m13 = some ⟨oc0m13, od0m13, .func (PySem.W.fnOf "least" "Diagrams.least" (defArgs s_Diagrams_least) (defBody s_Diagrams_least) (defScope s_Diagrams_least) .none kv0m13 dc0m13 pm0m13 an0m13 cd0m13 ct0m13), sl0m13⟩) (y0_73 : PySem.W.codeIn K cd0m13 "Diagrams.least" = true) (y0_74 : PySem.W.keepIn K (.ref f0m13) = true) (y0_76 : PySem.W.isFn K (.ref f0m13) = true) (y0_77 : K.lookup f0m14 = some ⟨oc0m14, od0m14, .func (PySem.W.fnOf "_node" "Diagrams._node" (defArgs s_Diagrams_node) (defBody s_Diagrams_node) (defScope s_Diagrams_node) .none kv0m14 dc0m14 pm0m14 an0m14 cd0m14 ct0m14), sl0m14⟩) (y0_78 : PySem.W.codeIn K cd0m14 "Diagrams._node" = true) (y0_79 : PySem.W.keepIn K (.ref f0m14) = true) (y0_81 : PySem.W.isFn K (.ref f0m14) = true) (y0_82 : K.lookup f0m15 = some ⟨oc0m15, od0m15, .func (PySem.W.fnOf "_half" "Diagrams._half" (defArgs s_Diagrams_half) (defBody s_Diagrams_half) (defScope s_Diagrams_half) .none kv0m15 dc0m15 pm0m15 an0m15 cd0m15 ct0m15), sl0m15⟩) (y0_83 : PySem.W.codeIn K cd0m15 "Diagrams._half" = true) (y0_84 : PySem.W.keepIn K (.ref f0m15) = true) (y0_86 : PySem.W.isFn K (.ref f0m15) = true) (y0_87 : K.lookup f0m16 = some ⟨oc0m16, od0m16, .func (PySem.W.fnOf "_known_choice" "Diagrams._known_choice" (defArgs s_Diagrams_known_choice) (defBody s_Diagrams_known_choice) (defScope s_Diagrams_known_choice) .none kv0m16 dc0m16 pm0m16 an0m16 cd0m16 ct0m16), sl0m16⟩) (y0_88 : PySem.W.codeIn K cd0m16 "Diagrams._known_choice" = true) (y0_89 : PySem.W.keepIn K (.ref f0m16) = true) (y0_91 : PySem.W.isFn K (.ref f0m16) = true) (y0_92 : K.lookup f0m17 = some ⟨oc0m17, od0m17, .func (PySem.W.fnOf "_level" "Diagrams._level" (defArgs s_Diagrams_level) (defBody s_Diagrams_level) (defScope s_Diagrams_level) .none kv0m17 dc0m17 pm0m17 an0m17 cd0m17 ct0m17), sl0m17⟩) (y0_93 : PySem.W.codeIn K cd0m17 "Diagrams._level" = true) (y0_94 : PySem.W.keepIn K (.ref f0m17) = true) (y0_96 : PySem.W.isFn K (.ref f0m17) = true) (y0_97 : K.lookup f0m18 = some ⟨oc0m18, od0m18, .func (PySem.W.fnOf "_below" "Diagrams._below" (defArgs s_Diagrams_below) (defBody s_Diagrams_below) (defScope s_Diagrams_below) .none kv0m18 dc0m18 pm0m18 an0m18 cd0m18 ct0m18), sl0m18⟩) (y0_98 : PySem.W.codeIn K cd0m18 "Diagrams._below" = true) (y0_99 : PySem.W.keepIn K (.ref f0m18) = true) (y0_101 : PySem.W.isFn K (.ref f0m18) = true)
    (z0 : PySem.W.nsIn K mainGlobals "min" = some none) (z1 : PySem.W.nsIn K mainGlobals "max" = some none) (z2 : PySem.W.nsIn K mainGlobals "tuple" = some none) (z3 : PySem.W.nsIn K mainGlobals "list" = some none) (z4 : PySem.W.nsIn K mainGlobals "len" = some none) (z5 : PySem.W.nsIn K mainGlobals "range" = some none) (z6 : PySem.W.nsIn K mainGlobals "sorted" = some none) (z7 : PySem.W.nsIn K mainGlobals "sum" = some none) (z8 : PySem.W.nsIn K mainGlobals "set" = some none) (z9 : PySem.W.nsIn K mainGlobals "int" = some none) (z10 : PySem.W.nsIn K mainGlobals "isinstance" = some none) (z11 : PySem.W.nsIn K mainGlobals "bool" = some none) (z12 : PySem.W.nsIn K mainGlobals "str" = some none) (z13 : PySem.W.nsIn K mainGlobals "ValueError" = some none) :
    ∃ fd : FuncData, (∀ (s : Shared) (v : Value), BindsTo s fd ⟨[v], []⟩ [("script", v)]) ∧ ∀ base : Heap, K.In base → base.Ns mainGlobals mg → FnOk l.prog w K mg base CX0 11 fa fd ["script"] (spLaw K) := by
  have e := hfa.symm.trans (PySem.W.mg_of X G a15)
  cases e
  have F0 := fun_mk (st := s_law_pool) l0 c0 k0
  have F1 := fun_mk (st := s_law_spread) l1 c1 k1
  have F2 := fun_mk (st := s_law_draw) l2 c2 k2
  have F3 := fun_mk (st := s_law_same) l3 c3 k3
  have F4 := fun_mk (st := s_law_bits) l4 c4 k4
  have F5 := fun_mk (st := s_law_table) l5 c5 k5
  have F6 := fun_mk (st := s_law_function) l6 c6 k6
  have F7 := fun_mk (st := s_law_worth) l7 c7 k7
  have F8 := fun_mk (st := s_law_refer) l8 c8 k8
  have F9 := fun_mk (st := s_law_column) l9 c9 k9
  have F10 := fun_mk (st := s_law_of_column) l10 c10 k10
  have F11 := fun_mk (st := s_law_matters) l11 c11 k11
  have F12 := fun_mk (st := s_law_fixed) l12 c12 k12
  have F13 := fun_mk (st := s_law_first) l13 c13 k13
  have F14 := fun_mk (st := s_law_measured) l14 c14 k14
  have F15 := fun_mk (st := s_law) l15 c15 k15
  have A : All K mg := ⟨⟨f0, _, F0, PySem.W.mg_of X G a0, F0.binds (ps := ["script"]) fun _ _ _ _ _ _ us hl => match us, hl with | [_], _ => rfl⟩,
    ⟨f1, _, F1, PySem.W.mg_of X G a1, F1.binds (ps := ["cell"]) fun _ _ _ _ _ _ us hl => match us, hl with | [_], _ => rfl⟩,
    ⟨f2, _, F2, PySem.W.mg_of X G a2, F2.binds (ps := ["pool", "many"]) fun _ _ _ _ _ _ us hl => match us, hl with | [_, _], _ => rfl⟩,
    ⟨f3, _, F3, PySem.W.mg_of X G a3, F3.binds (ps := ["actual", "due"]) fun _ _ _ _ _ _ us hl => match us, hl with | [_, _], _ => rfl⟩,
    ⟨f4, _, F4, PySem.W.mg_of X G a4, F4.binds (ps := ["index", "many"]) fun _ _ _ _ _ _ us hl => match us, hl with | [_, _], _ => rfl⟩,
    ⟨f5, _, F5, PySem.W.mg_of X G a5, F5.binds (ps := ["pool", "many"]) fun _ _ _ _ _ _ us hl => match us, hl with | [_, _], _ => rfl⟩,
    ⟨f6, _, F6, PySem.W.mg_of X G a6, F6.binds (ps := ["pool", "depth"]) fun _ _ _ _ _ _ us hl => match us, hl with | [_, _], _ => rfl⟩,
    ⟨f7, _, F7, PySem.W.mg_of X G a7, F7.binds (ps := ["made", "bits"]) fun _ _ _ _ _ _ us hl => match us, hl with | [_, _], _ => rfl⟩,
    ⟨f8, _, F8, PySem.W.mg_of X G a8, F8.binds (ps := ["diagrams", "made", "gaps"]) fun _ _ _ _ _ _ us hl => match us, hl with | [_, _, _], _ => rfl⟩,
    ⟨f9, _, F9, PySem.W.mg_of X G a9, F9.binds (ps := ["made"]) fun _ _ _ _ _ _ us hl => match us, hl with | [_], _ => rfl⟩,
    ⟨f10, _, F10, PySem.W.mg_of X G a10, F10.binds (ps := ["diagrams", "column"]) fun _ _ _ _ _ _ us hl => match us, hl with | [_, _], _ => rfl⟩,
    ⟨f11, _, F11, PySem.W.mg_of X G a11, F11.binds (ps := ["column", "k"]) fun _ _ _ _ _ _ us hl => match us, hl with | [_, _], _ => rfl⟩,
    ⟨f12, _, F12, PySem.W.mg_of X G a12, F12.binds (ps := ["column", "k", "value"]) fun _ _ _ _ _ _ us hl => match us, hl with | [_, _, _], _ => rfl⟩,
    ⟨f13, _, F13, PySem.W.mg_of X G a13, F13.binds (ps := ["column", "many"]) fun _ _ _ _ _ _ us hl => match us, hl with | [_, _], _ => rfl⟩,
    ⟨f14, _, F14, PySem.W.mg_of X G a14, F14.binds (ps := ["pool", "diagrams", "made", "a"]) fun _ _ _ _ _ _ us hl => match us, hl with | [_, _, _, _], _ => rfl⟩,
    PySem.W.mg_none_of X G z0,
    PySem.W.mg_none_of X G z1,
    PySem.W.mg_none_of X G z2,
    PySem.W.mg_none_of X G z3,
    PySem.W.mg_none_of X G z4,
    PySem.W.mg_none_of X G z5,
    PySem.W.mg_none_of X G z6,
    PySem.W.mg_none_of X G z7,
    PySem.W.mg_none_of X G z8,
    PySem.W.mg_none_of X G z9,
    PySem.W.mg_none_of X G z10,
    PySem.W.mg_none_of X G z11,
    PySem.W.mg_none_of X G z12,
    PySem.W.mg_none_of X G z13,
    ⟨_, PySem.W.mg_of X G g0⟩,
    ⟨_, PySem.W.mg_of X G g1⟩,
    ⟨yC0, ⟨PySem.W.mg_of X G y0_0, ⟨y0_1, y0_2, y0_3, y0_4⟩, ⟨f0m0, _, ⟨y0_5, y0_10, y0_11, y0_6⟩, (fun_mk (st := s_Diagrams_init) y0_7 y0_8 y0_9), (fun_mk (st := s_Diagrams_init) y0_7 y0_8 y0_9).binds (ps := ["self"]) fun _ _ _ _ _ _ us hl => match us, hl with | [_], _ => rfl⟩, ⟨f0m1, _, ⟨y0_15, y0_16, y0_14⟩, (fun_mk (st := s_Diagrams_variable) y0_12 y0_13 y0_14), (fun_mk (st := s_Diagrams_variable) y0_12 y0_13 y0_14).binds (ps := ["self", "k"]) fun _ _ _ _ _ _ us hl => match us, hl with | [_, _], _ => rfl⟩, ⟨f0m2, _, ⟨y0_20, y0_21, y0_19⟩, (fun_mk (st := s_Diagrams_negate) y0_17 y0_18 y0_19), (fun_mk (st := s_Diagrams_negate) y0_17 y0_18 y0_19).binds (ps := ["self", "a"]) fun _ _ _ _ _ _ us hl => match us, hl with | [_, _], _ => rfl⟩, ⟨f0m3, _, ⟨y0_25, y0_26, y0_24⟩, (fun_mk (st := s_Diagrams_both) y0_22 y0_23 y0_24), (fun_mk (st := s_Diagrams_both) y0_22 y0_23 y0_24).binds (ps := ["self", "a", "b"]) fun _ _ _ _ _ _ us hl => match us, hl with | [_, _, _], _ => rfl⟩, ⟨f0m4, _, ⟨y0_30, y0_31, y0_29⟩, (fun_mk (st := s_Diagrams_either) y0_27 y0_28 y0_29), (fun_mk (st := s_Diagrams_either) y0_27 y0_28 y0_29).binds (ps := ["self", "a", "b"]) fun _ _ _ _ _ _ us hl => match us, hl with | [_, _, _], _ => rfl⟩, ⟨f0m5, _, ⟨y0_35, y0_36, y0_34⟩, (fun_mk (st := s_Diagrams_choose) y0_32 y0_33 y0_34), (fun_mk (st := s_Diagrams_choose) y0_32 y0_33 y0_34).binds (ps := ["self", "c", "a", "b"]) fun _ _ _ _ _ _ us hl => match us, hl with | [_, _, _, _], _ => rfl⟩, ⟨f0m6, _, ⟨y0_40, y0_41, y0_39⟩, (fun_mk (st := s_Diagrams_all_of) y0_37 y0_38 y0_39), (fun_mk (st := s_Diagrams_all_of) y0_37 y0_38 y0_39).binds (ps := ["self", "references"]) fun _ _ _ _ _ _ us hl => match us, hl with | [_, _], _ => rfl⟩, ⟨f0m7, _, ⟨y0_45, y0_46, y0_44⟩, (fun_mk (st := s_Diagrams_any_of) y0_42 y0_43 y0_44), (fun_mk (st := s_Diagrams_any_of) y0_42 y0_43 y0_44).binds (ps := ["self", "references"]) fun _ _ _ _ _ _ us hl => match us, hl with | [_, _], _ => rfl⟩, ⟨f0m8, _, ⟨y0_50, y0_51, y0_49⟩, (fun_mk (st := s_Diagrams_applied) y0_47 y0_48 y0_49), (fun_mk (st := s_Diagrams_applied) y0_47 y0_48 y0_49).binds (ps := ["self", "table", "references"]) fun _ _ _ _ _ _ us hl => match us, hl with | [_, _, _], _ => rfl⟩, ⟨f0m9, _, ⟨y0_55, y0_56, y0_54⟩, (fun_mk (st := s_Diagrams_fix) y0_52 y0_53 y0_54), (fun_mk (st := s_Diagrams_fix) y0_52 y0_53 y0_54).binds (ps := ["self", "a", "k", "value"]) fun _ _ _ _ _ _ us hl => match us, hl with | [_, _, _, _], _ => rfl⟩, ⟨f0m10, _, ⟨y0_60, y0_61, y0_59⟩, (fun_mk (st := s_Diagrams_value) y0_57 y0_58 y0_59), (fun_mk (st := s_Diagrams_value) y0_57 y0_58 y0_59).binds (ps := ["self", "a", "bits"]) fun _ _ _ _ _ _ us hl => match us, hl with | [_, _, _], _ => rfl⟩, ⟨f0m11, _, ⟨y0_65, y0_66, y0_64⟩, (fun_mk (st := s_Diagrams_support) y0_62 y0_63 y0_64), (fun_mk (st := s_Diagrams_support) y0_62 y0_63 y0_64).binds (ps := ["self", "a"]) fun _ _ _ _ _ _ us hl => match us, hl with | [_, _], _ => rfl⟩, ⟨f0m12, _, ⟨y0_70, y0_71, y0_69⟩, (fun_mk (st := s_Diagrams_count) y0_67 y0_68 y0_69), (fun_mk (st := s_Diagrams_count) y0_67 y0_68 y0_69).binds (ps := ["self", "a", "many"]) fun _ _ _ _ _ _ us hl => match us, hl with | [_, _, _], _ => rfl⟩, ⟨f0m13, _, ⟨y0_75, y0_76, y0_74⟩, (fun_mk (st := s_Diagrams_least) y0_72 y0_73 y0_74), (fun_mk (st := s_Diagrams_least) y0_72 y0_73 y0_74).binds (ps := ["self", "a", "many"]) fun _ _ _ _ _ _ us hl => match us, hl with | [_, _, _], _ => rfl⟩, ⟨f0m14, _, ⟨y0_80, y0_81, y0_79⟩, (fun_mk (st := s_Diagrams_node) y0_77 y0_78 y0_79), (fun_mk (st := s_Diagrams_node) y0_77 y0_78 y0_79).binds (ps := ["self", "k", "low", "high"]) fun _ _ _ _ _ _ us hl => match us, hl with | [_, _, _, _], _ => rfl⟩, ⟨f0m15, _, ⟨y0_85, y0_86, y0_84⟩, (fun_mk (st := s_Diagrams_half) y0_82 y0_83 y0_84), (fun_mk (st := s_Diagrams_half) y0_82 y0_83 y0_84).binds (ps := ["self", "a", "k", "value"]) fun _ _ _ _ _ _ us hl => match us, hl with | [_, _, _, _], _ => rfl⟩, ⟨f0m16, _, ⟨y0_90, y0_91, y0_89⟩, (fun_mk (st := s_Diagrams_known_choice) y0_87 y0_88 y0_89), (fun_mk (st := s_Diagrams_known_choice) y0_87 y0_88 y0_89).binds (ps := ["self", "task"]) fun _ _ _ _ _ _ us hl => match us, hl with | [_, _], _ => rfl⟩, ⟨f0m17, _, ⟨y0_95, y0_96, y0_94⟩, (fun_mk (st := s_Diagrams_level) y0_92 y0_93 y0_94), (fun_mk (st := s_Diagrams_level) y0_92 y0_93 y0_94).binds (ps := ["self", "a", "many"]) fun _ _ _ _ _ _ us hl => match us, hl with | [_, _, _], _ => rfl⟩, ⟨f0m18, _, ⟨y0_100, y0_101, y0_99⟩, (fun_mk (st := s_Diagrams_below) y0_97 y0_98 y0_99), (fun_mk (st := s_Diagrams_below) y0_97 y0_98 y0_99).binds (ps := ["self", "a"]) fun _ _ _ _ _ _ us hl => match us, hl with | [_, _], _ => rfl⟩, y0_102, y0_103, y0_104⟩⟩,
    ⟨xC0, ⟨⟨PySem.W.mg_of X G u0_0, u0_1, u0_2, u0_3, u0_4⟩, u0_5, u0_6⟩⟩⟩
  exact ⟨_, fun s v => .of_eq rfl, fun base _ _ => glue A F15⟩
end G
open PySem PySem.W PyProof.Rows
set_option maxRecDepth 100000 in
set_option maxHeartbeats 0 in
theorem PySem.Challenge.cw_signoff_k15_diagrams_measured_holds : PySem.Challenge.rw_signoff_k15_diagrams_measured.Holds := by
  w_on; o_law; k_head; (case hw => w_witness2)
  k_fill
  refine L2.walk_of (l := PySem.Challenge.rw_signoff_k15_diagrams_measured) (n := 63) (k := 11) (x := "script") (CX := fun _ => L2.CX0) (sp := fun w => G.spLaw _) rfl (by decide) rfl ⟨rfl, by decide, by decide⟩ (fun w h Y => PySem.W.kIn_of Y) ?F (fun _ _ a ns hl _ hS => ⟨a, ns, rfl, hS, hl, fun _ => rfl⟩) (fun _ _ _ _ _ h => h)
  case F =>
    intro w mg fa h KX GN hmg
    refine' G.all_mk KX GN hmg ?a0 ?l0 ?c0 ?k0 ?a1 ?l1 ?c1 ?k1 ?a2 ?l2 ?c2 ?k2 ?a3 ?l3 ?c3 ?k3 ?a4 ?l4 ?c4 ?k4 ?a5 ?l5 ?c5 ?k5 ?a6 ?l6 ?c6 ?k6 ?a7 ?l7 ?c7 ?k7 ?a8 ?l8 ?c8 ?k8 ?a9 ?l9 ?c9 ?k9 ?a10 ?l10 ?c10 ?k10 ?a11 ?l11 ?c11 ?k11 ?a12 ?l12 ?c12 ?k12 ?a13 ?l13 ?c13 ?k13 ?a14 ?l14 ?c14 ?k14 ?a15 ?l15 ?c15 ?k15 ?cg0 ?cg1 ?xu0_0 ?xu0_1 ?xu0_2 ?xu0_3 ?xu0_4 ?xu0_5 ?xu0_6 ?vy0_0 ?vy0_4 ?vy0_10 ?vy0_15 ?vy0_20 ?vy0_25 ?vy0_30 ?vy0_35 ?vy0_40 ?vy0_45 ?vy0_50 ?vy0_55 ?vy0_60 ?vy0_65 ?vy0_70 ?vy0_75 ?vy0_80 ?vy0_85 ?vy0_90 ?vy0_95 ?vy0_100 ?vy0_102 ?vy0_103 ?vy0_104 ?vy0_1 ?vy0_2 ?vy0_3 ?vy0_5 ?vy0_6 ?vy0_7 ?vy0_8 ?vy0_9 ?vy0_11 ?vy0_12 ?vy0_13 ?vy0_14 ?vy0_16 ?vy0_17 ?vy0_18 ?vy0_19 ?vy0_21 ?vy0_22 ?vy0_23 ?vy0_24 ?vy0_26 ?vy0_27 ?vy0_28 ?vy0_29 ?vy0_31 ?vy0_32 ?vy0_33 ?vy0_34 ?vy0_36 ?vy0_37 ?vy0_38 ?vy0_39 ?vy0_41 ?vy0_42 ?vy0_43 ?vy0_44 ?vy0_46 ?vy0_47 ?vy0_48 ?vy0_49 ?vy0_51 ?vy0_52 ?vy0_53 ?vy0_54 ?vy0_56 ?vy0_57 ?vy0_58 ?vy0_59 ?vy0_61 ?vy0_62 ?vy0_63 ?vy0_64 ?vy0_66 ?vy0_67 ?vy0_68 ?vy0_69 ?vy0_71 ?vy0_72 ?vy0_73 ?vy0_74 ?vy0_76 ?vy0_77 ?vy0_78 ?vy0_79 ?vy0_81 ?vy0_82 ?vy0_83 ?vy0_84 ?vy0_86 ?vy0_87 ?vy0_88 ?vy0_89 ?vy0_91 ?vy0_92 ?vy0_93 ?vy0_94 ?vy0_96 ?vy0_97 ?vy0_98 ?vy0_99 ?vy0_101 ?z0 ?z1 ?z2 ?z3 ?z4 ?z5 ?z6 ?z7 ?z8 ?z9 ?z10 ?z11 ?z12 ?z13
    (case a0 => k_is)
    (case l0 => k_is)
    (case c0 => k_is)
    (case k0 => k_is)
    (case a1 => k_is)
    (case l1 => k_is)
    (case c1 => k_is)
    (case k1 => k_is)
    (case a2 => k_is)
    (case l2 => k_is)
    (case c2 => k_is)
    (case k2 => k_is)
    (case a3 => k_is)
    (case l3 => k_is)
    (case c3 => k_is)
    (case k3 => k_is)
    (case a4 => k_is)
    (case l4 => k_is)
    (case c4 => k_is)
    (case k4 => k_is)
    (case a5 => k_is)
    (case l5 => k_is)
    (case c5 => k_is)
    (case k5 => k_is)
    (case a6 => k_is)
    (case l6 => k_is)
    (case c6 => k_is)
    (case k6 => k_is)
    (case a7 => k_is)
    (case l7 => k_is)
    (case c7 => k_is)
    (case k7 => k_is)
    (case a8 => k_is)
    (case l8 => k_is)
    (case c8 => k_is)
    (case k8 => k_is)
    (case a9 => k_is)
    (case l9 => k_is)
    (case c9 => k_is)
    (case k9 => k_is)
    (case a10 => k_is)
    (case l10 => k_is)
    (case c10 => k_is)
    (case k10 => k_is)
    (case a11 => k_is)
    (case l11 => k_is)
    (case c11 => k_is)
    (case k11 => k_is)
    (case a12 => k_is)
    (case l12 => k_is)
    (case c12 => k_is)
    (case k12 => k_is)
    (case a13 => k_is)
    (case l13 => k_is)
    (case c13 => k_is)
    (case k13 => k_is)
    (case a14 => k_is)
    (case l14 => k_is)
    (case c14 => k_is)
    (case k14 => k_is)
    (case a15 => k_is)
    (case l15 => k_is)
    (case c15 => k_is)
    (case k15 => k_is)
    (case cg0 => k_is)
    (case cg1 => k_is)
    (case xu0_0 => first | k_exc | k_is | rfl)
    (case xu0_1 => first | k_exc | k_is | rfl)
    (case xu0_2 => first | k_exc | k_is | rfl)
    (case xu0_3 => first | k_exc | k_is | rfl)
    (case xu0_4 => first | k_exc | k_is | rfl)
    (case xu0_5 => first | k_exc | k_is | rfl)
    (case xu0_6 => first | k_exc | k_is | rfl)
    (case vy0_0 => k_is)
    (case vy0_4 => k_is)
    (case vy0_10 => k_is)
    (case vy0_15 => k_is)
    (case vy0_20 => k_is)
    (case vy0_25 => k_is)
    (case vy0_30 => k_is)
    (case vy0_35 => k_is)
    (case vy0_40 => k_is)
    (case vy0_45 => k_is)
    (case vy0_50 => k_is)
    (case vy0_55 => k_is)
    (case vy0_60 => k_is)
    (case vy0_65 => k_is)
    (case vy0_70 => k_is)
    (case vy0_75 => k_is)
    (case vy0_80 => k_is)
    (case vy0_85 => k_is)
    (case vy0_90 => k_is)
    (case vy0_95 => k_is)
    (case vy0_100 => k_is)
    (case vy0_102 => k_is)
    (case vy0_103 => k_is)
    (case vy0_104 => k_is)
    (case vy0_1 => k_is)
    (case vy0_2 => k_is)
    (case vy0_3 => k_is)
    (case vy0_5 => k_is)
    (case vy0_6 => k_is)
    (case vy0_7 => k_is)
    (case vy0_8 => k_is)
    (case vy0_9 => k_is)
    (case vy0_11 => k_is)
    (case vy0_12 => k_is)
    (case vy0_13 => k_is)
    (case vy0_14 => k_is)
    (case vy0_16 => k_is)
    (case vy0_17 => k_is)
    (case vy0_18 => k_is)
    (case vy0_19 => k_is)
    (case vy0_21 => k_is)
    (case vy0_22 => k_is)
    (case vy0_23 => k_is)
    (case vy0_24 => k_is)
    (case vy0_26 => k_is)
    (case vy0_27 => k_is)
    (case vy0_28 => k_is)
    (case vy0_29 => k_is)
    (case vy0_31 => k_is)
    (case vy0_32 => k_is)
    (case vy0_33 => k_is)
    (case vy0_34 => k_is)
    (case vy0_36 => k_is)
    (case vy0_37 => k_is)
    (case vy0_38 => k_is)
    (case vy0_39 => k_is)
    (case vy0_41 => k_is)
    (case vy0_42 => k_is)
    (case vy0_43 => k_is)
    (case vy0_44 => k_is)
    (case vy0_46 => k_is)
    (case vy0_47 => k_is)
    (case vy0_48 => k_is)
    (case vy0_49 => k_is)
    (case vy0_51 => k_is)
    (case vy0_52 => k_is)
    (case vy0_53 => k_is)
    (case vy0_54 => k_is)
    (case vy0_56 => k_is)
    (case vy0_57 => k_is)
    (case vy0_58 => k_is)
    (case vy0_59 => k_is)
    (case vy0_61 => k_is)
    (case vy0_62 => k_is)
    (case vy0_63 => k_is)
    (case vy0_64 => k_is)
    (case vy0_66 => k_is)
    (case vy0_67 => k_is)
    (case vy0_68 => k_is)
    (case vy0_69 => k_is)
    (case vy0_71 => k_is)
    (case vy0_72 => k_is)
    (case vy0_73 => k_is)
    (case vy0_74 => k_is)
    (case vy0_76 => k_is)
    (case vy0_77 => k_is)
    (case vy0_78 => k_is)
    (case vy0_79 => k_is)
    (case vy0_81 => k_is)
    (case vy0_82 => k_is)
    (case vy0_83 => k_is)
    (case vy0_84 => k_is)
    (case vy0_86 => k_is)
    (case vy0_87 => k_is)
    (case vy0_88 => k_is)
    (case vy0_89 => k_is)
    (case vy0_91 => k_is)
    (case vy0_92 => k_is)
    (case vy0_93 => k_is)
    (case vy0_94 => k_is)
    (case vy0_96 => k_is)
    (case vy0_97 => k_is)
    (case vy0_98 => k_is)
    (case vy0_99 => k_is)
    (case vy0_101 => k_is)
    (case z0 => k_is)
    (case z1 => k_is)
    (case z2 => k_is)
    (case z3 => k_is)
    (case z4 => k_is)
    (case z5 => k_is)
    (case z6 => k_is)
    (case z7 => k_is)
    (case z8 => k_is)
    (case z9 => k_is)
    (case z10 => k_is)
    (case z11 => k_is)
    (case z12 => k_is)
    (case z13 => k_is)
#print axioms PySem.Challenge.cw_signoff_k15_diagrams_measured_holds
