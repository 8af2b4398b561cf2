import PyProof.Rows.All
import Wide.All
import OpenK.AllK
import Wide.FinOn
import HandS.ForMost
import HandS.Evl
import HandS.Wide
import HandS.WideBits
import HandS.Flow
import HandS.IsInst
import HandS.TupAny
import HandS.Walk
import HandS.Zip
import HandS.Steps
import KE.GoesMore
import KE.GoesEnum
import KE.KEqSeq
import HandS.StrMore
import PyProof.StrLawsFirst
import KE.KUnpackStar
import KE.IntTextLaws
import PyProof.Rows.StrDigitsNeg
import HandS.FStr
import HandS.Style
import HandS.ForExc
import HandS.ExcIs
import HandS.CallSlots
import HandS.Property
import HandS.Small
import KE.GoesComp
import KE.GoesRaise
import PyProof.Rows.StrMul
import KE.IntTextText
import PySem.Challenge.RW_signoff_k87_records_refused
set_option Elab.async false
set_option linter.all false
set_option maxRecDepth 100000
set_option maxHeartbeats 4000000
set_option Elab.async false
set_option linter.all false
set_option maxRecDepth 100000
set_option maxHeartbeats 4000000
namespace G
open PySem PySem.Spec PyProof.Rows L2 Evl
/-! ## defs by name -/
def Dfd (K : PySem.W.Frag) (mg : Str → Option Value) (x : Str) (st : Stmt) (ps : List Str) : Prop := ∃ (f : Addr) (fd : FuncData), Fun K x x st f fd ∧ mg x = some (.ref f) ∧ Binds K fd ps []
def Has (P : Program) (w : World) (K : PySem.W.Frag) (mg : Str → Option Value) (base : Heap) (k : Nat) (x : Str) (ps : List Str) (sp : Sp) : Prop :=
  ∃ (f : Addr) (fd : FuncData), FnOk P w K mg base CX0 k f fd ps sp ∧ mg x = some (.ref f) ∧ PySem.W.keepIn K (.ref f) = true ∧ Binds K fd ps []
section
variable {P : Program} {w : World} {K : PySem.W.Frag} {mg : Str → Option Value} {base : Heap}
theorem Dfd.has {x : Str} {st : Stmt} {ps : List Str} {k : Nat} {sp : Sp} (d : Dfd K mg x st ps) (h : ∀ f fd, Fun K x x st f fd → FnOk P w K mg base CX0 k f fd ps sp) : Has P w K mg base k x ps sp := by
  obtain ⟨f, fd, F, g, b⟩ := d
  exact ⟨f, fd, h f fd F, g, F.kp, b⟩
theorem Has.mono {x : Str} {ps : List Str} {j k : Nat} {sp : Sp} (h : Has P w K mg base j x ps sp) (l : j ≤ k) : Has P w K mg base k x ps sp := by
  obtain ⟨f, fd, F, g⟩ := h
  exact ⟨f, fd, F.mono l, g⟩
theorem Has.imp {x : Str} {ps : List Str} {k : Nat} {sp sp' : Sp} (h : Has P w K mg base k x ps sp) (i : ∀ vs H Q E, sp' vs H Q E → sp vs H Q E) : Has P w K mg base k x ps sp' := by
  obtain ⟨f, fd, F, g⟩ := h
  exact ⟨f, fd, F.imp i, g⟩
end
/-! ## heaps -/
theorem sq_ex {K : PySem.W.Frag} {H H' : Hp} {a : Addr} {xs : List V} (e : Ex H H') (h : SqL K H a xs) : SqL K H' a xs := ex_l e h
/-- the heap without what stands at p -/
def hid (p : Addr) (H : Hp) : Hp := fun b => if b = p then none else H b
theorem hid_self {p : Addr} {H : Hp} : hid p H p = none := by unfold hid; rw [if_pos rfl]
theorem hid_ne {p b : Addr} {H : Hp} (h : b ≠ p) : hid p H b = H b := by unfold hid; rw [if_neg h]
theorem hid_get {p b : Addr} {H : Hp} {o : HO} (h : hid p H b = some o) : H b = some o := by
  by_cases e : b = p
  · subst e; rw [hid_self] at h; cases h
  · rw [hid_ne e] at h; exact h
theorem hid_neq {p b : Addr} {H : Hp} {o : HO} (h : hid p H b = some o) : b ≠ p := by
  intro e; subst e; rw [hid_self] at h; cases h
theorem hid_ex {p : Addr} {H : Hp} : Ex (hid p H) H := fun _ _ h => hid_get h
theorem hid_upd {p : Addr} {H : Hp} {o : HO} : hid p (upd H p o) = hid p H := by
  funext b
  by_cases e : b = p
  · subst e; rw [hid_self, hid_self]
  · rw [hid_ne e, hid_ne e, upd_ne e]
theorem hid_upd_ne {p q : Addr} {H : Hp} {o : HO} (h : q ≠ p) : hid p (upd H q o) = upd (hid p H) q o := by
  funext b
  by_cases e2 : b = q
  · subst e2; rw [hid_ne h, upd_same, upd_same]
  · rw [upd_ne e2]
    by_cases e : b = p
    · subst e; rw [hid_self, hid_self]
    · rw [hid_ne e, hid_ne e, upd_ne e2]
theorem hid_none {p b : Addr} {H : Hp} (h : H b = none) : hid p H b = none := by
  unfold hid; split
  · rfl
  · exact h
/-! ## the pool of draws: the list at p, the script's copy at a -/
def PoolOk (p a : Addr) (H : Hp) : Prop := ∃ (ns : List Int) (i : Nat) (c k s : Int), H p = some (.lst [.ref a, .int i, .int c, .int k, .int s]) ∧ hid p H a = some (.lst (ns.map V.int)) ∧ ns.length ≤ 1000
/-- from H to H' all but the pool is kept, and the pool is a pool -/
structure Px (p a : Addr) (H H' : Hp) : Prop where
  was : PoolOk p a H
  pool : PoolOk p a H'
  ex : Ex (hid p H) (hid p H')
section
variable {p a : Addr} {H H1 H2 H' : Hp}
theorem Px.refl (h : PoolOk p a H) : Px p a H H := ⟨h, h, Ex.refl _⟩
theorem Px.trans (x : Px p a H H1) (y : Px p a H1 H2) : Px p a H H2 := ⟨x.was, y.pool, x.ex.trans y.ex⟩
theorem PoolOk.ne {b : Addr} (h : PoolOk p a H) (n : H b = none) : b ≠ p := by
  obtain ⟨_, _, _, _, _, e, _⟩ := h
  exact (ne_of_none e n).symm
theorem PoolOk.ne2 {b : Addr} (h : PoolOk p a H) (n : H b = none) : a ≠ b := by
  obtain ⟨_, _, _, _, _, _, e, _⟩ := h
  exact ne_of_none (hid_get e) n
theorem PoolOk.kept (h : PoolOk p a H) (e : Ex H H') : PoolOk p a H' := by
  obtain ⟨ns, i, c, k, s, h1, h2, h3⟩ := h
  exact ⟨ns, i, c, k, s, e _ _ h1, by rw [hid_ne (hid_neq h2)]; exact e _ _ (hid_get h2), h3⟩
theorem Px.ofEx (h : PoolOk p a H) (e : Ex H H') : Px p a H H' := ⟨h, h.kept e, fun b o hb => by rw [hid_ne (hid_neq hb)]; exact e _ _ (hid_get hb)⟩
theorem Px.more (x : Px p a H H1) (e : Ex H1 H2) : Px p a H H2 := x.trans (Px.ofEx x.pool e)
theorem Px.draw {o : HO} (w : PoolOk p a H) (h : PoolOk p a (upd H p o)) : Px p a H (upd H p o) := ⟨w, h, by rw [hid_upd]; exact Ex.refl _⟩
theorem Px.new (x : Px p a H H1) {l : Addr} {o : HO} (n : H1 l = none) : Px p a H (upd H1 l o) := x.more (Ex.new n)
/-- what H has is kept -/
theorem Px.get (x : Px p a H H1) {b : Addr} {o : HO} (h : hid p H b = some o) : hid p H1 b = some o := x.ex _ _ h
theorem Px.at_ (x : Px p a H H1) {b : Addr} {o : HO} (h : hid p H b = some o) : H1 b = some o := hid_get (x.ex _ _ h)
theorem Px.free (x : Px p a H H1) {b : Addr} (n : H1 b = none) : H b = none := by
  cases e : H b with
  | none => rfl
  | some o =>
    have hb : b ≠ p := x.pool.ne n
    have := x.ex b o (by rw [hid_ne hb]; exact e)
    rw [hid_get this] at n; cases n
/-- an object that H does not have may change -/
theorem Px.mut (x : Px p a H H1) {l : Addr} {o : HO} (n : H l = none) : Px p a H (upd H1 l o) := by
  have hl : l ≠ p := x.was.ne n
  have ha : a ≠ l := x.was.ne2 n
  refine ⟨x.was, ?_, ?_⟩
  · obtain ⟨ns, i, c, k, s, h1, h2, h3⟩ := x.pool
    exact ⟨ns, i, c, k, s, by rw [upd_ne hl.symm]; exact h1, by rw [hid_upd_ne hl, upd_ne ha]; exact h2, h3⟩
  · rw [hid_upd_ne hl]; exact Ex.mut x.ex (hid_none n)
/-- a fresh object stands apart from the pool -/
theorem Px.seen (x : Px p a H H1) {l : Addr} {o : HO} (n : H l = none) (e : H1 l = some o) : hid p H1 l = some o := by
  rw [hid_ne (x.was.ne n)]; exact e
end
end G
namespace G
open PySem PySem.Spec PyProof.Rows L2 Evl
/-! ## comprehensions whose elements are plain values -/
theorem given_all {n : Nat} {v : Nat → V} : given n (fun _ => true) v = (List.range n).map v := by
  unfold given
  rw [List.filter_eq_self.mpr (fun _ _ => rfl)]
section
variable {lo : Int} {n j : Nat} {tt : TT} {te : TE} {vs : List Nat} {σ : L2.St} {H1 : Hp} {D : Addr} {Qd : Hp → Prop} {K : PySem.W.Frag} {a : Addr} {xs : List V}
theorem lc_turn {f : Nat → Bool} {v : Nat → V} {i : Nat} {H : Hp} {σ2 : L2.St} (e : H = upd H1 D (.lst (given i f v))) (hi : i < 100000) (ht : Ans tt σ2 H (f i)) (he : f i = true → Val te σ2 H (v i)) :
    tt σ2 H fun b H3 => if b = true then te σ2 H3 fun y H4 => ∃ acc, H4 D = some (.lst acc) ∧ acc.length < sizeLine ∧ (upd H4 D (.lst (acc ++ [y]))) = upd H1 D (.lst (given (i + 1) f v)) else H3 = upd H1 D (.lst (given (i + 1) f v)) := by
  refine ht _ ?_
  subst e
  cases hf : f i with
  | true =>
    refine iteT (he hf _ ⟨_, upd_same, sz_lt (by have := given_len i f v; omega), ?_⟩)
    rw [given_yes hf, upd_upd]
  | false =>
    refine iteF ?_
    rw [given_no hf]
theorem lcR (f : Nat → Bool) (v : Nat → V) (hn : n ≤ 100000) (hw : ∀ x, wipe ((wipe σ vs).set j (some x)) vs = wipe σ vs)
    (ht : ∀ (i : Nat) (H : Hp), i < n → H = upd H1 D (.lst (given i f v)) → Ans tt ((wipe σ vs).set j (some (.int (lo + i)))) H (f i))
    (he : ∀ (i : Nat) (H : Hp), i < n → H = upd H1 D (.lst (given i f v)) → f i = true → Val te ((wipe σ vs).set j (some (.int (lo + i)))) H (v i)) (q : Qd (upd H1 D (.lst (given n f v)))) :
    ∃ W : Nat → Nat → Hp → Prop, (∃ m, W 0 m (upd H1 D (.lst []))) ∧ ∀ i m H, W i m H →
      ((Itr lo n).stop i H ∧ Qd H) ∨ ((Itr lo n).go i H ∧ ∃ Nx : Hp → Prop, (∀ H', Nx H' → ∃ m', m' < m ∧ W (i + 1) m' H') ∧ ∀ x H', (Itr lo n).yld i H x H' → gName j x (wipe σ vs) H' fun σ2 H2 => wipe σ2 vs = wipe σ vs ∧ tt σ2 H2 fun b H3 =>
        if b = true then te σ2 H3 fun y H4 => ∃ acc, H4 D = some (.lst acc) ∧ acc.length < sizeLine ∧ Nx (upd H4 D (.lst (acc ++ [y]))) else Nx H3) :=
  lc_range (fun i H => H = upd H1 D (.lst (given i f v))) rfl (fun i H hi e => ⟨hw _, lc_turn e (by omega) (ht i H hi e) (he i H hi e)⟩) (fun H e => by rw [e]; exact q)
theorem lcRv (v : Nat → V) (hn : n ≤ 100000) (hw : ∀ x, wipe ((wipe σ vs).set j (some x)) vs = wipe σ vs)
    (he : ∀ (i : Nat) (H : Hp), i < n → H = upd H1 D (.lst (given i (fun _ => true) v)) → Val te ((wipe σ vs).set j (some (.int (lo + i)))) H (v i)) (q : Qd (upd H1 D (.lst ((List.range n).map v)))) :
    ∃ W : Nat → Nat → Hp → Prop, (∃ m, W 0 m (upd H1 D (.lst []))) ∧ ∀ i m H, W i m H →
      ((Itr lo n).stop i H ∧ Qd H) ∨ ((Itr lo n).go i H ∧ ∃ Nx : Hp → Prop, (∀ H', Nx H' → ∃ m', m' < m ∧ W (i + 1) m' H') ∧ ∀ x H', (Itr lo n).yld i H x H' → gName j x (wipe σ vs) H' fun σ2 H2 => wipe σ2 vs = wipe σ vs ∧ tYes σ2 H2 fun b H3 =>
        if b = true then te σ2 H3 fun y H4 => ∃ acc, H4 D = some (.lst acc) ∧ acc.length < sizeLine ∧ Nx (upd H4 D (.lst (acc ++ [y]))) else Nx H3) :=
  lcR (fun _ => true) v hn hw (fun _ _ _ _ => fun _ q => q) (fun i H hi e _ => he i H hi e) (by rw [given_all]; exact q)
theorem lcL (f : Nat → Bool) (v : Nat → V) (hx : SqL K H1 a xs) (hD : H1 D = none) (hn : xs.length ≤ 100000) (hw : ∀ x, wipe ((wipe σ vs).set j (some x)) vs = wipe σ vs)
    (ht : ∀ (i : Nat) (x : V) (H : Hp), xs[i]? = some x → H = upd H1 D (.lst (given i f v)) → Ans tt ((wipe σ vs).set j (some x)) H (f i))
    (he : ∀ (i : Nat) (x : V) (H : Hp), xs[i]? = some x → H = upd H1 D (.lst (given i f v)) → f i = true → Val te ((wipe σ vs).set j (some x)) H (v i)) (q : Qd (upd H1 D (.lst (given xs.length f v)))) :
    ∃ W : Nat → Nat → Hp → Prop, (∃ m, W 0 m (upd H1 D (.lst []))) ∧ ∀ i m H, W i m H →
      ((Itl K a).stop i H ∧ Qd H) ∨ ((Itl K a).go i H ∧ ∃ Nx : Hp → Prop, (∀ H', Nx H' → ∃ m', m' < m ∧ W (i + 1) m' H') ∧ ∀ x H', (Itl K a).yld i H x H' → gName j x (wipe σ vs) H' fun σ2 H2 => wipe σ2 vs = wipe σ vs ∧ tt σ2 H2 fun b H3 =>
        if b = true then te σ2 H3 fun y H4 => ∃ acc, H4 D = some (.lst acc) ∧ acc.length < sizeLine ∧ Nx (upd H4 D (.lst (acc ++ [y]))) else Nx H3) :=
  lc_list (fun i H => H = upd H1 D (.lst (given i f v))) rfl (fun i H hi e => by rw [e]; exact ex_l (Ex.new hD) hx) (fun i x H hi e => ⟨hw _, lc_turn e (by have := (List.getElem?_eq_some_iff.mp hi).1; omega) (ht i x H hi e) (he i x H hi e)⟩) (fun H e => by rw [e]; exact q)
theorem lcT (f : Nat → Bool) (v : Nat → V) (hx : SqT K H1 a xs) (hD : H1 D = none) (hn : xs.length ≤ 100000) (hw : ∀ x, wipe ((wipe σ vs).set j (some x)) vs = wipe σ vs)
    (ht : ∀ (i : Nat) (x : V) (H : Hp), xs[i]? = some x → H = upd H1 D (.lst (given i f v)) → Ans tt ((wipe σ vs).set j (some x)) H (f i))
    (he : ∀ (i : Nat) (x : V) (H : Hp), xs[i]? = some x → H = upd H1 D (.lst (given i f v)) → f i = true → Val te ((wipe σ vs).set j (some x)) H (v i)) (q : Qd (upd H1 D (.lst (given xs.length f v)))) :
    ∃ W : Nat → Nat → Hp → Prop, (∃ m, W 0 m (upd H1 D (.lst []))) ∧ ∀ i m H, W i m H →
      ((Itt K a).stop i H ∧ Qd H) ∨ ((Itt K a).go i H ∧ ∃ Nx : Hp → Prop, (∀ H', Nx H' → ∃ m', m' < m ∧ W (i + 1) m' H') ∧ ∀ x H', (Itt K a).yld i H x H' → gName j x (wipe σ vs) H' fun σ2 H2 => wipe σ2 vs = wipe σ vs ∧ tt σ2 H2 fun b H3 =>
        if b = true then te σ2 H3 fun y H4 => ∃ acc, H4 D = some (.lst acc) ∧ acc.length < sizeLine ∧ Nx (upd H4 D (.lst (acc ++ [y]))) else Nx H3) :=
  lc_tup (fun i H => H = upd H1 D (.lst (given i f v))) rfl (fun i H hi e => by rw [e]; exact ex_t (Ex.new hD) hx) (fun i x H hi e => ⟨hw _, lc_turn e (by have := (List.getElem?_eq_some_iff.mp hi).1; omega) (ht i x H hi e) (he i x H hi e)⟩) (fun H e => by rw [e]; exact q)
theorem lcLm (g : V → V) (hx : SqL K H1 a xs) (hD : H1 D = none) (hn : xs.length ≤ 100000) (hw : ∀ x, wipe ((wipe σ vs).set j (some x)) vs = wipe σ vs)
    (he : ∀ (i : Nat) (x : V) (H : Hp), xs[i]? = some x → H = upd H1 D (.lst ((xs.take i).map g)) → Val te ((wipe σ vs).set j (some x)) H (g x)) (q : Qd (upd H1 D (.lst (xs.map g)))) :
    ∃ W : Nat → Nat → Hp → Prop, (∃ m, W 0 m (upd H1 D (.lst []))) ∧ ∀ i m H, W i m H →
      ((Itl K a).stop i H ∧ Qd H) ∨ ((Itl K a).go i H ∧ ∃ Nx : Hp → Prop, (∀ H', Nx H' → ∃ m', m' < m ∧ W (i + 1) m' H') ∧ ∀ x H', (Itl K a).yld i H x H' → gName j x (wipe σ vs) H' fun σ2 H2 => wipe σ2 vs = wipe σ vs ∧ tYes σ2 H2 fun b H3 =>
        if b = true then te σ2 H3 fun y H4 => ∃ acc, H4 D = some (.lst acc) ∧ acc.length < sizeLine ∧ Nx (upd H4 D (.lst (acc ++ [y]))) else Nx H3) :=
  lc_list (fun i H => H = upd H1 D (.lst ((xs.take i).map g))) (by rw [List.take_zero]; rfl) (fun i H hi e => by rw [e]; exact ex_l (Ex.new hD) hx)
    (fun i x H hi e => ⟨hw _, by
      refine iteT (B := H = upd H1 D (.lst ((xs.take (i + 1)).map g))) ?_
      refine he i x H hi e _ ?_
      subst e
      refine ⟨_, upd_same, sz_lt ?_, ?_⟩
      · rw [List.length_map, List.length_take]; have := (List.getElem?_eq_some_iff.mp hi).1; omega
      · rw [upd_upd, List.take_add_one, hi, List.map_append]; rfl⟩) (fun H e => by rw [e, List.take_length]; exact q)
theorem lcTm (g : V → V) (hx : SqT K H1 a xs) (hD : H1 D = none) (hn : xs.length ≤ 100000) (hw : ∀ x, wipe ((wipe σ vs).set j (some x)) vs = wipe σ vs)
    (he : ∀ (i : Nat) (x : V) (H : Hp), xs[i]? = some x → H = upd H1 D (.lst ((xs.take i).map g)) → Val te ((wipe σ vs).set j (some x)) H (g x)) (q : Qd (upd H1 D (.lst (xs.map g)))) :
    ∃ W : Nat → Nat → Hp → Prop, (∃ m, W 0 m (upd H1 D (.lst []))) ∧ ∀ i m H, W i m H →
      ((Itt K a).stop i H ∧ Qd H) ∨ ((Itt K a).go i H ∧ ∃ Nx : Hp → Prop, (∀ H', Nx H' → ∃ m', m' < m ∧ W (i + 1) m' H') ∧ ∀ x H', (Itt K a).yld i H x H' → gName j x (wipe σ vs) H' fun σ2 H2 => wipe σ2 vs = wipe σ vs ∧ tYes σ2 H2 fun b H3 =>
        if b = true then te σ2 H3 fun y H4 => ∃ acc, H4 D = some (.lst acc) ∧ acc.length < sizeLine ∧ Nx (upd H4 D (.lst (acc ++ [y]))) else Nx H3) :=
  lc_tup (fun i H => H = upd H1 D (.lst ((xs.take i).map g))) (by rw [List.take_zero]; rfl) (fun i H hi e => by rw [e]; exact ex_t (Ex.new hD) hx)
    (fun i x H hi e => ⟨hw _, by
      refine iteT (B := H = upd H1 D (.lst ((xs.take (i + 1)).map g))) ?_
      refine he i x H hi e _ ?_
      subst e
      refine ⟨_, upd_same, sz_lt ?_, ?_⟩
      · rw [List.length_map, List.length_take]; have := (List.getElem?_eq_some_iff.mp hi).1; omega
      · rw [upd_upd, List.take_add_one, hi, List.map_append]; rfl⟩) (fun H e => by rw [e, List.take_length]; exact q)
end
end G
namespace G
open PySem PySem.Spec PyProof.Rows L2 Evl
/-! ## rules within a comprehension's block: the written part by its letter -/
section
variable {X : Cx} {K : PySem.W.Frag}
theorem kIxT (h : X.K = K) : IxR X (rIxT K) := by subst h; exact ix_tup
theorem kIxL (h : X.K = K) : IxR X (rIxL K) := by subst h; exact ix_list
theorem kIx (h : X.K = K) : IxR X (rIx K) := by subst h; exact ix_seq
theorem kIn (h : X.K = K) : OpR X (compareOp .In) (rIn K false) := by subst h; exact op_in_seq
theorem kNotIn (h : X.K = K) : OpR X (compareOp .NotIn) (rIn K true) := by subst h; exact op_notIn_seq
theorem kLen (h : X.K = K) : CallR X (.builtin "len") (rLenS K) := by subst h; exact call_len_seq
theorem gStr {x s : Str} {t : Tok} {pos : Pos} (hg : Gl X x) (h : X.mg x = some (.str s t)) (hd : (x == ("__debug__" : Str)) = false := by decide) : PE X (.Name x pos) (tC (.str s)) := pe_glob (v := .str s) hg h ⟨t, rfl⟩ hd
theorem gInt {x : Str} {i : Int} {t : Tok} {pos : Pos} (hg : Gl X x) (h : X.mg x = some (.int i t)) (hd : (x == ("__debug__" : Str)) = false := by decide) : PE X (.Name x pos) (tC (.int i)) := pe_glob (v := .int i) hg h ⟨t, rfl⟩ hd
theorem gRef {x : Str} {a : Addr} {pos : Pos} (hg : Gl X x) (h : X.mg x = some (.ref a)) (hd : (x == ("__debug__" : Str)) = false := by decide) : PE X (.Name x pos) (tC (.ref a)) := pe_glob (v := .ref a) hg h rfl hd
theorem kSlL (h : X.K = K) : SlR X (rSlL K) := by subst h; exact sl_list
theorem kCatA (h : X.K = K) : OpR X (binaryOp .Add) (rCatA K) := by subst h; exact op_catA
theorem kAny (h : X.K = K) (hc : X.calm = true) : CallR X (.builtin "any") (rAny K) := by subst h; exact cr_any hc
theorem kAll (h : X.K = K) (hc : X.calm = true) : CallR X (.builtin "all") (rAll K) := by subst h; exact cr_all hc
theorem kLtT (h : X.K = K) (hu : X.A.units < cLine) : OpR X (compareOp .Lt) (rLtT K) := by subst h; exact op_ltT hu
theorem kPiT {e tg : Expr} {te : TE} (h : X.K = K) (he : PE X e te) : PI X tg e (iTup K te) := by subst h; exact pi_tup he
theorem kPiL {e tg : Expr} {te : TE} (h : X.K = K) (he : PE X e te) : PI X tg e (iList K te) := by subst h; exact pi_list he
theorem kSlA (h : X.K = K) : SlR X (rSlA K) := by subst h; exact sl_tupA
end
end G
namespace G
open PySem PySem.Spec PyProof.Rows L2 Evl
theorem dpAll_map {α : Type} {K : PySem.W.Frag} {H : Hp} {f : α → V} {g : α → PyData} (h : ∀ x, Dp K H (f x) (g x)) : ∀ l : List α, DpAll K H (l.map f) (l.map g)
  | [] => .nil
  | x :: r => .cons (h x) (dpAll_map h r)
theorem dp_ints {K : PySem.W.Frag} {H : Hp} {a : Addr} {ns : List Int} (h : SqL K H a (ns.map V.int)) : Dp K H (.ref a) (.list (ns.map PyData.int)) := .lst h (dpAll_map (fun i => .int i) ns)
theorem dp_nil {K : PySem.W.Frag} {H : Hp} {a : Addr} (h : SqL K H a []) : Dp K H (.ref a) (.list []) := .lst h .nil
theorem eqv_nil (l : List PyData) : PyData.eqv (.list l) (.list []) = l.isEmpty := by cases l <;> rfl
theorem shaped_nil : SeqAt.shaped (.list []) = true := by decide +kernel
end G
/-! enumerate over a tuple -/
namespace PySem
section
variable {prog : Program} {w : World} {A : Around} {E : Value → Shared → Prop} {s : Shared}
theorem G_tupOf {h : Heap} {a : Addr} {xs : Array Value} (p : PyProof.Rows.IsTup h a xs) : h.IsTuple a xs := p
set_option maxHeartbeats 2000000 in
theorem G_enumNew {v : Value} {o : Obj} {Hh : Heap → Prop} (B : Begins v o Hh) :
    Meets (Builtin.«enumerate.__new__» ⟨[.type "enumerate", v], []⟩) (fun _ R s => Hh s.heap ∧
      R (.ok (.ret (.ref (s.heap.push o).objs.size))) { s with heap := (s.heap.push o).push { cls := .type "enumerate", data := .fields #[.none, .bool false, .ref s.heap.objs.size, rawInt 0, .none, .none] } }) :=
  .of_wp fun pr wo ar rr sh hh => by
    obtain ⟨hp, gg, dd, tk, os⟩ := sh; obtain ⟨h1, h2⟩ := hh
    have sub0 := sub_enumerate
    have qq : ∀ {A' : Around} {E : Value → Shared → Prop} {Q : Value → Shared → Prop}, Q (.ref hp.objs.size) ⟨hp.push o, gg, dd, tk, os⟩ → wpAny (model pr wo) A' (pyIter v) Q E ⟨hp, gg, dd, tk, os⟩ :=
      fun z => B.iter pr wo _ _ ⟨hp, gg, dd, tk, os⟩ _ h1 z
    wp_walk using qq
    refine wpAny_stack_any fun _ => wpAny_pure ?_
    split
    · rename_i cc _ _ _ _ _
      cases (cc == Value.type "enumerate") <;> (wp_walk using qq; exact ⟨_, rfl, h2⟩)
    · wp_walk using qq
      exact ⟨_, rfl, h2⟩
theorem G_enumCall {v : Value} {o : Obj} {Hh : Heap → Prop} {Q : Value → Shared → Prop} (B : Begins v o Hh) (h1 : Hh s.heap)
    (k : ∀ h', IsEnum h' (s.heap.objs.size + 1) s.heap.objs.size 0 .none → h'.get? s.heap.objs.size = some o → (∀ b u, s.heap.get? b = some u → h'.get? b = some u) → Q (.ref (s.heap.objs.size + 1)) { s with heap := h' }) :
    wpAny (model prog w) A (call (.type "enumerate") [v]) Q E s := by
  refine callType_new F.called_enumerate (by decide) (F.typeCall_enumerate_1 _) (F.newCall_enumerate_1 _) (fun y => F.args_object_init_2 y _) F.entry_enumerate_new (G_enumNew B) ⟨h1, ?_⟩
  have hz : (s.heap.push o).objs.size = s.heap.objs.size + 1 := Heap.size_push ..
  show _ ∧ _
  rw [hz]
  have he : IsEnum ((s.heap.push o).push { cls := .type "enumerate", data := .fields #[.none, .bool false, .ref s.heap.objs.size, rawInt 0, .none, .none] }) (s.heap.objs.size + 1) s.heap.objs.size 0 .none := by
    have hs := Heap.get?_push_size (s.heap.push o) (o := { cls := .type "enumerate", data := .fields #[.none, .bool false, .ref s.heap.objs.size, rawInt 0, .none, .none] }) rfl
    rw [hz] at hs; exact hs
  exact ⟨⟨_, he, rfl⟩, k _ he (Heap.get?_push_of_some _ (Heap.get?_push_size _ B.free)) fun b u x => Heap.get?_push_of_some _ (Heap.get?_push_of_some _ x)⟩
end
end PySem
namespace G
open PySem PySem.Spec PyProof.Rows L2 Evl
/-- the tuple at a at each turn, each item in a new pair -/
def IteT (K : PySem.W.Frag) (a : Addr) : It :=
  ⟨fun i H => ∃ (xs : List V) (x : V), SqT K H a xs ∧ xs[i]? = some x,
   fun i H v H' => ∃ T x, v = .ref T ∧ H T = none ∧ H' = upd H T (.tup [.int (i : Nat), x]) ∧ ∀ xs, SqT K H a xs → xs[i]? = some x,
   fun i H => ∃ xs : List V, SqT K H a xs ∧ xs.length = i⟩
theorem turn_enumT {P : Program} {w : World} {K : PySem.W.Frag} {elts : List Expr} {kk : Nat} {tpos : Pos} (a e it : Addr) :
    Turn P w K (.Tuple elts kk tpos) (IteT K a) [e, it] e (fun i h => (∃ old, IsEnum h e it ((i : Nat) : Int) old) ∧ h.IsTupleIter it a i ∧ e ≠ it ∧ a ≠ it ∧ a ≠ e) where
  mem := by simp
  obj := fun i h st b hb => by
    obtain ⟨⟨old, he⟩, ⟨o, ho, hc, hd⟩, _⟩ := st
    have hb' : b = e ∨ b = it := by simpa using hb
    rcases hb' with z | z
    · rw [z]; exact ⟨_, he, fun v q => nomatch q⟩
    · rw [z]; exact ⟨o, ho, fun v q => by rw [hd] at q; cases q⟩
  keep := fun i h h' st k => by
    obtain ⟨⟨old, he⟩, hi, hne⟩ := st
    exact ⟨⟨old, k e (by simp) _ he⟩, hi.at fun o q => k it (by simp) o q, hne⟩
  item := by
    intro X hP hw hK hc i pins s σ H E I hf st hg
    subst hP hw hK
    obtain ⟨⟨old, he⟩, hit, hne, hai, hae⟩ := st
    obtain ⟨xs, x, hq, hx⟩ := hg
    obtain ⟨its, rv, p, hz⟩ := I.tuple hq
    obtain ⟨u, hu, ru⟩ := rv.get hx
    have hel : e < s.heap.objs.size := Heap.lt_size he
    have hil : it < s.heap.objs.size := by obtain ⟨_, q, _⟩ := hit; exact Heap.lt_size q
    have hh : X.A.handled = none := I.ok.hd hc
    refine wpAny_pyNext_enum_itemD (Draws.tuple (A := X.A.in1) hh it a hai its.toArray) he ⟨hit, p⟩ ?_ hne ?_ fun y h' tk hy ho hst hT hsz hk => ?_
    · have := (List.getElem?_eq_some_iff.mp hu).1
      simpa using this
    · intro hm
      have hm' : e = it ∨ e = a := by simpa using hm
      rcases hm' with z | z
      · exact hne z
      · exact hae z.symm
    · have ey : y = u := by
        have hy' : its[i]? = some y := by simpa using hy
        exact Option.some.inj (hy'.symm.trans hu)
      subst ey
      refine ⟨_, rfl, wpAny_letOwnedTupleGo_enum (s := { s with heap := h', toks := tk + 1 }) ho fun h'' he' sb => ?_⟩
      have hT2 : h''.get? s.heap.objs.size = some { cls := .type "tuple", data := .seq #[.int i tk, y] } := (sb.2 _ (Nat.ne_of_gt hel)).trans hT
      have new : ObjOk X.prog X.w (upd H s.heap.objs.size (.tup [.int (i : Nat), x])) h'' s.heap.objs.size (.tup [.int (i : Nat), x]) :=
        ⟨by show 2 ≤ sizeLine; decide, [.int i tk, y], .cons ⟨_, rfl⟩ (.cons ru .nil), ⟨_, hT2, rfl, _, rfl⟩⟩
      have I1 : Inv X pins σ (upd H s.heap.objs.size (.tup [.int (i : Nat), x])) { s with heap := h'', toks := tk + 1 } :=
        I.turnedNew (ch := [e, it]) (fun b ob hb q => (sb.2 b (fun z => hb (by simp [z]))).trans (hk b ob (fun z => hb (by simp [z])) (fun z => hb (by simp [z])) q)) hf (Nat.le_refl _) new
      refine ⟨.ref s.heap.objs.size, _, I1, rfl, ⟨_, x, rfl, I.hok.fresh (Nat.le_refl _), rfl, fun ys hy => by rw [I.tuple_inj hy hq]; exact hx⟩, ⟨⟨y, ?_⟩, hst.1.at fun o q => (sb.2 it (Ne.symm hne)).trans q, hne, hai, hae⟩, fun b hb => ?_⟩
      · have e1 : ((i + 1 : Nat) : Int) = (i : Int) + 1 := by omega
        rw [e1]; exact he'
      · have hb' : b < s.heap.objs.size := by
          have hb2 : b = e ∨ b = it := by simpa using hb
          rcases hb2 with z | z
          · rw [z]; exact hel
          · rw [z]; exact hil
        rw [upd_ne (Nat.ne_of_lt hb')]
        exact (hf b hb).1
  done := by
    intro X hP hw hK hc i pins s σ H E I hf st hg
    subst hP hw hK
    obtain ⟨⟨old, he⟩, hit, hne, hai, hae⟩ := st
    obtain ⟨xs, hq, hx⟩ := hg
    obtain ⟨its, rv, p, hz⟩ := I.tuple hq
    obtain ⟨f0, f1, f2, f3, f4, f5⟩ := hf it (by simp)
    have hl := rv.length
    have hh : X.A.handled = none := I.ok.hd hc
    have ei : its.toArray.size = i := by rw [List.size_toArray, ← hl]; exact hx
    have st2 : s.heap.IsTupleIter it a its.toArray.size ∧ s.heap.IsTuple a its.toArray := by rw [ei]; exact ⟨hit, p⟩
    exact wpAny_pyNext_enum_endD (Draws.tuple (A := X.A.in1) hh it a hai its.toArray) he st2 fun h' eb => ⟨rfl, I.turned (t' := s.toks) (fun b o hb q => eb b o hb q) f0 f1 f3 f4 f5⟩
  self := fun A i s Q E st h => by
    obtain ⟨⟨_, he⟩, _⟩ := st
    exact wpAny_pyIter_enum he h
def iEnumT (K : PySem.W.Frag) (ta : TA) : TI := fun σ H R => ta σ H fun vs H1 => ∃ a xs, vs = [.ref a] ∧ SqT K H1 a xs ∧ R (IteT K a) H1
theorem pi_enumT {X : Cx} {e : Expr} {ta : TA} {p pos tpos : Pos} {elts : List Expr} {kk : Nat} (hg : Gl X "enumerate") (hm : X.mg "enumerate" = none) (ha : PA X [e] ta) (hs : starEach [e] X.env = [(false, eval e X.env)] := by rfl) :
    PI X (.Tuple elts kk tpos) (.Call (.Name "enumerate" p) [e] [] pos) (iEnumT X.K ta) := by
  refine ⟨fun pins s σ H R I h => Call_ (ld_blt I hg hm boot_enumerate (PyProof.Rows.callWith_type1 (thn (ha.run pos pins s σ H _ I h) fun us s1 ⟨vs, H1, I1, r1, q1⟩ => ?_) hs rfl))⟩
  obtain ⟨a, xs, rfl, hq, q⟩ := q1
  cases r1 with
  | cons r rr =>
    cases rr
    cases r
    obtain ⟨its, rv, p', hz⟩ := I1.tuple hq
    have hal : a < s1.heap.objs.size := by obtain ⟨o, ho, _⟩ := p'; exact Heap.lt_size ho
    refine G_enumCall (begins_tuple a its.toArray) p' fun h' he hit hk => wpAny_pyIter_enum he ?_
    have I2 : Inv X pins σ H1 { s1 with heap := h' } := I1.kept (t' := s1.toks) hk
    refine ⟨s1.heap.objs.size + 1, [s1.heap.objs.size + 1, s1.heap.objs.size], _, _, H1, rfl, I2, turn_enumT a (s1.heap.objs.size + 1) s1.heap.objs.size,
      ⟨⟨.none, he⟩, ⟨_, hit, rfl, rfl⟩, Nat.succ_ne_self _, Nat.ne_of_lt hal, Nat.ne_of_lt (Nat.lt_succ_of_lt hal)⟩, fun b hb => ?_, q⟩
    have hb' : b = s1.heap.objs.size + 1 ∨ b = s1.heap.objs.size := by simpa using hb
    have hle : s1.heap.objs.size ≤ b := by
      rcases hb' with z | z
      · rw [z]; exact Nat.le_add_right _ _
      · rw [z]; exact Nat.le_refl _
    exact I1.fpOk hle (I1.hok.fresh hle)
theorem walk_enumT {K : PySem.W.Frag} {a : Addr} {xs : List V} : Walk (IteT K a) xs.length (fun H => SqT K H a xs) (YPair (fun i => some (.int (i : Nat))) (fun i => xs[i]?)) := by
  refine ⟨fun i _ hi q => ⟨xs, xs[i], q, by simp [hi]⟩, fun _ q => ⟨xs, q, rfl⟩, fun i H v H' _ q y => ?_⟩
  obtain ⟨T, x, h1, h2, h3, h4⟩ := y
  exact ⟨T, .int (i : Nat), x, h1, h2, h3, rfl, h4 xs q⟩
theorem kPiEnumT {X : Cx} {K : PySem.W.Frag} {e : Expr} {ta : TA} {p pos tpos : Pos} {elts : List Expr} {kk : Nat} (h : X.K = K) (hg : Gl X "enumerate") (hm : X.mg "enumerate" = none) (ha : PA X [e] ta) (hs : starEach [e] X.env = [(false, eval e X.env)] := by rfl) :
    PI X (.Tuple elts kk tpos) (.Call (.Name "enumerate" p) [e] [] pos) (iEnumT K ta) := by subst h; exact pi_enumT hg hm ha hs
end G
/-! t[a::2], t a tuple -/
namespace HT
open PySem PySem.Spec PyProof.Rows L2
section
variable {prog : Program} {w : World} {A : Around} {E : Value → Shared → Prop} {s : Shared}
theorem g_applied {sl : Addr} {vl vu vs : Value} {lo hi : Option Int} {st : Int} {n : Nat} {Q : Int × Int × Nat → Shared → Prop} (hs : s.heap.IsSliceOf sl vl vu vs) (pl : IsPart vl lo) (pu : IsPart vu hi) (ps : IsPart vs (some st)) (h0 : st ≠ 0)
    (h : Q ((Builtin.Slice.sliceAdjust lo hi st (n : Int)).1, st, Builtin.Slice.slicePlaces (Builtin.Slice.sliceAdjust lo hi st (n : Int)).1 (Builtin.Slice.sliceAdjust lo hi st (n : Int)).2 st) s) :
    wpAny (model prog w) A (Builtin.Slice.sliceApplied (.ref sl) (pure (n : Int))) Q E s := by
  obtain ⟨ob, hob, _, hd⟩ := id hs
  unfold Builtin.Slice.sliceApplied Builtin.Slice.sliceFields
  refine wpAny_bind (wpAny_bind (wpAny_field hob hd (x := vl) rfl (wpAny_bind (wpAny_field hob hd (x := vu) rfl (wpAny_bind (wpAny_field hob hd (x := vs) rfl (wpAny_pure ?_)))))))
  refine wpAny_bind (slicePart_ ps ?_)
  show wpAny _ _ (if (st == 0) = true then _ else _) _ _ s
  rw [if_neg (by intro q; exact h0 (eq_of_beq q))]
  exact wpAny_bind (slicePart_ pl (wpAny_bind (slicePart_ pu (wpAny_bind (wpAny_pure (wpAny_pure h))))))
def stepped (xs : List Value) (lo st : Int) (n : Nat) : List Value := (List.range n).filterMap fun (k : Nat) => xs.toArray[(lo + (k : Int) * st).toNat]?
theorem g_getStep {t sl : Addr} {its : List Value} {vl vu vs : Value} {lo hi : Option Int} {st : Int} {Q : Value → Shared → Prop} (ht : IsTup s.heap t its.toArray) (hs : s.heap.IsSliceOf sl vl vu vs) (pl : IsPart vl lo) (pu : IsPart vu hi) (ps : IsPart vs (some st)) (h0 : st ≠ 0) (h1 : st ≠ 1)
    (hz : (stepped its (Builtin.Slice.sliceAdjust lo hi st (its.toArray.size : Int)).1 st (Builtin.Slice.slicePlaces (Builtin.Slice.sliceAdjust lo hi st (its.toArray.size : Int)).1 (Builtin.Slice.sliceAdjust lo hi st (its.toArray.size : Int)).2 st)).length ≤ sizeLine)
    (h : Q (.ref s.heap.objs.size) { s with heap := s.heap.push { cls := .type "tuple", data := .seq (stepped its (Builtin.Slice.sliceAdjust lo hi st (its.toArray.size : Int)).1 st (Builtin.Slice.slicePlaces (Builtin.Slice.sliceAdjust lo hi st (its.toArray.size : Int)).1 (Builtin.Slice.sliceAdjust lo hi st (its.toArray.size : Int)).2 st)).toArray } }) :
    wpAny (model prog w) A (getItem (.ref t) (.ref sl)) Q E s := by
  have ok : sizeOk (.seq (stepped its (Builtin.Slice.sliceAdjust lo hi st (its.toArray.size : Int)).1 st (Builtin.Slice.slicePlaces (Builtin.Slice.sliceAdjust lo hi st (its.toArray.size : Int)).1 (Builtin.Slice.sliceAdjust lo hi st (its.toArray.size : Int)).2 st)).toArray) := by
    show (stepped its _ st _).toArray.size ≤ sizeLine
    rw [List.size_toArray]; exact hz
  obtain ⟨ob, hob, hc, hd⟩ := id hs
  have hTs : s.TypeIs (.ref sl) "slice" := ⟨ob, hob, hc⟩
  unfold getItem
  try with_reducible refine wpAny_holding ?_
  first | refine wpAny_bind (wpAny_pure ?_) | skip
  refine wpAny_bind (wpAny_sequenceKey ht.typeIs (by decide) ?_)
  refine wpAny_bind (wpAny_callSpecial?_slot (name := Str.ofString "__getitem__") ht.typeIs slot_tuple_getitem (wpAny_call_entry slot_tuple_getitem ht.typeIs entry_tuple_getitem ?_ (args_tuple_getitem _ _)))
  show wpAny _ _ (Builtin.Tuple.tupleItemsOf (.ref t) >>= _) _ _ s
  refine wpAny_bind (tupleItemsOf_ ht (wpAny_bind (wpAny_typeOf hTs ?_)))
  rw [if_pos (by decide)]
  refine wpAny_bind (g_applied hs pl pu ps h0 ?_)
  generalize (Builtin.Slice.sliceAdjust lo hi st (its.toArray.size : Int)).1 = l0 at *
  generalize Builtin.Slice.slicePlaces l0 (Builtin.Slice.sliceAdjust lo hi st (its.toArray.size : Int)).2 st = n0 at *
  have hno : ¬ ((l0 == 0 && st == 1 && n0 == its.toArray.size) = true) := by
    intro q
    rw [Bool.and_eq_true, Bool.and_eq_true] at q
    exact h1 (eq_of_beq q.1.2)
  show wpAny _ _ (if (l0 == 0 && st == 1 && n0 == its.toArray.size) = true then _ else _) _ _ s
  rw [if_neg hno]
  first
    | exact wpAny_bind (m := Builtin.Tuple.tupleExact _) (wpAny_newObj_type (wpAny_pure ⟨_, rfl, wpAny_pure h⟩) ok)
    | exact wpAny_bind (m := Builtin.Tuple.tupleExact _) (wpAny_newObj_type (wpAny_bind (wpAny_pure (wpAny_pure ⟨_, rfl, wpAny_pure h⟩))) ok)
    | exact wpAny_bind (wpAny_bind (m := Builtin.Tuple.tupleExact _) (wpAny_newObj_type (wpAny_pure (wpAny_pure ⟨_, rfl, wpAny_pure h⟩)) ok))
    | exact wpAny_bind (wpAny_bind (m := Builtin.Tuple.tupleExact _) (wpAny_newObj_type (wpAny_pure ⟨_, rfl, wpAny_pure h⟩) ok))
end
end HT
namespace G
open PySem PySem.Spec PyProof.Rows L2 Evl
/-- every second item from a on -/
def halfL {α : Type} (a : Nat) (xs : List α) : List α := (List.range ((xs.length - a + 1) / 2)).filterMap fun k => xs[a + 2 * k]?
theorem halfL_len {α : Type} (a : Nat) (xs : List α) : (halfL a xs).length ≤ xs.length + 1 := by
  unfold halfL
  refine Nat.le_trans (List.length_filterMap_le _ _) ?_
  rw [List.length_range]; omega
theorem vals_filterMap {f : Nat → Option V} {g : Nat → Option Value} : ∀ {l : List Nat}, (∀ k, k ∈ l → RelO (f k) (g k)) → Vals (l.filterMap f) (l.filterMap g)
  | [], _ => .nil
  | k :: r, h => by
    have hk := h k (List.mem_cons_self ..)
    have ih := vals_filterMap (l := r) fun j hj => h j (List.mem_cons_of_mem _ hj)
    rw [List.filterMap_cons, List.filterMap_cons]
    cases e : f k with
    | none =>
      cases e2 : g k with
      | none => exact ih
      | some u => rw [e, e2] at hk; exact hk.elim
    | some v =>
      cases e2 : g k with
      | none => rw [e, e2] at hk; exact hk.elim
      | some u => rw [e, e2] at hk; exact .cons hk ih
def tHalf (K : PySem.W.Frag) (a : Nat) (te : TE) : TE := fun σ H Q => te σ H fun x H1 => ∃ t xs, x = .ref t ∧ SqT K H1 t xs ∧ xs.length ≤ 100000 ∧ ∀ p, H1 p = none → Q (.ref p) (upd H1 p (.tup (halfL a xs)))
theorem half_places {a n : Nat} (h : a ≤ 1) : (Builtin.Slice.sliceAdjust (some (a : Int)) none 2 (n : Int)).1 = ((min a n : Nat) : Int) ∧
    Builtin.Slice.slicePlaces (Builtin.Slice.sliceAdjust (some (a : Int)) none 2 (n : Int)).1 (Builtin.Slice.sliceAdjust (some (a : Int)) none 2 (n : Int)).2 2 = (n - a + 1) / 2 := by
  have h2 : ¬ ((2 : Int) < 0) := by omega
  have h3 : (2 : Int) > 0 := by omega
  have ha : ¬ ((a : Int) < 0) := by omega
  have e : Builtin.Slice.sliceAdjust (some (a : Int)) none 2 (n : Int) = (((min a n : Nat) : Int), (n : Int)) := by
    unfold Builtin.Slice.sliceAdjust
    simp only [h2, if_false, ha]
    refine Prod.ext ?_ rfl
    show min (a : Int) (n : Int) = ((min a n : Nat) : Int)
    omega
  rw [e]
  refine ⟨rfl, ?_⟩
  show Builtin.Slice.slicePlaces ((min a n : Nat) : Int) (n : Int) 2 = (n - a + 1) / 2
  unfold Builtin.Slice.slicePlaces
  simp only [h3, if_true]
  split <;> omega
section
variable {X : Cx}
theorem pe_half {e : Expr} {te : TE} {a : Nat} {k1 k2 : Nat} {p1 p2 p3 pos : Pos} (ha : a ≤ 1) (he : PE X e te) : PE X (.Subscript e (.Slice (some (.Constant (.int (a : Int)) k1 p1)) none (some (.Constant (.int 2) k2 p2)) p3) pos) (tHalf X.K a te) := by
  refine ⟨fun pins s σ H Q I h => Subscript_ (thn (he.run pins s σ H _ I h) fun v s1 ⟨x, H1, I1, r1, q1⟩ => ?_)⟩
  obtain ⟨t, xs, rfl, hx, hlen, q⟩ := q1
  cases r1
  have hlo : PO X (some (.Constant (.int (a : Int)) k1 p1)) (tPart (tC (.int (a : Int)))) := po_some pe_int
  have hst : PO X (some (.Constant (.int 2) k2 p2)) (tPart (tC (.int 2))) := po_some pe_int
  refine wpAny_Slice (thn (hlo.run pins s1 σ H1 (fun o H2 => o = some (a : Int) ∧ H2 = H1) I1 ⟨_, rfl, rfl, rfl⟩) fun vl s2 ⟨l, H2, I2, pl, el, e2⟩ => ?_)
  subst el e2
  refine thn (po_none.run pins s2 σ H2 (fun o H3 => o = none ∧ H3 = H2) I2 ⟨rfl, rfl⟩) fun vu s3 ⟨u, H3, I3, pu, eu, e3⟩ => ?_
  subst eu e3
  refine thn (hst.run pins s3 σ H3 (fun o H4 => o = some 2 ∧ H4 = H3) I3 ⟨_, rfl, rfl, rfl⟩) fun vs s4 ⟨o, H4, I4, ps, eo, e4⟩ => ?_
  subst eo e4
  have I5 : Inv X pins σ H4 { s4 with heap := s4.heap.push { cls := .type "slice", data := .fields #[vl, vu, vs] } } := I4.kept (t' := s4.toks) fun b ob q => Heap.get?_push_of_some _ q
  obtain ⟨its, r, ht, hz⟩ := I5.tuple hx
  have hl : its.toArray.size = xs.length := by rw [List.size_toArray]; exact r.length.symm
  obtain ⟨hp1, hp2⟩ := half_places (n := xs.length) ha
  have hrel : Vals (halfL a xs) (HT.stepped its ((min a xs.length : Nat) : Int) 2 ((xs.length - a + 1) / 2)) := by
    unfold halfL HT.stepped
    refine vals_filterMap fun k hk => ?_
    have hk' := List.mem_range.mp hk
    have hi : a + 2 * k < xs.length := by omega
    have en : (((min a xs.length : Nat) : Int) + (k : Int) * 2).toNat = a + 2 * k := by omega
    rw [en, List.getElem?_eq_getElem hi]
    obtain ⟨u, hu, ru⟩ := r.get (List.getElem?_eq_getElem hi)
    rw [List.getElem?_toArray, hu]
    exact ru
  have hsz : (halfL a xs).length ≤ sizeLine := sz_of (by
    unfold halfL
    refine Nat.le_trans (List.length_filterMap_le _ _) ?_
    rw [List.length_range]
    omega)
  show wpAny (model X.prog X.w) X.A (subscriptTail e (.Slice (some (.Constant (.int (a : Int)) k1 p1)) none (some (.Constant (.int 2) k2 p2)) p3) (.ref t) (.ref s4.heap.objs.size)) (EP X pins σ Q) X.xe { s4 with heap := s4.heap.push { cls := .type "slice", data := .fields #[vl, vu, vs] } }
  refine tail_any (ops := [.ref t, .ref s4.heap.objs.size]) ht.typeIs PyProof.Rows.slot_tuple_getitem.lookup ?_ (by with_unfolding_all rfl)
  refine HT.g_getStep ht (Heap.IsSliceOf.new _ vl vu vs) pl pu ps (by decide) (by decide) ?_ ?_
  · rw [hl, hp2, hp1, ← hrel.length]; exact hsz
  · rw [hl, hp2, hp1]
    refine ⟨.ref _, _, I5.laid (t' := s4.toks) (o := .tup (halfL a xs)) (fun b ob q => Heap.get?_push_of_some _ q) (Nat.le_refl _) ?_, rfl, q _ (I5.hok.fresh (Nat.le_refl _))⟩
    exact ⟨hsz, _, hrel, ⟨_, Heap.get?_push_size _ rfl, rfl, _, rfl⟩⟩
end
end G
namespace LX
open PySem PySem.Spec PyProof.Rows L2
/-! ## a list comprehension whose element lets an exception out -/
theorem ff_weak {h B B' : Heap} (k : ∀ b, B.get? b = none → B'.get? b = none) : ∀ {l : List Env}, h.FunFrames B l → h.FunFrames B' l
  | [], _ => trivial
  | _ :: _, ⟨a, ⟨L, o, e1, e2, e3, e4⟩, r⟩ => ⟨a, ⟨L, o, e1, k _ e2, e3, e4⟩, ff_weak k r⟩
theorem tr_weak {h B B' : Heap} {e : Addr} {Z : Obj → Prop} {fl : Value} (k : ∀ b, B.get? b = none → B'.get? b = none) (t : HandSPX.TracedZ h B e Z fl) : HandSPX.TracedZ h B' e Z fl := by
  obtain ⟨oe, vs, T, oT, ts, he, hz, hd, h1, hnT, r⟩ := t
  exact ⟨oe, vs, T, oT, ts, he, hz, hd, h1, k _ hnT, r⟩
/-- the wish of a block: what a callee of the element lets out -/
def XF (X Y : Cx) (E : XK) (u : Value) (s' : Shared) : Prop := ∃ (pins : List (Addr × Obj)) (σ : L2.St) (H : Hp) (s : Shared), Inv Y pins σ H s ∧ CX X.prog X.w X.stack H s E u s'
section
variable {X : Cx} {pins : List (Addr × Obj)} {σ : L2.St} {H3 : Hp} {s3 : Shared} {E : XK}
theorem blk_fails {scope : Scope} {ce : Env} {fp : List Addr} (I3 : Inv X pins σ H3 s3) (f3 : ∀ b ∈ fp, FpOk X pins H3 b ∧ b < s3.heap.objs.size) (tk : Takes X (fun cls d _ H => E cls d H)) (hs : X.stack = X.env :: X.outer)
    (hf : X.env.frame = some X.env.locals) (cL : ce.locals = s3.heap.objs.size) (cF : ce.frame = X.env.frame) {u : Value} {s' : Shared} (x : XF X (X.blk s3 H3 scope ce fp) E u s') :
    notedBy (model X.prog X.w) X.A ce (CompFails (model X.prog X.w) X.A X.xe ce) u s' := by
  obtain ⟨pB, σB, HB, sB, IB, c⟩ := x
  have c' := c
  obtain ⟨a, B, H', cls, d, rfl, fl, _⟩ := c'
  obtain ⟨a', B2, sI, p2, σ2, H2, cls2, d2, ea, I, nb, up, sky, na, os, ag, w⟩ := XE.of_call (X := X.blk s3 H3 scope ce fp) (W := fun cls d _ H => E cls d H) IB (fun _ _ _ h => h) c
  cases ea
  obtain ⟨_, _, _, oe, vs, T, oT, ts, he, hz, hd, h1, hnT, hTe, hT, hdT, h3⟩ := fl
  have sky : Sky B2 X.stack a (Zc cls2 d2) ce.locals s'.heap := sky
  have fl2 : HandSPX.FlyingZ B2 X.stack a (Zc cls2 d2) s'.heap := by
    rcases sky with ⟨_, _, _, oe', vs', he', _, hd', h1'⟩ | fl | ⟨_, _, _, oe', vs', T', oT', ts', he', _, hd', h1', _, _, hT', hdT', h3'⟩
    · rw [he] at he'
      cases he'
      rw [hd] at hd'
      cases hd'
      rw [h1] at h1'
      cases h1'
    · exact fl
    · rw [he] at he'
      cases he'
      rw [hd] at hd'
      cases hd'
      rw [h1] at h1'
      cases h1'
      rw [hT] at hT'
      cases hT'
      rw [hdT] at hdT'
      cases hdT'
      rw [h3] at h3'
      cases h3'
  have kn : ∀ b, B2.get? b = none → (PySem.W.hideAll B2 [ce.locals]).get? b = none := fun b e => by
    cases q : (PySem.W.hideAll B2 [ce.locals]).get? b with
    | none => rfl
    | some o => rw [PySem.W.of_hideAll _ q] at e; cases e
  have bC : (PySem.W.hideAll B2 [ce.locals]).get? ce.locals = none := PySem.W.hideAll_none _ (by simp)
  have kg : ∀ b o, B2.get? b = some o → b ≠ ce.locals → (PySem.W.hideAll B2 [ce.locals]).get? b = some o := fun b o e ne => PySem.W.hideAll_get _ e (by simpa using ne)
  have hfr : X.A.frames = some (X.env :: X.outer) := by rw [I3.ok.frames, hs]
  have flw : HandSPX.FlyingZ (PySem.W.hideAll B2 [ce.locals]) X.stack a (Zc cls2 d2) s'.heap :=
    ⟨fun b o e => fl2.1 b o (PySem.W.of_hideAll _ e), kn _ fl2.2.1, ff_weak kn fl2.2.2.1, tr_weak kn fl2.2.2.2⟩
  have ko : ∀ b o, (PySem.W.hideAll B2 [ce.locals]).get? b = some o → B2.get? b = some o := fun b o e => PySem.W.of_hideAll _ e
  generalize PySem.W.hideAll B2 [ce.locals] = B' at *
  rw [hs] at flw
  show wpAny _ X.A (noteFrame (.ref a) ce) _ _ s'
  rw [noteFrame_env _ cF]
  refine HandSPX.looks_onZ Zc.steady hfr hf flw fun h' hH up2 => ?_
  obtain ⟨m, hn, _⟩ := I.loc
  have hn : sI.heap.Ns ce.locals m := hn
  have hn2 : h'.Ns ce.locals m := (hn.upToSlots up).upToSlots up2
  refine ⟨m, hn2, fun h₂ m₂ hn₂ hs₂ => ?_⟩
  obtain ⟨b1, b0, f1, t1⟩ := hH
  have b2 : B'.StaysIn h₂ := fun b o hb => (hs₂.2 b fun q => by rw [q, bC] at hb; cases hb).trans (b1 b o hb)
  have f2 : h₂.FunFrames B' (X.env :: X.outer) := Heap.FunFrames.sameBut hs₂ hn₂ f1
  obtain ⟨oL, es, ep, hoL, hdL, _⟩ := hn2
  obtain ⟨oe, vs, T, oT, ts, he, hz, hd, h1, hnT, hTe, hT, hdT, h3⟩ := t1
  have ne1 : a ≠ ce.locals := fun q => by rw [q, hoL] at he; cases he; rw [hdL] at hd; cases hd
  have ne2 : T ≠ ce.locals := fun q => by rw [q, hoL] at hT; cases hT; rw [hdL] at hdT; cases hdT
  have he2 : h₂.get? a = some oe := (hs₂.2 a ne1).trans he
  have hT2 : h₂.get? T = some oT := (hs₂.2 T ne2).trans hT
  unfold PySem.passOn
  refine wpAny_bind (wpAny_field (s := { s' with heap := h₂ }) he2 hd h1 ?_)
  rw [if_neg (show ¬ ((Value.ref T == Value.none) = true) from by simp), cF, hf]
  refine wpAny_bind (HandSPX.setFlight_anyZ (s := { s' with heap := h₂ }) (fr := some X.env.locals) (Z := Zc cls2 d2) b2 f2 ⟨oe, vs, T, oT, ts, he2, hz, hd, h1, hnT, hTe, hT2, hdT, h3⟩ fun h₃ b3 f3' t3 up3 => ?_)
  refine wpAny_throw ?_
  have nC : H2 s3.heap.objs.size = none := by
    have z : H2 ce.locals = none := I.free
    rw [cL] at z
    exact z
  have I7 : Inv X pins σ H2 sI := I3.call' (ch := fp) I.os I.base I.hok I.bare fun b hb => ⟨(f3 b hb).1.2.2.2.1, (f3 b hb).1.2.1, (f3 b hb).1.2.2.2.2.1, (f3 b hb).1.2.2.2.2.2⟩
  obtain ⟨g0, g1, g2, g3, g4, g5⟩ := I3.fpOk (Nat.le_refl _) nC
  have I8 : Inv X pins σ H2 { sI with heap := PySem.W.hideAll sI.heap [ce.locals], toks := sI.toks } := I7.turned (it := s3.heap.objs.size) (fun b o ne e => PySem.W.hideAll_get _ e (by rw [cL]; simpa using ne)) g0 g1 g3 g4 g5
  refine tk _ _ ⟨a, B', _, pins, σ, H2, cls2, d2, rfl, I8, fun b o e hb => ?_, fun b o e hnf => ?_, .inr (.inr ⟨b3, b0, by rw [hs]; exact f3', t3⟩), na, os, ag, w⟩
  · have e1 := PySem.W.of_hideAll _ e
    have ne : b ≠ ce.locals := fun q => by
      have := PySem.W.hideAll_none [ce.locals] (h := sI.heap) (b := b) (by simp [q])
      rw [this] at e; cases e
    exact kg b o (nb b o e1 hb) ne
  · have e1 := PySem.W.of_hideAll _ e
    have ne : b ≠ ce.locals := fun q => by
      have := PySem.W.hideAll_none [ce.locals] (h := sI.heap) (b := b) (by simp [q])
      rw [this] at e; cases e
    obtain ⟨sl1, e2⟩ := up b o e1 hnf
    obtain ⟨sl2, e3⟩ := up2 b _ e2 hnf
    obtain ⟨sl3, e4⟩ := up3 b _ ((hs₂.2 b ne).trans e3) hnf
    exact ⟨sl3, e4⟩
end
section
variable {X : Cx}
/-- [elt for target in iter if ..], the element's callees may let exceptions of E out -/
theorem pe_lcX {elt tg iter : Expr} {ifs : List Expr} {scope : Scope} {own : List (Str × Nat)} {pos : Pos} {wi : TI} {g : TG} {tt : TT} {te : TE} {E : XK} (hc : X.calm = true) (hN : X.N.Nodup) (hi : PI X tg iter wi) (ok : BlkOk X.N X.env.scope scope own)
    (tk : Takes X (fun cls d _ H => E cls d H)) (hS : X.stack = X.env :: X.outer) (hf : X.env.frame = some X.env.locals)
    (hg : ∀ (s : Shared) (H : Hp) (C : Addr) (cl : List (Str × Addr)) (fp : List Addr), PG (X.blk s H scope (compEnvC scope cl C X.env) fp) tg g) (ht : ∀ (s : Shared) (H : Hp) (C : Addr) (cl : List (Str × Addr)) (fp : List Addr), PTs (X.blk s H scope (compEnvC scope cl C X.env) fp) ifs tt)
    (he : ∀ (s : Shared) (H : Hp) (C : Addr) (cl : List (Str × Addr)) (fp : List Addr), PE ((X.blk s H scope (compEnvC scope cl C X.env) fp).wish (XF X (X.blk s H scope (compEnvC scope cl C X.env) fp) E)) elt te) (hs : ∀ x, foldedSetIterable iter X.env x = pure x := by intro _; rfl) :
    PE X (.ListComp elt [⟨tg, iter, ifs, 0⟩] scope pos) (tLc wi g tt te (own.map (·.2))) := by
  refine ⟨fun pins s σ H Q I h => ?_⟩
  rw [eval_ListComp]
  have hfree : ∀ y ∈ scope.names, y.2 = .free → ∃ c, X.env.cells.lookup y.1 = some c := fun y hy e => (ok.free y hy e).elim (fun k => I.ok.has _ (.inl k)) fun k => I.ok.has _ (.inr k)
  refine comprehension_at (use := none) rfl hs (closure_ok hfree) ok.kind (fun y hy e => by rw [ok.uniq y hy, e]) (thn (hi.run pins s σ H _ I h) fun xv s1 hx => thn hx fun itv s2 h2 => ?_)
  obtain ⟨it, fp, tn, J, H2, rfl, I2, T, st2, f2, q⟩ := h2
  refine wpAny_newObj_type (newEnv_comp ?_) (by show 0 ≤ sizeLine; decide)
  have hDn : H2 s2.heap.objs.size = none := I2.hok.fresh (Nat.le_refl _)
  obtain ⟨W, ⟨m0, w0⟩, turn⟩ := q s2.heap.objs.size hDn
  generalize hD : s2.heap.objs.size = D at *
  generalize hs3 : ({ s2 with heap := s2.heap.push { cls := .type "list", data := .seq ([] : List Value).toArray } } : Shared) = s3
  have h3 : s3.heap = s2.heap.push { cls := .type "list", data := .seq ([] : List Value).toArray } := by rw [← hs3]
  have oldk : ∀ b o, s2.heap.get? b = some o → s3.heap.get? b = some o := fun b o e => by rw [h3]; exact Heap.get?_push_of_some _ e
  have I3 : Inv X pins σ (upd H2 D (.lst [])) s3 := by
    rw [← hs3]
    refine I2.laid (t' := s2.toks) (fun b o e => Heap.get?_push_of_some _ e) (Nat.le_of_eq hD) ⟨Nat.zero_le _, [], 0, .nil, ?_⟩
    rw [← hD]
    exact Heap.get?_push_size _ rfl
  have sz : ∀ b ∈ fp, b < s2.heap.objs.size := fun b hb => by
    obtain ⟨o, e, _⟩ := T.obj _ _ st2 b hb
    exact Heap.lt_size e
  generalize hH3 : upd H2 D (.lst []) = H3 at I3 w0
  have f3 : ∀ b ∈ fp, FpOk X pins H3 b ∧ b < s3.heap.objs.size := fun b hb => by
    have lt := sz b hb
    refine ⟨⟨?_, (f2 b hb).2⟩, by rw [h3, Heap.size_push]; exact Nat.lt_succ_of_lt lt⟩
    rw [← hH3, upd_ne (by rw [← hD]; exact Nat.ne_of_lt lt)]
    exact (f2 b hb).1
  have st3 : tn 0 s3.heap := T.keep _ _ _ st2 fun b _ o e => oldk b o e
  have I4 := block_start I3 ok hN f3
  have pg := hg s3 H3 s3.heap.objs.size (cellsFrom (s3.heap.objs.size + 1) scope.names (cloFrom X.env.cells scope.names [])) fp
  have pt := ht s3 H3 s3.heap.objs.size (cellsFrom (s3.heap.objs.size + 1) scope.names (cloFrom X.env.cells scope.names [])) fp
  have pe := he s3 H3 s3.heap.objs.size (cellsFrom (s3.heap.objs.size + 1) scope.names (cloFrom X.env.cells scope.names [])) fp
  show codeAny _ _ (.compStart (.ListComp elt [⟨tg, iter, ifs, 0⟩] scope pos) 0 (.ref it) (.ref D) (compEnvC scope (cellsFrom (s3.heap.objs.size + 1) scope.names (cloFrom X.env.cells scope.names [])) s3.heap.objs.size X.env)) (compEnds (model X.prog X.w) X.A X.xe none (EP X pins σ Q) (.ref D) (compEnvC scope (cellsFrom (s3.heap.objs.size + 1) scope.names (cloFrom X.env.cells scope.names [])) s3.heap.objs.size X.env)) { s3 with heap := pushCells (s3.heap.push { cls := .type "dict", data := .dict #[] }) scope.names }
  have nfp : ∀ b ∈ fp, H3 b = none := fun b hb => (f3 b hb).1.1
  generalize hce : compEnvC scope (cellsFrom (s3.heap.objs.size + 1) scope.names (cloFrom X.env.cells scope.names [])) s3.heap.objs.size X.env = ce at I4 pg pt pe ⊢
  have cL : ce.locals = s3.heap.objs.size := by subst hce; rfl
  have cF : ce.frame = X.env.frame := by subst hce; rfl
  generalize hs4 : ({ s3 with heap := pushCells (s3.heap.push { cls := .type "dict", data := .dict #[] }) scope.names } : Shared) = s4 at I4 ⊢
  have st4 : tn 0 s4.heap := T.keep _ _ _ st3 fun b _ o e => by rw [← hs4]; exact pushCells_keeps _ _ _ _ (Heap.get?_push_of_some _ e)
  have stat : ∀ {σ' : L2.St} {H' : Hp} {s' : Shared}, Inv (X.blk s3 H3 scope ce fp) [] σ' H' s' → (∀ b ∈ fp, H' b = none) → ∀ b ∈ fp, FpOk (X.blk s3 H3 scope ce fp) [] H' b := fun {σ' H' s'} I' hn b hb =>
    ⟨hn b hb, (I'.ok.exf b hb).1, I'.ok.exfs b hb, .inl hb, fun x c e => (I'.ok.exf b hb).2 x c e, fun p hp => absurd (show p ∈ ([] : List (Addr × Obj)) ++ [] from hp) (by simp)⟩
  have loop : codeAny (model X.prog X.w) X.A (.compLoop (.ListComp elt [⟨tg, iter, ifs, 0⟩] scope pos) 0 (.ref it) (.ref D) ce) (compEnds (model X.prog X.w) X.A X.xe none (EP X pins σ Q) (.ref D) ce) s4 := by
    refine compLoop_any (fun n s' => ∃ i H', Inv (X.blk s3 H3 scope ce fp) [] (wipe σ (own.map (·.2))) H' s' ∧ tn i s'.heap ∧ (∀ b ∈ fp, H' b = none) ∧ W i n H') ?_ m0 ⟨0, H3, I4, st4, nfp, w0⟩
    rintro n s5 ⟨i, H5, I5, st5, n5, w5⟩
    rcases turn i n H5 w5 with ⟨stop, qq⟩ | ⟨go, Nx, hNx, step⟩
    · refine thnF (T.done (X.blk s3 H3 scope ce fp) rfl rfl rfl hc i [] s5 _ H5 (fun _ _ => False) I5 (stat I5 n5) st5 stop) fun r s6 ⟨hr, I6⟩ => ?_
      subst hr
      have I7 : Inv X pins σ H5 s6 := I3.call' (ch := fp) I6.os I6.base I6.hok I6.bare fun b hb => ⟨(f3 b hb).1.2.2.2.1, (f3 b hb).1.2.1, (f3 b hb).1.2.2.2.2.1, (f3 b hb).1.2.2.2.2.2⟩
      have nC : H5 s3.heap.objs.size = none := by
        have z : H5 ce.locals = none := I6.free
        rw [cL] at z
        exact z
      obtain ⟨m, hn, _⟩ := I6.loc
      have hn : s6.heap.Ns ce.locals m := hn
      obtain ⟨f0, f1, f2, f3, f4, f5⟩ := I3.fpOk (Nat.le_refl _) nC
      exact ⟨m, hn, fun h'' sb => ⟨.ref D, H5, I7.turned (t' := s6.toks) (fun b o hb e => (sb.2 b (by rw [cL]; exact hb)).trans e) f0 f1 f3 f4 f5, rfl, qq⟩⟩
    · refine thnF (T.item (X.blk s3 H3 scope ce fp) rfl rfl rfl hc i [] s5 _ H5 (fun _ _ => False) I5 (stat I5 n5) st5 go) fun r s6 ⟨u, hr, h6⟩ => ?_
      subst hr
      refine thnF h6 fun _ s7 ⟨x, H7, I7, r7, y7, st7, n7⟩ => ?_
      have I7' := I7.pinned (stat I7 n7) (T.obj _ _ st7)
      refine thnF (pg.run _ s7 _ H7 x u _ I7' r7 (step x H7 y7)) fun _ s8 ⟨σ8, H8, I8, hw8, q8⟩ => ?_
      refine thnF (pt.run _ s8 σ8 H8 _ I8 q8) fun b s9 ⟨H9, I9, q9⟩ => ?_
      have fin : ∀ {s' : Shared} {H' : Hp}, Inv (X.blk s3 H3 scope ce fp) ([] ++ pinsAt fp s7.heap) σ8 H' s' → Nx H' → ∃ m, m < n ∧ ∃ i H', Inv (X.blk s3 H3 scope ce fp) [] (wipe σ (own.map (·.2))) H' s' ∧ tn i s'.heap ∧ (∀ b ∈ fp, H' b = none) ∧ W i m H' := fun {s' H'} I' nx => by
        obtain ⟨m', hm, w'⟩ := hNx H' nx
        have pin' : ∀ b ∈ fp, ∀ o, s7.heap.get? b = some o → s'.heap.get? b = some o ∧ H' b = none := fun b hb o e =>
          let z := I'.pin (b, o) (List.mem_append_right _ (List.mem_append_right _ (mem_pinsAt hb e)))
          ⟨z.1, z.2.1⟩
        refine ⟨m', hm, i + 1, H', (I'.unpinned (pins := [])).weak (by rw [← hw8, wipe_length]) (fun j v e => ?_), T.keep _ _ _ st7 fun b hb o e => (pin' b hb o e).1, fun b hb => ?_, w'⟩
        · rw [← hw8] at e
          exact (wipe_some e).1
        · obtain ⟨o, e, _⟩ := T.obj _ _ st7 b hb
          exact (pin' b hb o e).2
      cases b with
      | false =>
        simp only [Bool.false_eq_true, if_false] at q9 ⊢
        exact fin I9 q9
      | true =>
        simp only [if_true] at q9 ⊢
        refine wpAny_mono (pe.run _ s9 σ8 H9 _ (I9.wish _) q9) (fun z s10 hz => ?_) fun e s' x => blk_fails I3 f3 tk hS hf cL cF x
        obtain ⟨yv, H10, I10, r10, acc, hD10, hz10, nx⟩ := hz
        exact app_ok (X := X.blk s3 H3 scope ce fp) I10.unwish hD10 hz10 r10 fun s11 I11 => fin I11 nx
  exact codeAny_compStart_list loop (T.self X.A 0 _ _ _ st4 loop)
/-- what an element's callee lets out -/
theorem passB {s : Shared} {H : Hp} {scope : Scope} {ce : Env} {fp : List Addr} {E : XK} : Passes (CX X.prog X.w) ((X.blk s H scope ce fp).wish (XF X (X.blk s H scope ce fp) E)) E := fun pins σ H' s' _ _ I c => ⟨pins, σ, H', s', I.unwish, c⟩
end
end LX
namespace G
open PySem PySem.Spec PyProof.Rows L2
section
variable {X : Cx}
/-- a short text, so many times -/
theorem op_mulS : OpR X (binaryOp .Mult) (fun x y H Q => ∃ (a : Str) (n : Nat), x = .str a ∧ y = .int n ∧ a.length ≤ 16 ∧ n ≤ 1000000 ∧ Q (.str (Txt.mul a n)) H) := by
  intro pins s σ H x y v u Q I rx ry h
  obtain ⟨a, n, rfl, rfl, h1, h2, q⟩ := h
  obtain ⟨t, rfl⟩ := rx
  obtain ⟨t', rfl⟩ := ry
  exact SB.mul (mulOk_of 16 1048576 (by omega) (by omega) (by omega) (by decide) (by decide)) fun t' k => ⟨.str (Txt.mul a n), H, I.tok _, ⟨_, rfl⟩, q⟩
end
end G
namespace G
open PySem PySem.Spec PyProof.Rows L2 Evl
/-! ## a, *b = a list -/
def gStar1 (K : PySem.W.Frag) (t : TGs) : TG := fun v σ H Q => ∃ (a : Addr) (x : V) (xs : List V), v = .ref a ∧ SqL K H a (x :: xs) ∧ xs.length ≤ 16000 ∧ ∀ d, H d = none → t [x, .ref d] σ (upd H d (.lst xs)) Q
theorem unpack_star1 {prog : Program} {w : World} {A : Around} {E : Value → Shared → Prop} {s : Shared} {l : Addr} {items : Array Value} {y : Value} {ys : List Value} {Q : List Value → Shared → Prop} (hl : s.heap.IsList l items) (hh : A.handled = none) (hz : items.size ≤ 16384) (hy : items.toList = y :: ys)
    (h : ∀ h' tk, Heap.ExtBut s.heap.objs.size s.heap h' → Q [y, .ref h'.objs.size] { s with heap := h'.push { cls := .type "list", data := .seq ys.toArray }, toks := tk }) : wpAny (model prog w) A (unpackItems (.ref l) 2 (some 1)) Q E s := by
  have hlt : l ≠ s.heap.objs.size := by obtain ⟨o, ho, _⟩ := hl; exact Nat.ne_of_lt (Heap.lt_size ho)
  have hll : l < s.heap.objs.size := by obtain ⟨o, ho, _⟩ := hl; exact Heap.lt_size ho
  have hsz : items.size = ys.length + 1 := by have := congrArg List.length hy; simpa using this
  unfold unpackItems
  refine wpAny_bind ?_
  unfold notIterableAtAll
  refine wpAny_bind (wpAny_specialOf hl.typeIs slot_list_iter.lookup ?_)
  refine wpAny_pure ?_
  simp only [Bool.false_eq_true, if_false]
  refine wpAny_bind (wpAny_holding (wpAny_pyIter_list hl ?_))
  refine wpAny_bind (wpAny_holding (PySem.W.kun_draw hlt 1 0 _ _ ⟨_, Heap.get?_push_size _ rfl, rfl, rfl⟩ (hl.push _) (by omega) fun h₁ hit₁ hs₁ => ?_))
  have hl₁ : h₁.IsList l items := (hl.push _).extBut hs₁.extBut hlt
  rw [Nat.zero_add] at hit₁
  have hit₁' := hit₁
  obtain ⟨oi, hoi, _⟩ := hit₁'
  have hl₁' := hl₁
  obtain ⟨ol, hol, _⟩ := hl₁'
  rw [List.drop_zero, hy]
  show wpAny _ _ (if (1 : Nat) < 1 then _ else _) _ _ _
  rw [if_neg (by decide)]
  refine wpAny_bind (wpAny_holding (PySem.W.kun_collect (s := { s with heap := h₁ }) (T := "list_iterator") (.inr (.inr (.inl rfl))) (Walks.list (A := A.in1) hh s.heap.objs.size l hlt items) (fun j u st => st.1.typeIs) (k := 1) (by omega) ⟨hit₁, hl₁⟩ (Heap.lt_size hoi) (Heap.lt_size hol) (fun h₂ tk hk => ?_) (by rw [sizeLine_eq]; omega)))
  rw [hy]
  show wpAny _ _ (if ys.length < 0 then _ else _) _ _ _
  rw [if_neg (by omega)]
  show wpAny _ _ (newList (ys.take (ys.length - 0)) >>= fun d => pure ([y] ++ [d] ++ ys.drop (ys.length - 0))) _ _ _
  rw [Nat.sub_zero, List.take_length, List.drop_length]
  have he : Heap.ExtBut s.heap.objs.size s.heap h₂ := fun b o hb e => hk b o hb (hs₁.extBut b o hb (Heap.get?_push_of_some _ e))
  exact wpAny_bind (wpAny_newList (wpAny_pure (h h₂ tk he)) (by rw [sizeLine_eq]; omega))
theorem pg_star1 {X : Cx} {es : List Expr} {k : Nat} {pos : Pos} {t : TGs} (hc : X.calm = true) (h : PGs X es t)
    (hn : (assignEach es X.env).length = 2 := by rfl) (hst : (assignEach es X.env).findIdx? (·.1) = some 1 := by rfl) : PG X (.Tuple es k pos) (gStar1 X.K t) := by
  refine ⟨fun pins s σ H v u Q I r hw => ?_⟩
  obtain ⟨a, x, xs, e1, hq, hl, hw⟩ := hw
  subst e1
  cases r
  obtain ⟨its, rv, pl, hlen⟩ := I.list hq
  cases rv with
  | @cons _ y _ ys ry rys =>
  rw [assign_Tuple]
  refine wpAny_bind (wpAny_standAt ?_)
  unfold unpack
  rw [hn, hst]
  have hys : ys.length = xs.length := rys.length.symm
  have hlen : xs.length + 1 ≤ sizeLine := hlen
  refine wpAny_bind (wpAny_holding (unpack_star1 pl.isList (I.ok.hd hc) (by simp; omega) (ys := ys) rfl fun h' tk he => ?_))
  have I1 : Inv X pins σ H { s with heap := h', toks := tk } := I.kept fun b o e => he b o (Nat.ne_of_lt (Heap.lt_size e)) e
  have hf : H h'.objs.size = none := I1.hok.fresh (Nat.le_refl _)
  refine h.run pins _ σ _ [x, .ref h'.objs.size] _ Q (I1.laid (o := .lst xs) (t' := tk) (fun b u e => Heap.get?_push_of_some _ e) (Nat.le_refl _) ⟨by omega, ys, 0, rys, Heap.get?_push_size _ rfl⟩) (.cons ry (.cons rfl .nil)) (hw _ hf)
end G
namespace G
open PySem PySem.Spec PyProof.Rows L2 Evl
theorem pgs_star {X : Cx} {e : Expr} {p : Pos} {es : List Expr} {t : TG} {u : TGs} (h1 : PG X e t) (h2 : PGs X es u)
    (hs : (assignEach (.Starred e p :: es) X.env).map (·.2) = assign e X.env :: (assignEach es X.env).map (·.2) := by rfl) : PGs X (.Starred e p :: es) (gCons t u) := by
  refine ⟨fun pins s σ H vs us Q I r h => ?_⟩
  obtain ⟨v, vr, e1, h⟩ := h
  subst e1
  cases r with
  | cons r rr =>
    rw [hs]
    refine assignInOrder_cons (thn (h1.run pins s σ H _ _ _ I r h) fun _ s1 ⟨σ1, H1, I1, q1⟩ => ?_)
    exact h2.run pins s1 σ1 H1 _ _ Q I1 rr q1
end G
namespace G
open PySem PySem.Spec PyProof.Rows L2 Evl
theorem tYes_in {σ : L2.St} {H : Hp} {A B : Hp → Prop} (h : A H) : tYes σ H (fun b H3 => if b = true then A H3 else B H3) := by
  show if true = true then A H else B H
  exact iteT h
def tabV (bs : List Bool) : HO := .tup (bs.map V.bl)
theorem inV_ints {k : Int} {l : List Int} : inV (.int k) (l.map V.int) = l.contains k := by
  unfold inV
  rw [List.any_map, List.contains_eq_any_beq]
  congr 1
  funext y
  show (y == k) = (k == y)
  rw [Bool.eq_iff_iff]; simp; exact eq_comm
theorem inV_bls {k : Bool} {l : List Bool} : inV (.bl k) (l.map V.bl) = l.contains k := by
  unfold inV
  rw [List.any_map, List.contains_eq_any_beq]
  congr 1
  funext y
  show (y == k) = (k == y)
  cases y <;> cases k <;> rfl
theorem flat_map {α : Type} {f : α → V} (h : ∀ x, flatV (f x) = true) (l : List α) : (l.map f).all flatV = true := by
  rw [List.all_map]
  exact List.all_eq_true.mpr fun x _ => h x
theorem tif_by {tt : TE} {σ : L2.St} {H : Hp} {Q : VK} (R : V → Hp → Prop) (h : ∀ Q' : VK, (∀ v H', R v H' → Q' v H') → tt σ H Q') (rest : ∀ v H', R v H' → Q v H') : tt σ H Q := h Q rest
theorem bl_eq (a b : Bool) : decide (V.bl a = V.bl b) = decide (a = b) := by cases a <;> cases b <;> rfl
end G
namespace G
open PySem PySem.Spec PyProof.Rows L2 Evl
/-! ## two lists side by side -/
def All2 {α β : Type} (R : α → β → Prop) (as : List α) (bs : List β) : Prop := as.length = bs.length ∧ ∀ (i : Nat) (a : α) (b : β), as[i]? = some a → bs[i]? = some b → R a b
theorem All2.nil {α β : Type} {R : α → β → Prop} : All2 R [] [] := ⟨rfl, fun _ _ _ h => nomatch h⟩
theorem All2.imp {α β : Type} {R S : α → β → Prop} {as : List α} {bs : List β} (h : All2 R as bs) (f : ∀ a b, R a b → S a b) : All2 S as bs := ⟨h.1, fun i a b h1 h2 => f _ _ (h.2 i a b h1 h2)⟩
theorem All2.snoc {α β : Type} {R : α → β → Prop} {as : List α} {bs : List β} {a : α} {b : β} (h : All2 R as bs) (r : R a b) : All2 R (as ++ [a]) (bs ++ [b]) := by
  refine ⟨by rw [List.length_append, List.length_append, h.1]; rfl, fun i x y h1 h2 => ?_⟩
  by_cases hi : i < as.length
  · rw [List.getElem?_append_left hi] at h1
    rw [List.getElem?_append_left (h.1 ▸ hi)] at h2
    exact h.2 i x y h1 h2
  · rw [List.getElem?_append_right (by omega)] at h1
    rw [List.getElem?_append_right (by rw [← h.1]; omega), ← h.1] at h2
    cases e : i - as.length with
    | zero =>
      rw [e] at h1 h2
      cases h1; cases h2; exact r
    | succ n => rw [e] at h1; exact nomatch h1
theorem All2.at_ {α β : Type} {R : α → β → Prop} {as : List α} {bs : List β} (h : All2 R as bs) {i : Nat} {a : α} (e : as[i]? = some a) : ∃ b, bs[i]? = some b ∧ R a b := by
  have hi : i < bs.length := by rw [← h.1]; exact (List.getElem?_eq_some_iff.mp e).1
  exact ⟨bs[i], List.getElem?_eq_getElem hi, h.2 i a _ e (List.getElem?_eq_getElem hi)⟩
theorem All2.of {α β : Type} {R : α → β → Prop} {as : List α} {bs : List β} (h : All2 R as bs) {i : Nat} {b : β} (e : bs[i]? = some b) : ∃ a, as[i]? = some a ∧ R a b := by
  have hi : i < as.length := by rw [h.1]; exact (List.getElem?_eq_some_iff.mp e).1
  exact ⟨as[i], List.getElem?_eq_getElem hi, h.2 i _ b (List.getElem?_eq_getElem hi) e⟩
theorem All2.cons {α β : Type} {R : α → β → Prop} {as : List α} {bs : List β} {a : α} {b : β} (r : R a b) (h : All2 R as bs) : All2 R (a :: as) (b :: bs) := by
  refine ⟨by rw [List.length_cons, List.length_cons, h.1], fun i x y h1 h2 => ?_⟩
  cases i with
  | zero => cases h1; cases h2; exact r
  | succ i => exact h.2 i x y h1 h2
theorem take_snoc1 {α : Type} {l : List α} {j : Nat} {x : α} (h : l[j]? = some x) : l.take (j + 1) = l.take j ++ [x] := by rw [List.take_add_one, h]; rfl
theorem refs_get {as : List Addr} {k : Nat} {x : V} (hx : (as.map V.ref)[k]? = some x) : ∃ a, as[k]? = some a ∧ x = .ref a := by
  rw [List.getElem?_map] at hx
  cases e : as[k]? with
  | none => rw [e] at hx; cases hx
  | some a => rw [e] at hx; cases hx; exact ⟨a, rfl, rfl⟩
/-! ## walks: any body -/
theorem wk_list {K : PySem.W.Frag} {a : Addr} {xs : List V} {body : (Hp → Prop) → V → Hp → Prop} {H0 : Hp} {Qd : Hp → Prop} (Pv : Nat → Hp → Prop) (h0 : Pv 0 H0) (hl : ∀ i H, i ≤ xs.length → Pv i H → SqL K H a xs)
    (hs : ∀ i x H, xs[i]? = some x → Pv i H → body (Pv (i + 1)) x H) (hd : ∀ H, Pv xs.length H → Qd H) :
    ∃ W : Nat → Nat → Hp → Prop, (∃ m, W 0 m H0) ∧ ∀ i m H, W i m H → ((Itl K a).stop i H ∧ Qd H) ∨ ((Itl K a).go i H ∧ ∃ Nx : Hp → Prop, (∀ H', Nx H' → ∃ m', m' < m ∧ W (i + 1) m' H') ∧ ∀ x H', (Itl K a).yld i H x H' → body Nx x H') := by
  refine ⟨fun i m H => m = xs.length - i ∧ i ≤ xs.length ∧ Pv i H, ⟨xs.length, by simp, Nat.zero_le _, h0⟩, ?_⟩
  rintro i m H ⟨rfl, hi, p⟩
  have q := hl i H hi p
  rcases Nat.lt_or_ge i xs.length with lt | ge
  · have e : xs[i]? = some xs[i] := List.getElem?_eq_getElem lt
    refine .inr ⟨⟨xs, xs[i], q, e⟩, Pv (i + 1), fun H' p' => ⟨xs.length - (i + 1), by omega, rfl, lt, p'⟩, fun x H' y => ?_⟩
    obtain ⟨rfl, y⟩ := y
    exact hs i x _ (y xs q) p
  · have e : i = xs.length := by omega
    subst e
    exact .inl ⟨⟨xs, q, Nat.le_refl _⟩, hd H p⟩
theorem wk_tup {K : PySem.W.Frag} {a : Addr} {xs : List V} {body : (Hp → Prop) → V → Hp → Prop} {H0 : Hp} {Qd : Hp → Prop} (Pv : Nat → Hp → Prop) (h0 : Pv 0 H0) (hl : ∀ i H, i ≤ xs.length → Pv i H → SqT K H a xs)
    (hs : ∀ i x H, xs[i]? = some x → Pv i H → body (Pv (i + 1)) x H) (hd : ∀ H, Pv xs.length H → Qd H) :
    ∃ W : Nat → Nat → Hp → Prop, (∃ m, W 0 m H0) ∧ ∀ i m H, W i m H → ((Itt K a).stop i H ∧ Qd H) ∨ ((Itt K a).go i H ∧ ∃ Nx : Hp → Prop, (∀ H', Nx H' → ∃ m', m' < m ∧ W (i + 1) m' H') ∧ ∀ x H', (Itt K a).yld i H x H' → body Nx x H') := by
  refine ⟨fun i m H => m = xs.length - i ∧ i ≤ xs.length ∧ Pv i H, ⟨xs.length, by simp, Nat.zero_le _, h0⟩, ?_⟩
  rintro i m H ⟨rfl, hi, p⟩
  have q := hl i H hi p
  rcases Nat.lt_or_ge i xs.length with lt | ge
  · have e : xs[i]? = some xs[i] := List.getElem?_eq_getElem lt
    refine .inr ⟨⟨xs, xs[i], q, e⟩, Pv (i + 1), fun H' p' => ⟨xs.length - (i + 1), by omega, rfl, lt, p'⟩, fun x H' y => ?_⟩
    obtain ⟨rfl, y⟩ := y
    exact hs i x _ (y xs q) p
  · have e : i = xs.length := by omega
    subst e
    exact .inl ⟨⟨xs, q, Nat.le_refl _⟩, hd H p⟩
theorem wk_it {J : It} {n : Nat} {Gd : Hp → Prop} {Y : Nat → Hp → V → Hp → Prop} (w : Walk J n Gd Y) {body : (Hp → Prop) → V → Hp → Prop} {H0 : Hp} {Qd : Hp → Prop} (Pv : Nat → Hp → Prop) (h0 : Pv 0 H0) (hG : ∀ i H, i ≤ n → Pv i H → Gd H)
    (hs : ∀ i x H H', i < n → Pv i H → Y i H x H' → body (Pv (i + 1)) x H') (hd : ∀ H, Pv n H → Qd H) :
    ∃ W : Nat → Nat → Hp → Prop, (∃ m, W 0 m H0) ∧ ∀ i m H, W i m H → (J.stop i H ∧ Qd H) ∨ (J.go i H ∧ ∃ Nx : Hp → Prop, (∀ H', Nx H' → ∃ m', m' < m ∧ W (i + 1) m' H') ∧ ∀ x H', J.yld i H x H' → body Nx x H') := by
  refine ⟨fun i m H => m = n - i ∧ i ≤ n ∧ Pv i H, ⟨n, by simp, Nat.zero_le _, h0⟩, ?_⟩
  rintro i m H ⟨rfl, hi, p⟩
  rcases Nat.lt_or_ge i n with lt | ge
  · exact .inr ⟨w.goes i H lt (hG i H hi p), Pv (i + 1), fun H' p' => ⟨n - (i + 1), by omega, rfl, lt, p'⟩, fun x H' y => hs i x H H' lt p (w.yields i H x H' lt (hG i H hi p) y)⟩
  · have e : i = n := by omega
    subst e
    exact .inl ⟨w.stops H (hG i H hi p), hd H p⟩
/-! ## tuples joined and cut, whatever object that is -/
theorem cat_tup {K : PySem.W.Frag} {H : Hp} {a b : Addr} {xs ys : List V} {Q : VK} (ha : H a = some (.tup xs)) (hb : H b = some (.tup ys)) (hl : xs.length + ys.length ≤ sizeLine) (q : ∀ c H', Ex H H' → H' c = some (.tup (xs ++ ys)) → Q (.ref c) H') : rCatA K (.ref a) (.ref b) H Q := by
  refine ⟨a, b, xs, ys, rfl, rfl, SqT.of ha, SqT.of hb, hl, fun e => ?_, fun _ e => ?_, fun _ _ p np => ?_⟩
  · subst e; exact q b H (Ex.refl _) hb
  · subst e; exact q a H (Ex.refl _) (by rw [List.append_nil]; exact ha)
  · exact q p _ (Ex.new np) upd_same
theorem cut_tup {K : PySem.W.Frag} {H : Hp} {a : Addr} {xs : List V} {lo hi : Option Int} {Q : VK} (ha : H a = some (.tup xs)) (q : ∀ c H', Ex H H' → H' c = some (.tup (cutV xs lo hi)) → Q (.ref c) H') : rSlA K (.ref a) lo hi H Q := by
  refine ⟨a, xs, rfl, SqT.of ha, fun e => ?_, fun _ p np => q p _ (Ex.new np) upd_same⟩
  refine q a H (Ex.refl _) ?_
  rw [ha]
  unfold cutV
  rw [e.1, e.2, List.drop_zero, Nat.sub_zero, List.take_length]
theorem cutV_head {xs : List V} {k : Nat} (h : k ≤ xs.length) : cutV xs none (some (k : Int)) = xs.take k := by
  unfold cutV
  rw [HT.sIx_none, HT.sIx_nat, List.drop_zero, Nat.sub_zero, Nat.min_eq_left h]
theorem cutV_tail {xs : List V} {k : Nat} (h : k ≤ xs.length) : cutV xs (some (k : Int)) none = xs.drop k := by
  unfold cutV
  rw [HT.sIx_none, HT.sIx_nat, Nat.min_eq_left h, List.take_of_length_le]
  rw [List.length_drop]; exact Nat.le_refl _
end G
/-! ## texts -/
namespace G
open PySem PySem.Spec PyProof.Rows L2 Evl TL
open PySem.StrLaws (At occBody occ_eq occ_first)
open PySem.Builtin.Str (occurrences)
/-- the text of these signs -/
def mk (l : List Nat) : Str := ⟨l.toArray⟩
theorem tl_mkS (l : List Nat) : tl (mk l) = l := rfl
theorem mk_tlS (x : Str) : mk (tl x) = x := mk_tl x
theorem mk_inj {a b : List Nat} : mk a = mk b ↔ a = b := ⟨fun h => by have := congrArg tl h; exact this, fun h => by rw [h]⟩
theorem mk_app (a b : List Nat) : mk a ++ mk b = mk (a ++ b) := ext_tl (by rw [tl_append, tl_mkS, tl_mkS, tl_mkS])
theorem mk_len (a : List Nat) : (mk a).length = a.length := by rw [len_tl, tl_mkS]
theorem mk_one (c : Nat) : (⟨#[c]⟩ : Str) = mk [c] := rfl
theorem decV_str (a b : Str) : decide (V.str a = V.str b) = decide (a = b) := by
  by_cases h : a = b
  · rw [h, decide_eq_true rfl, decide_eq_true rfl]
  · rw [decide_eq_false h, decide_eq_false fun q => h (V.str.inj q)]
theorem decV_mk (a b : List Nat) : decide (V.str (mk a) = V.str (mk b)) = decide (a = b) := by
  rw [decV_str]
  by_cases h : a = b
  · rw [h, decide_eq_true rfl, decide_eq_true rfl]
  · rw [decide_eq_false h, decide_eq_false fun q => h (mk_inj.mp q)]
theorem occ_from (x y : Str) (lo : Nat) : (occurrences x y lo x.length 1 = [] ∧ ∀ k, lo ≤ k → ¬ At x y x.length k) ∨ ∃ k r, occurrences x y lo x.length 1 = k :: r ∧ lo ≤ k ∧ At x y x.length k ∧ ∀ j, lo ≤ j → j < k → ¬ At x y x.length j := by
  rw [occ_eq]
  have hmem : ∀ k, At x y x.length k → lo ≤ k → k ∈ List.range' lo (x.length + 1 - lo) := fun k hk hl => by
    have := hk.1
    simp [List.mem_range'_1]; omega
  rcases occ_first x y x.length 1 (by decide) (List.range' lo (x.length + 1 - lo)) lo (fun i hi => by simp [List.mem_range'_1] at hi; omega) with ⟨h0, hn⟩ | ⟨pr, a, post, e, h0, ha, hn⟩
  · exact .inl ⟨by rw [h0], fun k hl hk => hn k (hmem k hk hl) hk⟩
  · have hal : lo ≤ a := by
      have : a ∈ List.range' lo (x.length + 1 - lo) := by rw [e]; simp
      simp [List.mem_range'_1] at this; omega
    refine .inr ⟨a, ((forIn (List.range' lo (x.length + 1 - lo)) ((#[] : Array Nat), lo) (occBody x y x.length 1)).run.fst.toList).tail, ?_, hal, ha, fun j hl hj hA => ?_⟩
    · generalize (forIn (List.range' lo (x.length + 1 - lo)) ((#[] : Array Nat), lo) (occBody x y x.length 1)).run.fst = arr at h0
      have h1 : arr.toList[0]? = some a := by simpa using h0
      cases hL : arr.toList with
      | nil => rw [hL] at h1; cases h1
      | cons b t => rw [hL] at h1; simp at h1; rw [h1]; rfl
    · have hm := hmem j hA hl
      rw [e] at hm
      have hs : (pr ++ a :: post).Pairwise (· < ·) := by rw [← e]; exact List.pairwise_lt_range'
      rcases List.mem_append.mp hm with z | z
      · exact hn j z hA
      · rcases List.mem_cons.mp z with z | z
        · omega
        · have := (List.pairwise_cons.mp (List.pairwise_append.mp hs).2.1).1 j z
          omega
theorem at_one {x : Str} {c k : Nat} : At x (mk [c]) x.length k ↔ (tl x)[k]? = some c := by
  rw [at_iff (by rw [tl_mkS]; simp), tl_mkS]
  unfold pre
  show (((tl x).drop k).take 1 == [c]) = true ↔ _
  rw [beq_iff_eq]
  have h0 : (tl x)[k]? = ((tl x).drop k)[0]? := by rw [List.getElem?_drop, Nat.add_zero]
  rw [h0]
  cases (tl x).drop k with
  | nil => simp
  | cons d r => simp
theorem find_hit {x : Str} {c i : Nat} {body rest : List Nat} (h : (tl x).drop i = body ++ c :: rest) (hb : c ∉ body) : Txt.find3 x (mk [c]) (i : Int) = ((i + body.length : Nat) : Int) := by
  unfold Txt.find3
  rw [show PySem.fromIndex x.length (i : Int) = i by unfold PySem.fromIndex; rw [if_neg (by omega)]; omega]
  have hat : ∀ j, (tl x)[i + j]? = (body ++ c :: rest)[j]? := fun j => by rw [← h, List.getElem?_drop]
  have hhit : At x (mk [c]) x.length (i + body.length) := at_one.mpr (by rw [hat, List.getElem?_append_right (Nat.le_refl _), Nat.sub_self]; rfl)
  rcases occ_from x (mk [c]) i with ⟨_, hn⟩ | ⟨k, r, e, hl, hA, hn⟩
  · exact absurd hhit (hn _ (by omega))
  · rw [e]
    show ((k : Nat) : Int) = _
    have h1 : ¬ i + body.length < k := fun q => hn _ (by omega) q hhit
    have h2 : ¬ k < i + body.length := fun q => by
      have := at_one.mp hA
      obtain ⟨j, rfl⟩ : ∃ j, k = i + j := ⟨k - i, by omega⟩
      rw [hat, List.getElem?_append_left (by omega)] at this
      exact hb (List.mem_of_getElem? this)
    omega
theorem find_miss {x : Str} {c i : Nat} (h : c ∉ (tl x).drop i) : Txt.find3 x (mk [c]) (i : Int) = -1 := by
  unfold Txt.find3
  rw [show PySem.fromIndex x.length (i : Int) = i by unfold PySem.fromIndex; rw [if_neg (by omega)]; omega]
  rcases occ_from x (mk [c]) i with ⟨e, _⟩ | ⟨k, r, e, hl, hA, hn⟩
  · rw [e]
  · have := at_one.mp hA
    obtain ⟨j, rfl⟩ : ∃ j, k = i + j := ⟨k - i, by omega⟩
    rw [← List.getElem?_drop] at this
    exact absurd (List.mem_of_getElem? this) h
theorem starts_at {x y : Str} {i : Nat} (hy : tl y ≠ []) : Txt.startswith3 x y (i : Int) = pre (tl y) ((tl x).drop i) := by
  unfold Txt.startswith3
  rw [show PySem.fromIndex x.length (i : Int) = i by unfold PySem.fromIndex; rw [if_neg (by omega)]; omega]
  have h := at_iff (x := x) hy i
  unfold At at h
  rw [Bool.eq_iff_iff, Bool.and_eq_true, decide_eq_true_iff]
  exact h
theorem pre_iff {S L : List Nat} : pre S L = true ↔ ∃ r, L = S ++ r := by
  unfold pre
  rw [beq_iff_eq]
  constructor
  · intro h; exact ⟨L.drop S.length, by conv => lhs; rw [← List.take_append_drop S.length L, h]⟩
  · rintro ⟨r, rfl⟩; exact List.take_left' rfl
/-- the signs of x from i to j -/
theorem cut_nat {x : Str} {i j : Nat} (hi : i ≤ j) (hj : j ≤ x.length) : cutS x (some (i : Int)) (some (j : Int)) = mk (((tl x).drop i).take (j - i)) := by
  unfold cutS
  have e1 : HT.sIx x.length 0 (some (i : Int)) = i := by rw [HT.sIx_nat]; omega
  have e2 : HT.sIx x.length x.length (some (j : Int)) = j := by rw [HT.sIx_nat]; omega
  rw [e1, e2]; rfl
section
variable {tt : TT} {te : TE} {vs : List Nat} {σ : L2.St} {H1 : Hp} {D : Addr} {Qd : Hp → Prop} {j : Nat}
theorem lcSm {z : Str} (g : Nat → V) (hn : z.length ≤ 100000) (hw : ∀ x, wipe ((wipe σ vs).set j (some x)) vs = wipe σ vs)
    (he : ∀ (i c : Nat) (H : Hp), (tl z)[i]? = some c → H = upd H1 D (.lst (((tl z).take i).map g)) → Val te ((wipe σ vs).set j (some (.str (mk [c])))) H (g c)) (q : Qd (upd H1 D (.lst ((tl z).map g)))) :
    ∃ W : Nat → Nat → Hp → Prop, (∃ m, W 0 m (upd H1 D (.lst []))) ∧ ∀ i m H, W i m H →
      ((Its z).stop i H ∧ Qd H) ∨ ((Its z).go i H ∧ ∃ Nx : Hp → Prop, (∀ H', Nx H' → ∃ m', m' < m ∧ W (i + 1) m' H') ∧ ∀ x H', (Its z).yld i H x H' → gName j x (wipe σ vs) H' fun σ2 H2 => wipe σ2 vs = wipe σ vs ∧ tYes σ2 H2 fun b H3 =>
        if b = true then te σ2 H3 fun y H4 => ∃ acc, H4 D = some (.lst acc) ∧ acc.length < sizeLine ∧ Nx (upd H4 D (.lst (acc ++ [y]))) else Nx H3) :=
  lc_it walk_str (fun i H => H = upd H1 D (.lst (((tl z).take i).map g))) (by rw [List.take_zero]; rfl) (fun _ _ _ _ => trivial)
    (fun i x H H' hi e y => by
      obtain ⟨rfl, c, hc, rfl⟩ := y
      have hc' : (tl z)[i]? = some c := by rw [← hc]; simp [tl]
      refine ⟨hw _, ?_⟩
      refine iteT (B := H' = upd H1 D (.lst (((tl z).take (i + 1)).map g))) ?_
      refine he i c H' hc' e _ ?_
      subst e
      refine ⟨_, upd_same, sz_lt ?_, ?_⟩
      · rw [List.length_map, List.length_take]; have := (List.getElem?_eq_some_iff.mp hc').1; rw [len_tl] at hn; omega
      · rw [upd_upd, List.take_add_one, hc', List.map_append]; rfl)
    (fun H e => by
      have en : z.cps.size = (tl z).length := by simp [tl]
      rw [e, en, List.take_length]; exact q)
end
end G
namespace G
open PySem PySem.Spec PyProof.Rows L2 Evl TL
/-! ## records: the mathematics -/
/-- the signs of a whole number -/
def intL (i : Int) : List Nat := if i < 0 then 45 :: numL (-i).toNat else numL i.toNat
theorem tl_int (i : Int) : tl (Str.ofString (toString i)) = intL i := by
  unfold intL
  by_cases h : i < 0
  · rw [if_pos h, tl_ofString, toString_neg h, String.toList_append, List.map_append]
    have e : (0 : Int) - i = (((-i).toNat : Nat) : Int) := by omega
    have := tl_num (-i).toNat
    rw [tl_ofString] at this
    rw [e, this]
    rfl
  · rw [if_neg h]
    have := tl_num i.toNat
    rw [show ((i.toNat : Nat) : Int) = i by omega] at this
    exact this
theorem str_int (i : Int) : Str.ofString (toString i) = mk (intL i) := ext_tl (by rw [tl_int, tl_mkS])
theorem intL_nat (n : Nat) : intL (n : Int) = numL n := by
  unfold intL
  rw [if_neg (by omega), Int.toNat_natCast]
theorem intL_free {i : Int} {s : Nat} (h : s < 45 ∨ 57 < s) : s ∉ intL i := fun hm => by
  unfold intL at hm
  by_cases z : i < 0
  · rw [if_pos z] at hm
    rcases List.mem_cons.mp hm with e | e
    · omega
    · exact numL_free (by omega) e
  · rw [if_neg z] at hm
    exact numL_free (by omega) hm
/-- few digits -/
def Few (i : Int) : Prop := i.natAbs < 10 ^ 60
theorem few_len {i : Int} (h : Few i) : (intL i).length ≤ 61 := by
  unfold intL Few at *
  by_cases z : i < 0
  · rw [if_pos z]
    have := numL_len (n := (-i).toNat) (k := 60) (by decide) (by rw [show (-i).toNat = i.natAbs by omega]; exact h)
    show _ + 1 ≤ 61
    omega
  · rw [if_neg z]
    have := numL_len (n := i.toNat) (k := 60) (by decide) (by rw [show i.toNat = i.natAbs by omega]; exact h)
    omega
theorem few_digits {i : Int} (h : Few i) : (numL i.natAbs).length ≤ 60 := numL_len (by decide) h
theorem int_back {i : Int} (h : Few i) : PySem.intText? (mk (intL i)) = some i := by
  have hd := few_digits h
  unfold intL
  by_cases z : i < 0
  · rw [if_pos z]
    have e : (-i).toNat = i.natAbs := by omega
    rw [e]
    have := PySem.intText_neg (x := mk (45 :: numL i.natAbs)) (cs := numL i.natAbs) rfl (numL_digits _) (numL_ne _) (by rw [mk_len]; show _ + 1 ≤ _; omega)
    rw [this, numL_val]
    congr 1
    omega
  · rw [if_neg z]
    have e : i.toNat = i.natAbs := by omega
    rw [e]
    have := PySem.intText_digits (x := mk (numL i.natAbs)) (numL_digits _) (numL_ne _) (by rw [mk_len]; omega)
    rw [this]
    show some ((NumText.digitsVal (numL i.natAbs) : Nat) : Int) = _
    rw [numL_val]
    congr 1
    omega
theorem dig_in {n : Nat} : ∀ c ∈ numL n, c ∈ tl ("0123456789" : Str) := fun c hc => by
  have h := numL_digits n c hc
  have all : ∀ d : Fin 10, 48 + d.val ∈ tl ("0123456789" : Str) := by decide +kernel
  have := all ⟨c - 48, by omega⟩
  rw [show 48 + (c - 48) = c by omega] at this
  exact this
theorem nodash {i : Int} : tl (Txt.removeprefix (mk (intL i)) (mk [45])) = numL i.natAbs := by
  rw [PySem.StrLaws.removeprefix_eq, PySem.StrLaws.subAt_eq]
  show tl (if (decide (0 + (mk [45]).length ≤ (mk (intL i)).length) && (((tl (mk (intL i))).drop 0).take (mk [45]).length == tl (mk [45]))) = true then _ else _) = _
  rw [tl_mkS, tl_mkS, mk_len, mk_len, List.drop_zero]
  unfold intL
  by_cases z : i < 0
  · rw [if_pos z]
    have e : (-i).toNat = i.natAbs := by omega
    rw [e, if_pos (by simp)]
    show ((tl (mk (45 :: numL i.natAbs))).drop 1).take ((45 :: numL i.natAbs).length - 1) = _
    rw [tl_mkS, List.drop_succ_cons, List.drop_zero, List.length_cons, Nat.add_sub_cancel, List.take_length]
  · rw [if_neg z]
    have e : i.toNat = i.natAbs := by omega
    rw [e]
    have hne := numL_ne i.natAbs
    have hd := numL_digits i.natAbs
    generalize numL i.natAbs = l at *
    cases l with
    | nil => exact absurd rfl hne
    | cons c l =>
      have hc := hd c List.mem_cons_self
      have hx : c ≠ 45 := by have := hc.1; omega
      rw [if_neg]
      · rfl
      · intro q
        rw [Bool.and_eq_true] at q
        have q := q.2
        rw [beq_iff_eq] at q
        have q : [c] = [45] := q
        exact hx (List.head_eq_of_cons_eq q)
/-! ### runs of equal bits -/
def addB (fs : List (Nat × Bool)) (b : Bool) : List (Nat × Bool) :=
  match fs.getLast? with
  | some (n, c) => if c = b then fs.dropLast ++ [(n + 1, b)] else fs ++ [(1, b)]
  | none => [(1, b)]
def runsB (l : List Bool) : List (Nat × Bool) := l.foldl addB []
theorem addB_nil (b : Bool) : addB [] b = [(1, b)] := rfl
theorem addB_same {fs : List (Nat × Bool)} {n : Nat} {b : Bool} : addB (fs ++ [(n, b)]) b = fs ++ [(n + 1, b)] := by
  unfold addB
  rw [List.getLast?_concat]
  show (if b = b then _ else _) = _
  rw [if_pos rfl, List.dropLast_concat]
theorem addB_new {fs : List (Nat × Bool)} {n : Nat} {c b : Bool} (h : c ≠ b) : addB (fs ++ [(n, c)]) b = fs ++ [(n, c)] ++ [(1, b)] := by
  unfold addB
  rw [List.getLast?_concat]
  show (if c = b then _ else _) = _
  rw [if_neg h]
theorem snoc_cases {α : Type} (l : List α) : l = [] ∨ ∃ k x, l = k ++ [x] := by
  rcases List.eq_nil_or_concat l with e | ⟨k, x, e⟩
  · exact .inl e
  · exact .inr ⟨k, x, by rw [e, List.concat_eq_append]⟩
theorem runsB_snoc (l : List Bool) (b : Bool) : runsB (l ++ [b]) = addB (runsB l) b := by
  unfold runsB; rw [List.foldl_append]; rfl
def expB (fs : List (Nat × Bool)) : List Bool := (fs.map fun p => List.replicate p.1 p.2).flatten
theorem expB_snoc (fs : List (Nat × Bool)) (p : Nat × Bool) : expB (fs ++ [p]) = expB fs ++ List.replicate p.1 p.2 := by
  unfold expB; rw [List.map_append, List.flatten_append]; simp
/-- runs that stand apart -/
def Apart : List (Nat × Bool) → Prop
  | [] => True
  | [p] => 1 ≤ p.1
  | p :: q :: r => 1 ≤ p.1 ∧ p.2 ≠ q.2 ∧ Apart (q :: r)
theorem apart_snoc : ∀ {fs : List (Nat × Bool)} {n : Nat} {c : Bool} {p : Nat × Bool}, Apart (fs ++ [(n, c)]) → c ≠ p.2 → 1 ≤ p.1 → Apart (fs ++ [(n, c)] ++ [p])
  | [], n, c, p, h, hc, hp => ⟨h, hc, hp⟩
  | [q], n, c, p, h, hc, hp => ⟨h.1, h.2.1, h.2.2, hc, hp⟩
  | q :: r :: fs, n, c, p, h, hc, hp => ⟨h.1, h.2.1, apart_snoc (fs := r :: fs) h.2.2 hc hp⟩
theorem apart_more : ∀ {fs : List (Nat × Bool)} {n : Nat} {c : Bool}, Apart (fs ++ [(n, c)]) → Apart (fs ++ [(n + 1, c)])
  | [], n, c, h => Nat.le_succ_of_le h
  | [q], n, c, h => ⟨h.1, h.2.1, Nat.le_succ_of_le h.2.2⟩
  | q :: r :: fs, n, c, h => ⟨h.1, h.2.1, apart_more (fs := r :: fs) h.2.2⟩
theorem apart_init : ∀ {fs : List (Nat × Bool)} {p : Nat × Bool}, Apart (fs ++ [p]) → Apart fs
  | [], _, _ => trivial
  | [q], _, h => h.1
  | q :: r :: fs, _, h => ⟨h.1, h.2.1, apart_init (fs := r :: fs) h.2.2⟩
theorem apart_last : ∀ {fs : List (Nat × Bool)} {p q : Nat × Bool}, Apart (fs ++ [p] ++ [q]) → p.2 ≠ q.2 ∧ 1 ≤ q.1
  | [], _, _, h => ⟨h.2.1, h.2.2⟩
  | [_], _, _, h => ⟨h.2.2.2.1, h.2.2.2.2⟩
  | _ :: r :: fs, p, q, h => apart_last (fs := r :: fs) h.2.2
theorem runs_ok : ∀ l : List Bool, ∀ k, k ≤ l.length → expB (runsB (l.take k)) = l.take k ∧ Apart (runsB (l.take k)) := by
  intro l k
  induction k with
  | zero => intro _; rw [List.take_zero]; exact ⟨rfl, trivial⟩
  | succ k ih =>
    intro hk
    obtain ⟨h1, h2⟩ := ih (by omega)
    have hb : l[k]? = some (l[k]'(by omega)) := List.getElem?_eq_getElem (by omega)
    generalize l[k]'(by omega) = b at hb
    have et : l.take (k + 1) = l.take k ++ [b] := by
      rw [List.take_succ, hb]; rfl
    rw [et, runsB_snoc]
    generalize l.take k = m at *
    generalize runsB m = fs at *
    subst h1
    rcases snoc_cases fs with rfl | ⟨gs, ⟨n, c⟩, rfl⟩
    · exact ⟨rfl, Nat.le_refl 1⟩
    · by_cases hc : c = b
      · subst hc
        rw [addB_same, expB_snoc, expB_snoc]
        exact ⟨by rw [List.replicate_succ', List.append_assoc], apart_more h2⟩
      · rw [addB_new hc, expB_snoc]
        exact ⟨rfl, apart_snoc h2 hc (Nat.le_refl 1)⟩
theorem runs_all (l : List Bool) : expB (runsB l) = l ∧ Apart (runsB l) := by
  have := runs_ok l l.length (Nat.le_refl _)
  rw [List.take_length] at this
  exact this
theorem apart_pos : ∀ {fs : List (Nat × Bool)}, Apart fs → ∀ p ∈ fs, 1 ≤ p.1
  | [], _, _, h => nomatch h
  | [q], h, p, hp => by rw [List.mem_singleton.mp hp]; exact h
  | q :: r :: fs, h, p, hp => by
    rcases List.mem_cons.mp hp with e | e
    · rw [e]; exact h.1
    · exact apart_pos (fs := r :: fs) h.2.2 p e
theorem exp_len : ∀ (fs : List (Nat × Bool)), Apart fs → fs.length ≤ (expB fs).length ∧ ∀ p ∈ fs, p.1 ≤ (expB fs).length := by
  intro fs h
  have hp := apart_pos h
  clear h
  induction fs with
  | nil => exact ⟨Nat.zero_le _, fun p h => nomatch h⟩
  | cons q fs ih =>
    obtain ⟨h1, h2⟩ := ih fun p h => hp p (List.mem_cons_of_mem _ h)
    have hq := hp q List.mem_cons_self
    have e : (expB (q :: fs)).length = q.1 + (expB fs).length := by unfold expB; simp
    refine ⟨by rw [e, List.length_cons]; omega, fun p h => ?_⟩
    rw [e]
    rcases List.mem_cons.mp h with z | z
    · rw [z]; omega
    · have := h2 p z; omega
/-! ### the text -/
def bitL (b : Bool) : Nat := if b = true then 49 else 48
def pieceL (p : Nat × Bool) : List Nat := numL p.1 ++ [120, bitL p.2]
def rowL (r : List Nat × List Bool) : List Nat := joinL [32] (r.1 :: (runsB r.2).map pieceL)
def headL (low high : Int) : List Nat := joinL [32] [tl ("from" : Str), intL low, tl ("to" : Str), intL high]
structure RecD where
  low : Int
  size : Nat
  rows : List (List Nat × List Bool)
def RecD.high (r : RecD) : Int := r.low + r.size - 1
def RecD.lines (r : RecD) : List (List Nat) := headL r.low r.high :: r.rows.map rowL
def RecD.text (r : RecD) : List Nat := (r.lines.map (· ++ [10])).flatten
theorem joinL_flat (s : List Nat) : ∀ (x : List Nat) (xs : List (List Nat)), joinL s (x :: xs) = x ++ (xs.map (s ++ ·)).flatten
  | x, [] => by show x = x ++ _; simp
  | x, y :: ys => by
    show x ++ (s ++ joinL s (y :: ys)) = _
    rw [joinL_flat s y ys]; simp
theorem joinL_end (s : List Nat) : ∀ (x : List Nat) (xs : List (List Nat)), ((x :: xs).map (· ++ s)).flatten = joinL s (x :: xs) ++ s
  | x, [] => by show (x ++ s) ++ [] = x ++ s; simp
  | x, y :: ys => by
    show (x ++ s) ++ (((y :: ys).map (· ++ s)).flatten) = (x ++ (s ++ joinL s (y :: ys))) ++ s
    rw [joinL_end s y ys]; simp
end G
namespace G
open PySem PySem.Spec PyProof.Rows L2
def topS (i : Nat) : Stmt := PySem.Challenge.pw_signoff_k87_records_refused.main.body.getD i (.Pass ⟨0, 0, 0, 0⟩)
abbrev s_is_word : Stmt := topS 8
abbrev s_lines_of : Stmt := topS 11
abbrev s_integer_of : Stmt := topS 12
abbrev s_bit_of : Stmt := topS 13
abbrev s_read_record : Stmt := topS 16
abbrev s_read_head : Stmt := topS 17
abbrev s_read_row : Stmt := topS 18
abbrev s_read_piece : Stmt := topS 19
abbrev s_law_pool : Stmt := topS 21
abbrev s_law_spread : Stmt := topS 22
abbrev s_law_draw : Stmt := topS 23
abbrev s_law_same : Stmt := topS 24
abbrev s_law_word : Stmt := topS 25
abbrev s_law_record : Stmt := topS 26
abbrev s_law_part : Stmt := topS 27
abbrev s_law_text : Stmt := topS 28
abbrev s_law_refused : Stmt := topS 29
abbrev s_law_spoilt : Stmt := topS 30
abbrev s_law_doubled : Stmt := topS 31
abbrev s_law : Stmt := topS 32
end G
namespace G
open PySem PySem.Spec PyProof.Rows L2 Evl
structure TxtL (mg : Str → Option Value) : Prop where
  int : mg "int" = none
  len : mg "len" = none
  list : mg "list" = none
  range : mg "range" = none
section
variable {P : Program} {w : World} {K : PySem.W.Frag} {mg : Str → Option Value} {base : Heap}
def spSpread : Sp := fun vs H Q _ => ∃ (c : Int), vs = [.int c] ∧ ∀ v : Int, Q (.int v) H
theorem sc_law_spread : FnScope ["cell", "mixed", "total", "k"] ["cell"] (defScope s_law_spread) := ⟨rfl, rfl, rfl, by decide +kernel, rfl, by decide +kernel, by decide +kernel⟩
theorem ok_law_spread (D : Dfd K mg "_law_spread" s_law_spread ["cell"]) (T : TxtL mg) : Has P w K mg base 1 "_law_spread" ["cell"] spSpread := by
  refine D.has fun f fd F => F.ok sc_law_spread (fun vs H Q E h => ?_) (fun cdv A outer s H vs Q E hr h => ?_)
  · obtain ⟨c, rfl, _⟩ := h
    rfl
  · obtain ⟨c, rfl, q⟩ := h
    refine ⟨_, (pss_cons (ps_set (i := 1) sc_law_spread.nd rfl (.inl rfl) (pe_op op_mod (pe_callTy call_int1 (by rfl) T.int (by decide +kernel) (pa_cons (pv 0) pa_nil)) pe_int))
      (pss_cons (ps_set (i := 2) sc_law_spread.nd rfl (.inl rfl) pe_int)
      (pss_cons (ps_for PassesOwn.never rfl (pi_range1 rfl T.range (pa_cons pe_int pa_nil)) (pg_name (i := 3) sc_law_spread.nd rfl (.inl rfl))
        (pss_cons (ps_set (i := 1) sc_law_spread.nd rfl (.inl rfl) (pe_op op_mod (pe_callTy call_int1 (by rfl) T.int (by decide +kernel) (pa_cons (pe_op op_add (pe_op op_add (pe_op op_mul (pv 1) pe_int) pe_int) (pv 3)) pa_nil)) pe_int))
        (pss_one (ps_set (i := 2) sc_law_spread.nd rfl (.inl rfl) (pe_op op_add (pe_op op_mul (pv 2) pe_int) (pv 1))))))
      (pss_one (ps_ret (pv 2)))))), ?_⟩
    refine ⟨_, rfl, .inl ⟨_, rfl, _, _, rfl, rfl, (by show (0 : Int) < 2147483647; decide), 4, rfl, by decide, by decide, for_range (n := 4) (fun _ σ H' => H' = H ∧ ∃ (x y : Int) (z : Option V), σ = [some (.int c), some (.int x), some (.int y), z]) ⟨rfl, _, _, _, rfl⟩ ?_ ?_⟩⟩
    · rintro i σ H' hi ⟨rfl, x, y, z, rfl⟩
      refine ⟨_, rfl, _, _, rfl, rfl, .inr ⟨by decide, by decide⟩, _, _, rfl, rfl, _, rfl, _, _, rfl, rfl, .inl ⟨_, rfl, _, _, rfl, rfl, (by show (0 : Int) < 2147483647; decide), _, rfl, _, _, rfl, rfl, .inr ⟨by decide, by decide⟩, _, rfl, _, _, rfl, rfl, rfl, _, _, _, rfl⟩⟩
    · rintro σ H' ⟨rfl, x, y, z, rfl⟩
      exact ⟨_, rfl, q y⟩
/-- a draw below n -/
def spDraw : Sp := fun vs H Q _ => ∃ (p a : Addr) (n : Int), vs = [.ref p, .int n] ∧ 0 < n ∧ n.natAbs.log2 < 9000 ∧ PoolOk p a H ∧ ∀ (v : Int) (o : HO), 0 ≤ v → v < n → PoolOk p a (upd H p o) → Q (.int v) (upd H p o)
theorem sc_law_draw : FnScope ["pool", "many", "cell", "mixed", "value"] ["pool", "many"] (defScope s_law_draw) := ⟨rfl, rfl, rfl, by decide +kernel, rfl, by decide +kernel, by decide +kernel⟩
theorem ok_law_draw (D : Dfd K mg "_law_draw" s_law_draw ["pool", "many"]) (T : TxtL mg) (C : Has P w K mg base 1 "_law_spread" ["cell"] spSpread) : Has P w K mg base 2 "_law_draw" ["pool", "many"] spDraw := by
  obtain ⟨f_law_spread, d_law_spread, G_law_spread, g_law_spread, k_law_spread, b_law_spread⟩ := C
  refine D.has fun f fd F => F.ok sc_law_draw (fun vs H Q E h => ?_) (fun cdv A outer s H vs Q E hr h => ?_)
  · obtain ⟨p, a, n, rfl, _⟩ := h
    rfl
  · obtain ⟨p, a, n, rfl, n0, n9, hp, q⟩ := h
    refine ⟨_, (pss_cut (ps_if (PW.pt (pw_and (pt_cmpR op_le (pe_ix ix_list (pv 0) pe_int (fun _ _ => rfl)) pe_int (nomark _)) (pw_and1 (pt_cmpR op_lt (pe_ix ix_list (pv 0) pe_int (fun _ _ => rfl)) (pe_callB call_len_seq (by rfl) T.len (by decide +kernel) (pa_cons (pe_ix ix_list (pv 0) pe_int (fun _ _ => rfl)) pa_nil)) (nomark _)))))
      (pss_cons (ps_set (i := 2) sc_law_draw.nd rfl (.inl rfl) (pe_ix ix_list (pe_ix ix_list (pv 0) pe_int (fun _ _ => rfl)) (pe_ix ix_list (pv 0) pe_int (fun _ _ => rfl)) (fun _ _ => rfl)))
      (pss_cons (ps_asg (pe_op op_add (pe_ix ix_list (pv 0) pe_int (fun _ _ => rfl)) pe_int) (pg_sub (pv 0) pe_int set_list))
      (pss_cons (ps_asg (pv 2) (pg_sub (pv 0) pe_int set_list))
      (pss_one (ps_if (pt_cmpR op_lt (pv 2) pe_int (nomark _))
        (pss_one (ps_asg (pe_call G_law_spread hr (by rfl) g_law_spread k_law_spread b_law_spread .nil pass0 (pa_cons (pv 2) pa_nil)) (pg_sub (pv 0) pe_int set_list)))
        pss_nil)))))
      pss_nil)
    (pss_cons (ps_asg (pe_op op_add (pe_ix ix_list (pv 0) pe_int (fun _ _ => rfl)) pe_int) (pg_sub (pv 0) pe_int set_list))
    (pss_cons (ps_if (pt_cmpR op_le (pe_ix ix_list (pv 0) pe_int (fun _ _ => rfl)) pe_int (nomark _))
      (pss_cons (ps_set (i := 3) sc_law_draw.nd rfl (.inl rfl) (pe_op op_mod (pe_callTy call_int1 (by rfl) T.int (by decide +kernel) (pa_cons (pe_op op_add (pe_op op_add (pe_op op_mul (pe_ix ix_list (pv 0) pe_int (fun _ _ => rfl)) pe_int) (pe_op op_mul (pe_ix ix_list (pv 0) pe_int (fun _ _ => rfl)) pe_int)) pe_int) pa_nil)) pe_int))
      (pss_cons (ps_set (i := 3) sc_law_draw.nd rfl (.inl rfl) (pe_op op_mod (pe_callTy call_int1 (by rfl) T.int (by decide +kernel) (pa_cons (pe_op op_add (pe_op op_mul (pv 3) pe_int) (pe_ix ix_list (pv 0) pe_int (fun _ _ => rfl))) pa_nil)) pe_int))
      (pss_one (ps_ret (pe_op op_mod (pe_op op_fdiv (pv 3) pe_int) (pv 1))))))
      pss_nil)
    (pss_cons (ps_set (i := 4) sc_law_draw.nd rfl (.inl rfl) (pe_op op_mod (pe_callTy call_int1 (by rfl) T.int (by decide +kernel) (pa_cons (pe_ix ix_list (pv 0) pe_int (fun _ _ => rfl)) pa_nil)) (pv 1)))
    (pss_cons (ps_asg (pe_op op_fdivW (pe_ix ix_list (pv 0) pe_int (fun _ _ => rfl)) (pv 1)) (pg_sub (pv 0) pe_int set_list))
    (pss_one (ps_ret (pv 4)))))))), ?_⟩
    obtain ⟨ns, i, c, k, s5, hl, ha, hn⟩ := hp
    have hap : a ≠ p := hid_neq ha
    have haH := hid_get ha
    -- the pool as it stands after writes
    have pk : ∀ (i' : Nat) (c' k' s' : Int), PoolOk p a (upd H p (.lst [.ref a, .int i', .int c', .int k', .int s'])) := fun i' c' k' s' =>
      ⟨ns, i', c', k', s', upd_same, by rw [hid_upd]; exact ha, hn⟩
    refine ⟨fun σ H' => ∃ (i' : Nat) (c' k' s' : Int) (o1 : Option V), σ = [some (.ref p), some (.int n), o1, none, none] ∧ H' p = some (.lst [.ref a, .int i', .int c', .int k', .int s']) ∧ (∀ o, upd H' p o = upd H p o), ?_, ?_⟩
    · refine ⟨_, rfl, _, _, _, _, rfl, rfl, SqL.of hl, atI_nat (j := 2) rfl, _, _, rfl, rfl, _, rfl, ite2 (fun e1 => ?_) (fun e1 => ?_)⟩
      · refine ⟨_, rfl, _, _, _, _, rfl, rfl, SqL.of hl, atI_nat (j := 1) rfl, _, rfl, _, _, _, _, rfl, rfl, SqL.of hl, atI_nat (j := 0) rfl, _, _, rfl, .inl (SqL.of haH), _, _, rfl, rfl, _, rfl, ite2 (fun e2 => ?_) (fun e2 => ?_)⟩
        · have hi : i < (ns.map V.int).length := by have := of_decide_eq_true e2; omega
          have hi' : i < ns.length := by rw [List.length_map] at hi; exact hi
          have gi : (ns.map V.int)[i]? = some (.int ns[i]) := by rw [List.getElem?_map, List.getElem?_eq_getElem hi']; rfl
          refine ⟨_, rfl, _, _, _, _, rfl, rfl, SqL.of hl, atI_nat (j := 0) rfl, _, rfl, _, _, _, _, rfl, rfl, SqL.of hl, atI_nat (j := 1) rfl, _, _, _, _, rfl, rfl, SqL.of haH, atI_nat gi, ?_⟩
          refine ⟨_, rfl, _, _, _, _, rfl, rfl, SqL.of hl, atI_nat (j := 1) rfl, _, _, rfl, rfl, _, rfl, _, _, _, 1, rfl, rfl, hl, rfl, ?_⟩
          refine ⟨_, rfl, _, rfl, _, _, _, 2, rfl, rfl, upd_same, rfl, ?_⟩
          refine ⟨_, rfl, _, _, rfl, rfl, _, rfl, ite2 (fun e3 => ?_) (fun e3 => ?_)⟩
          · refine ⟨_, rfl, _, rfl, fun v => ⟨_, rfl, _, _, _, 2, rfl, rfl, upd_same, rfl, ?_⟩⟩
            exact ⟨i + 1, v, k, s5, _, rfl, upd_same, fun o => by rw [upd_upd, upd_upd, upd_upd]⟩
          · exact ⟨i + 1, ns[i], k, s5, _, rfl, upd_same, fun o => by rw [upd_upd, upd_upd]⟩
        · exact ⟨i, c, k, s5, _, rfl, hl, fun _ => rfl⟩
      · exact iteF ⟨i, c, k, s5, _, rfl, hl, fun _ => rfl⟩
    · rintro σ H' ⟨i, c, k, s5, o1, rfl, hl', hu⟩
      refine ⟨_, rfl, _, _, _, _, rfl, rfl, SqL.of hl', atI_nat (j := 3) rfl, _, _, rfl, rfl, _, rfl, _, _, _, 3, rfl, rfl, hl', rfl, ?_⟩
      refine ⟨_, rfl, _, _, _, _, rfl, rfl, SqL.of upd_same, atI_nat (j := 2) rfl, _, _, rfl, rfl, _, rfl, ite2 (fun e1 => ?_) (fun e1 => ?_)⟩
      · refine ⟨_, rfl, _, _, _, _, rfl, rfl, SqL.of upd_same, atI_nat (j := 4) rfl, _, _, rfl, rfl, .inr ⟨by decide, by decide⟩, _, rfl, _, _, _, _, rfl, rfl, SqL.of upd_same, atI_nat (j := 3) rfl, _, _, rfl, rfl, .inr ⟨by decide, by decide⟩, _, _, rfl, rfl, _, _, rfl, rfl, .inl ⟨_, rfl, _, _, rfl, rfl, (by show (0 : Int) < 2147483647; decide), ?_⟩⟩
        refine ⟨_, rfl, _, _, rfl, rfl, .inr ⟨by decide, by decide⟩, _, rfl, _, _, _, _, rfl, rfl, SqL.of upd_same, atI_nat (j := 3) rfl, _, _, rfl, rfl, .inl ⟨_, rfl, _, _, rfl, rfl, (by show (0 : Int) < 2147483629; decide), ?_⟩⟩
        refine ⟨_, rfl, _, _, rfl, rfl, ⟨by decide, by decide⟩, _, rfl, _, _, rfl, rfl, n0, ?_⟩
        show Q _ _
        rw [hu]
        exact q _ _ (Int.emod_nonneg _ (by omega)) (Int.emod_lt_of_pos _ n0) (pk i c (k + 1) s5)
      · refine ⟨_, rfl, _, _, _, _, rfl, rfl, SqL.of upd_same, atI_nat (j := 2) rfl, .inl ⟨_, rfl, _, rfl, _, _, rfl, rfl, n0, ?_⟩⟩
        refine ⟨_, rfl, _, _, _, _, rfl, rfl, SqL.of upd_same, atI_nat (j := 2) rfl, _, rfl, _, _, rfl, rfl, ⟨n0, n9⟩, _, rfl, _, _, _, 2, rfl, rfl, upd_same, rfl, _, rfl, ?_⟩
        show Q _ _
        rw [upd_upd, hu]
        exact q _ _ (Int.emod_nonneg _ (by omega)) (Int.emod_lt_of_pos _ n0) (pk i (c / n) (k + 1) s5)
/-- the same, the heap behind it a letter -/
def spDrawX : Sp := fun vs H Q _ => ∃ (p a : Addr) (n : Int), vs = [.ref p, .int n] ∧ 0 < n ∧ n ≤ 2 ^ 70 ∧ PoolOk p a H ∧ ∀ (v : Nat) (H' : Hp), (v : Int) < n → Px p a H H' → (∀ b, b ≠ p → H' b = H b) → Q (.int v) H'
theorem log2_small {n : Int} (h0 : 0 < n) (h : n ≤ 2 ^ 70) : n.natAbs.log2 < 9000 := by
  have h1 : n.natAbs < 2 ^ 71 := by omega
  have := PySem.Flt.log2_lt_of (by decide : 0 < 71) h1
  omega
theorem drawX (C : Has P w K mg base 2 "_law_draw" ["pool", "many"] spDraw) : Has P w K mg base 2 "_law_draw" ["pool", "many"] spDrawX :=
  C.imp fun vs H Q E h => by
    obtain ⟨p, a, n, rfl, h0, h1, hp, q⟩ := h
    refine ⟨p, a, n, rfl, h0, log2_small h0 h1, hp, fun v o v0 v1 hq => ?_⟩
    have e : v = ((v.toNat : Nat) : Int) := by omega
    rw [e]
    exact q v.toNat _ (by omega) (Px.draw hp hq) fun b hb => upd_ne hb
end
end G
namespace G
open PySem PySem.Spec PyProof.Rows L2 Evl
/-! ## data -/
inductive D where
  | non | bl (b : Bool) | int (i : Int) | str (s : Str) | tup (l : List D) | lst (l : List D)
def okD : Nat → D → Prop
  | 0, .tup _ => False
  | 0, .lst _ => False
  | n + 1, .tup l => l.length < 2 ^ 61 ∧ ∀ d ∈ l, okD n d
  | n + 1, .lst l => l.length < 2 ^ 61 ∧ ∀ d ∈ l, okD n d
  | _, _ => True
inductive Rep (H : Hp) : V → D → Prop where
  | non : Rep H .non .non
  | bl (b : Bool) : Rep H (.bl b) (.bl b)
  | int (i : Int) : Rep H (.int i) (.int i)
  | str (s : Str) : Rep H (.str s) (.str s)
  | tup {a : Addr} {xs : List V} {ds : List D} (h : H a = some (.tup xs)) (hl : xs.length = ds.length) (hr : ∀ (i : Nat) (x : V) (d : D), xs[i]? = some x → ds[i]? = some d → Rep H x d) : Rep H (.ref a) (.tup ds)
  | lst {a : Addr} {xs : List V} {ds : List D} (h : H a = some (.lst xs)) (hl : xs.length = ds.length) (hr : ∀ (i : Nat) (x : V) (d : D), xs[i]? = some x → ds[i]? = some d → Rep H x d) : Rep H (.ref a) (.lst ds)
theorem Rep.ex {H H' : Hp} (e : Ex H H') {x : V} {d : D} (r : Rep H x d) : Rep H' x d := by
  induction r with
  | non => exact .non
  | bl b => exact .bl b
  | int i => exact .int i
  | str s => exact .str s
  | tup h hl _ ih => exact .tup (e _ _ h) hl ih
  | lst h hl _ ih => exact .lst (e _ _ h) hl ih
theorem okD.mono : ∀ {n m : Nat} {d : D}, n ≤ m → okD n d → okD m d
  | 0, 0, d, _, h => h
  | 0, m + 1, .non, _, _ => trivial
  | 0, m + 1, .bl _, _, _ => trivial
  | 0, m + 1, .int _, _, _ => trivial
  | 0, m + 1, .str _, _, _ => trivial
  | 0, m + 1, .tup _, _, h => h.elim
  | 0, m + 1, .lst _, _, h => h.elim
  | n + 1, m + 1, .non, _, _ => trivial
  | n + 1, m + 1, .bl _, _, _ => trivial
  | n + 1, m + 1, .int _, _, _ => trivial
  | n + 1, m + 1, .str _, _, _ => trivial
  | n + 1, m + 1, .tup l, le, h => ⟨h.1, fun d hd => okD.mono (Nat.le_of_succ_le_succ le) (h.2 d hd)⟩
  | n + 1, m + 1, .lst l, le, h => ⟨h.1, fun d hd => okD.mono (Nat.le_of_succ_le_succ le) (h.2 d hd)⟩
structure TxtS (mg : Str → Option Value) : Prop where
  isinstance : mg "isinstance" = none
  tuple : mg "tuple" = none
  list : mg "list" = none
  len : mg "len" = none
  range : mg "range" = none
  bool : mg "bool" = none
  int : mg "int" = none
  str : mg "str" = none
section
variable {P : Program} {w : World} {K : PySem.W.Frag} {mg : Str → Option Value} {base : Heap}
/-- equal data: the answer is True -/
def spSame : Nat → Sp
  | 0 => fun _ _ _ _ => False
  | n + 1 => fun vs H Q _ => ∃ (x y : V) (d : D), vs = [x, y] ∧ Rep H x d ∧ Rep H y d ∧ okD n d ∧ Q (.bl true) H
theorem sc_law_same : FnScope ["actual", "due", "k"] ["actual", "due"] (defScope s_law_same) := ⟨rfl, rfl, rfl, by decide +kernel, rfl, by decide +kernel, by decide +kernel⟩
theorem fn_law_same {f : Addr} {fd : FuncData} (F : Fun K "_law_same" "_law_same" s_law_same f fd) (g_law_same : mg "_law_same" = some (.ref f)) (b_law_same : Binds K fd ["actual", "due"] []) (T : TxtS mg) : ∀ n, FnOk P w K mg base CX0 n f fd ["actual", "due"] (spSame n)
  | 0 => ⟨fun _ _ _ _ h => h.elim, fun _ _ _ _ _ _ _ _ _ _ _ _ _ h => h.elim⟩
  | n + 1 => by
    have G_law_same := fn_law_same F g_law_same b_law_same T n
    have k_law_same := F.kp
    refine F.ok sc_law_same (fun vs H Q E h => ?_) (fun cdv A outer s H vs Q E hr h => ?_)
    · obtain ⟨x, y, d, rfl, _⟩ := h
      rfl
    · obtain ⟨x, y, d, rfl, rx, ry, hd, q⟩ := h
      refine ⟨_, (pss_cons (ps_if (PW.pt (pw_or (pt_val (pe_callB call_isi (by rfl) T.isinstance (by decide +kernel) (pa_cons (pv 1) (pa_cons (pe_bltn (v := .ty "tuple") (by rfl) T.tuple (by decide +kernel) rfl) pa_nil)))) (pw_or1 (pt_val (pe_callB call_isi (by rfl) T.isinstance (by decide +kernel) (pa_cons (pv 1) (pa_cons (pe_bltn (v := .ty "list") (by rfl) T.list (by decide +kernel) rfl) pa_nil)))))))
      (pss_cons (ps_if (PW.pt (pw_or (pt_cmpR op_ne (pe_callB call_isi (by rfl) T.isinstance (by decide +kernel) (pa_cons (pv 1) (pa_cons (pe_bltn (v := .ty "tuple") (by rfl) T.tuple (by decide +kernel) rfl) pa_nil))) (pe_callB call_isi (by rfl) T.isinstance (by decide +kernel) (pa_cons (pv 0) (pa_cons (pe_bltn (v := .ty "tuple") (by rfl) T.tuple (by decide +kernel) rfl) pa_nil))) (nomark _)) (pw_or1 (pt_cmpR op_ne (pe_callB call_isi (by rfl) T.isinstance (by decide +kernel) (pa_cons (pv 1) (pa_cons (pe_bltn (v := .ty "list") (by rfl) T.list (by decide +kernel) rfl) pa_nil))) (pe_callB call_isi (by rfl) T.isinstance (by decide +kernel) (pa_cons (pv 0) (pa_cons (pe_bltn (v := .ty "list") (by rfl) T.list (by decide +kernel) rfl) pa_nil))) (nomark _)))))
        (pss_one (ps_ret pe_bl))
        pss_nil)
      (pss_cons (ps_if (pt_cmpR op_ne (pe_callB call_len_seq (by rfl) T.len (by decide +kernel) (pa_cons (pv 0) pa_nil)) (pe_callB call_len_seq (by rfl) T.len (by decide +kernel) (pa_cons (pv 1) pa_nil)) (nomark _))
        (pss_one (ps_ret pe_bl))
        pss_nil)
      (pss_cons (ps_for PassesOwn.never rfl (pi_range1 rfl T.range (pa_cons (pe_callB call_len_seq (by rfl) T.len (by decide +kernel) (pa_cons (pv 1) pa_nil)) pa_nil)) (pg_name (i := 2) sc_law_same.nd rfl (.inl rfl))
        (pss_one (ps_if (pt_not (pt_val (pe_call G_law_same hr (by rfl) g_law_same k_law_same b_law_same .nil pass0 (pa_cons (pe_ix ix_seq (pv 0) (pv 2) (fun _ _ => rfl)) (pa_cons (pe_ix ix_seq (pv 1) (pv 2) (fun _ _ => rfl)) pa_nil)))))
          (pss_one (ps_ret pe_bl))
          pss_nil)))
      (pss_one (ps_ret pe_bl)))))
      pss_nil)
    (pss_cons (ps_if (pt_cmpR op_isN (pv 1) pe_non (nomark _))
      (pss_one (ps_ret (pe_cmpR op_isN (pv 0) pe_non (nomark _))))
      pss_nil)
    (pss_cons (ps_if (pt_val (pe_callB call_isi (by rfl) T.isinstance (by decide +kernel) (pa_cons (pv 1) (pa_cons (pe_bltn (v := .ty "bool") (by rfl) T.bool (by decide +kernel) rfl) pa_nil))))
      (pss_one (ps_ret (pe_and (pe_callB call_isi (by rfl) T.isinstance (by decide +kernel) (pa_cons (pv 0) (pa_cons (pe_bltn (v := .ty "bool") (by rfl) T.bool (by decide +kernel) rfl) pa_nil))) (pe_one (pe_cmpR op_eq (pv 0) (pv 1) (nomark _))))))
      pss_nil)
    (pss_cons (ps_if (pt_val (pe_callB call_isi (by rfl) T.isinstance (by decide +kernel) (pa_cons (pv 1) (pa_cons (pe_bltn (v := .ty "int") (by rfl) T.int (by decide +kernel) rfl) pa_nil))))
      (pss_one (ps_ret (pe_and (pe_callB call_isi (by rfl) T.isinstance (by decide +kernel) (pa_cons (pv 0) (pa_cons (pe_bltn (v := .ty "int") (by rfl) T.int (by decide +kernel) rfl) pa_nil))) (pe_and (pe_not (pe_callB call_isi (by rfl) T.isinstance (by decide +kernel) (pa_cons (pv 0) (pa_cons (pe_bltn (v := .ty "bool") (by rfl) T.bool (by decide +kernel) rfl) pa_nil)))) (pe_one (pe_cmpR op_eq (pv 0) (pv 1) (nomark _)))))))
      pss_nil)
    (pss_one (ps_ret (pe_and (pe_callB call_isi (by rfl) T.isinstance (by decide +kernel) (pa_cons (pv 0) (pa_cons (pe_bltn (v := .ty "str") (by rfl) T.str (by decide +kernel) rfl) pa_nil))) (pe_one (pe_cmpR op_eq (pv 0) (pv 1) (nomark _)))))))))), ?_⟩
      cases rx with
      | non =>
        cases ry
        refine ⟨_, rfl, _, _, _, _, _, rfl, .ty "tuple", .base .non, kit_ty (a := "NoneType") (r := false) (by decide +kernel), _, rfl, iteF ⟨_, rfl, _, _, _, _, _, rfl, .ty "list", .base .non, kit_ty (a := "NoneType") (r := false) (by decide +kernel), _, rfl, iteF ⟨_, rfl, rfl, _, rfl, iteT ⟨_, rfl, rfl, ?_⟩⟩⟩⟩
        exact q
      | bl b =>
        cases ry
        refine ⟨_, rfl, _, _, _, _, _, rfl, .ty "tuple", .base (.bl _), kit_ty (a := "bool") (r := false) (by decide +kernel), _, rfl, iteF ⟨_, rfl, _, _, _, _, _, rfl, .ty "list", .base (.bl _), kit_ty (a := "bool") (r := false) (by decide +kernel), _, rfl, iteF ⟨_, rfl, rfl, _, rfl, iteF ⟨_, rfl, _, _, _, _, _, rfl, .ty "bool", .base (.bl _), kit_ty (a := "bool") (r := true) (by decide +kernel), _, rfl, iteT ⟨_, rfl, _, _, _, _, _, rfl, .ty "bool", .base (.bl _), kit_ty (a := "bool") (r := true) (by decide +kernel), _, rfl, iteT ⟨_, rfl, _, rfl, rfl, ?_⟩⟩⟩⟩⟩⟩
        rw [decide_eq_true rfl]
        exact q
      | int b =>
        cases ry
        refine ⟨_, rfl, _, _, _, _, _, rfl, .ty "tuple", .base (.int _), kit_ty (a := "int") (r := false) (by decide +kernel), _, rfl, iteF ⟨_, rfl, _, _, _, _, _, rfl, .ty "list", .base (.int _), kit_ty (a := "int") (r := false) (by decide +kernel), _, rfl, iteF ⟨_, rfl, rfl, _, rfl, iteF ⟨_, rfl, _, _, _, _, _, rfl, .ty "bool", .base (.int _), kit_ty (a := "int") (r := false) (by decide +kernel), _, rfl, iteF ⟨_, rfl, _, _, _, _, _, rfl, .ty "int", .base (.int _), kit_ty (a := "int") (r := true) (by decide +kernel), _, rfl, iteT ⟨_, rfl, _, _, _, _, _, rfl, .ty "int", .base (.int _), kit_ty (a := "int") (r := true) (by decide +kernel), _, rfl, iteT ⟨_, rfl, _, _, _, _, _, rfl, .ty "bool", .base (.int _), kit_ty (a := "int") (r := false) (by decide +kernel), _, rfl, _, rfl, iteT ⟨_, rfl, _, rfl, rfl, ?_⟩⟩⟩⟩⟩⟩⟩⟩
        rw [decide_eq_true rfl]
        exact q
      | str b =>
        cases ry
        refine ⟨_, rfl, _, _, _, _, _, rfl, .ty "tuple", .base (.str _), kit_ty (a := "str") (r := false) (by decide +kernel), _, rfl, iteF ⟨_, rfl, _, _, _, _, _, rfl, .ty "list", .base (.str _), kit_ty (a := "str") (r := false) (by decide +kernel), _, rfl, iteF ⟨_, rfl, rfl, _, rfl, iteF ⟨_, rfl, _, _, _, _, _, rfl, .ty "bool", .base (.str _), kit_ty (a := "str") (r := false) (by decide +kernel), _, rfl, iteF ⟨_, rfl, _, _, _, _, _, rfl, .ty "int", .base (.str _), kit_ty (a := "str") (r := false) (by decide +kernel), _, rfl, iteF ⟨_, rfl, _, _, _, _, _, rfl, .ty "str", .base (.str _), kit_ty (a := "str") (r := true) (by decide +kernel), _, rfl, iteT ⟨_, rfl, _, rfl, rfl, ?_⟩⟩⟩⟩⟩⟩⟩
        rw [decide_eq_true rfl]
        exact q
      | @tup a xs ds hx lx rx =>
        cases ry with
        | @tup b ys _ hy ly ry =>
          cases n with
          | zero => exact hd.elim
          | succ m =>
            obtain ⟨hlen, hall⟩ := hd
            refine ⟨_, rfl, _, _, _, _, _, rfl, .ty "tuple", .base (.tup hy), kit_ty (a := "tuple") (r := true) (by decide +kernel), _, rfl, iteT (iteT ⟨_, rfl, _, _, _, _, _, rfl, .ty "tuple", .base (.tup hy), kit_ty (a := "tuple") (r := true) (by decide +kernel), _, rfl, _, _, _, _, _, rfl, .ty "tuple", .base (.tup hx), kit_ty (a := "tuple") (r := true) (by decide +kernel), rfl, _, rfl, iteF ⟨_, rfl, _, _, _, _, _, rfl, .ty "list", .base (.tup hy), kit_ty (a := "tuple") (r := false) (by decide +kernel), _, rfl, _, _, _, _, _, rfl, .ty "list", .base (.tup hx), kit_ty (a := "tuple") (r := false) (by decide +kernel), rfl, _, rfl, iteF ⟨_, rfl, _, _, rfl, .inr (SqT.of hx), _, rfl, _, _, rfl, .inr (SqT.of hy), rfl, _, rfl, ?_⟩⟩⟩)⟩
            have el : decide (V.int (xs.length : Int) = V.int (ys.length : Int)) = true := decide_eq_true (by rw [lx, ly])
            rw [el]
            refine ⟨_, rfl, _, _, rfl, .inr (SqT.of hy), _, rfl, by omega, by omega, for_range (n := (ys.length : Int).toNat) (fun _ σ H' => H' = H ∧ ∃ z : Option V, σ = [some (.ref a), some (.ref b), z]) ⟨rfl, _, rfl⟩ ?_ ?_⟩
            · rintro i σ H' hi ⟨rfl, z, rfl⟩
              have hi' : i < ds.length := by omega
              have e0 : (0 : Int) + (i : Int) = (i : Int) := Int.zero_add _
              have g1 : xs[i]? = some xs[i] := List.getElem?_eq_getElem (by omega)
              have g2 : ys[i]? = some ys[i] := List.getElem?_eq_getElem (by omega)
              have g3 : ds[i]? = some ds[i] := List.getElem?_eq_getElem hi'
              rw [e0]
              refine ⟨_, rfl, _, rfl, .inr (.inl ⟨_, _, _, _, rfl, rfl, SqT.of hx, atI_nat g1, _, rfl, _, rfl, .inr (.inl ⟨_, _, _, _, rfl, rfl, SqT.of hy, atI_nat g2, ?_⟩)⟩)⟩
              exact ⟨_, _, ds[i], rfl, rx i _ _ g1 g3, ry i _ _ g2 g3, hall _ (List.getElem_mem hi'), _, rfl, rfl, _, rfl⟩
            · rintro σ H' ⟨rfl, z, rfl⟩
              exact q
      | @lst a xs ds hx lx rx =>
        cases ry with
        | @lst b ys _ hy ly ry =>
          cases n with
          | zero => exact hd.elim
          | succ m =>
            obtain ⟨hlen, hall⟩ := hd
            refine ⟨_, rfl, _, _, _, _, _, rfl, .ty "tuple", .base (.lst hy), kit_ty (a := "list") (r := false) (by decide +kernel), _, rfl, iteF ⟨_, rfl, _, _, _, _, _, rfl, .ty "list", .base (.lst hy), kit_ty (a := "list") (r := true) (by decide +kernel), _, rfl, iteT ⟨_, rfl, _, _, _, _, _, rfl, .ty "tuple", .base (.lst hy), kit_ty (a := "list") (r := false) (by decide +kernel), _, rfl, _, _, _, _, _, rfl, .ty "tuple", .base (.lst hx), kit_ty (a := "list") (r := false) (by decide +kernel), rfl, _, rfl, iteF ⟨_, rfl, _, _, _, _, _, rfl, .ty "list", .base (.lst hy), kit_ty (a := "list") (r := true) (by decide +kernel), _, rfl, _, _, _, _, _, rfl, .ty "list", .base (.lst hx), kit_ty (a := "list") (r := true) (by decide +kernel), rfl, _, rfl, iteF ⟨_, rfl, _, _, rfl, .inl (SqL.of hx), _, rfl, _, _, rfl, .inl (SqL.of hy), rfl, _, rfl, ?_⟩⟩⟩⟩⟩
            have el : decide (V.int (xs.length : Int) = V.int (ys.length : Int)) = true := decide_eq_true (by rw [lx, ly])
            rw [el]
            refine ⟨_, rfl, _, _, rfl, .inl (SqL.of hy), _, rfl, by omega, by omega, for_range (n := (ys.length : Int).toNat) (fun _ σ H' => H' = H ∧ ∃ z : Option V, σ = [some (.ref a), some (.ref b), z]) ⟨rfl, _, rfl⟩ ?_ ?_⟩
            · rintro i σ H' hi ⟨rfl, z, rfl⟩
              have hi' : i < ds.length := by omega
              have e0 : (0 : Int) + (i : Int) = (i : Int) := Int.zero_add _
              have g1 : xs[i]? = some xs[i] := List.getElem?_eq_getElem (by omega)
              have g2 : ys[i]? = some ys[i] := List.getElem?_eq_getElem (by omega)
              have g3 : ds[i]? = some ds[i] := List.getElem?_eq_getElem hi'
              rw [e0]
              refine ⟨_, rfl, _, rfl, .inl ⟨_, _, _, _, rfl, rfl, SqL.of hx, atI_nat g1, _, rfl, _, rfl, .inl ⟨_, _, _, _, rfl, rfl, SqL.of hy, atI_nat g2, ?_⟩⟩⟩
              exact ⟨_, _, ds[i], rfl, rx i _ _ g1 g3, ry i _ _ g2 g3, hall _ (List.getElem_mem hi'), _, rfl, rfl, _, rfl⟩
            · rintro σ H' ⟨rfl, z, rfl⟩
              exact q
theorem ok_law_same (D : Dfd K mg "_law_same" s_law_same ["actual", "due"]) (T : TxtS mg) (n : Nat) : Has P w K mg base n "_law_same" ["actual", "due"] (spSame n) := by
  obtain ⟨f, fd, F, g, b⟩ := D
  exact ⟨f, fd, fn_law_same F g b T n, g, F.kp, b⟩
end
/-! ## data made of flat lists -/
theorem rep_map {H : Hp} {α : Type} {f : α → V} {g : α → D} {l : List α} (h : ∀ x, Rep H (f x) (g x)) : (l.map f).length = (l.map g).length ∧ ∀ (i : Nat) (x : V) (d : D), (l.map f)[i]? = some x → (l.map g)[i]? = some d → Rep H x d := by
  refine ⟨by rw [List.length_map, List.length_map], fun i x d hx hd => ?_⟩
  rw [List.getElem?_map] at hx hd
  cases e : l[i]? with
  | none => rw [e] at hx; cases hx
  | some y =>
    rw [e] at hx hd
    have e1 : f y = x := Option.some.inj hx
    have e2 : g y = d := Option.some.inj hd
    rw [← e1, ← e2]
    exact h y
theorem rep_ints {H : Hp} {a : Addr} {l : List Int} (h : H a = some (.lst (l.map V.int))) : Rep H (.ref a) (.lst (l.map D.int)) :=
  let r := rep_map (H := H) (f := V.int) (g := D.int) (l := l) fun i => .int i
  .lst h r.1 r.2
theorem rep_bls {H : Hp} {a : Addr} {l : List Bool} (h : H a = some (.tup (l.map V.bl))) : Rep H (.ref a) (.tup (l.map D.bl)) :=
  let r := rep_map (H := H) (f := V.bl) (g := D.bl) (l := l) fun i => .bl i
  .tup h r.1 r.2
theorem okD_ints {l : List Int} (h : l.length < 2 ^ 61) : okD 1 (.lst (l.map D.int)) := ⟨by rw [List.length_map]; exact h, fun d hd => by obtain ⟨_, _, rfl⟩ := List.mem_map.mp hd; trivial⟩
end G
namespace G
open PySem PySem.Spec PyProof.Rows L2 Evl
section
variable {P : Program} {w : World} {K : PySem.W.Frag} {mg : Str → Option Value} {base : Heap}
theorem cutV_mem {xs : List V} {lo hi : Option Int} {i : Nat} {x : V} (h : (cutV xs lo hi)[i]? = some x) : x ∈ xs := by
  unfold cutV at h
  exact List.mem_of_mem_drop (List.mem_of_mem_take (List.mem_of_getElem? h))
theorem int_of {ns : List Int} {x : V} (h : x ∈ ns.map V.int) : ∃ z, x = .int z := by
  obtain ⟨z, _, e⟩ := List.mem_map.mp h
  exact ⟨z, e.symm⟩
def spPool (K : PySem.W.Frag) : Sp := fun vs H Q _ => ∃ (s : Addr) (ns : List Int), vs = [.ref s] ∧ SqL K H s (ns.map V.int) ∧ ns.length ≤ 1000 ∧ ∀ (p a : Addr) (H' : Hp), PoolOk p a H' → Ex H H' → H p = none → Q (.ref p) H'
theorem sc_law_pool : FnScope ["script", "salt", "cell"] ["script"] (defScope s_law_pool) := ⟨rfl, rfl, rfl, by decide +kernel, rfl, by decide +kernel, by decide +kernel⟩
theorem ok_law_pool (D : Dfd K mg "_law_pool" s_law_pool ["script"]) (T : TxtL mg) : Has P w K mg base 1 "_law_pool" ["script"] (spPool K) := by
  refine D.has fun f fd F => F.ok sc_law_pool (fun vs H Q E h => ?_) (fun cdv A outer s H vs Q E hr h => ?_)
  · obtain ⟨c, _, rfl, _⟩ := h
    rfl
  · obtain ⟨sa, ns, rfl, hs, hn, q⟩ := h
    refine ⟨_, (pss_cons (ps_set (i := 1) sc_law_pool.nd rfl (.inl rfl) pe_int)
      (pss_cons (ps_for PassesOwn.never rfl (pi_list (pe_slice sl_list (pv 0) po_none (po_some pe_int))) (pg_name (i := 2) sc_law_pool.nd rfl (.inl rfl))
        (pss_one (ps_set (i := 1) sc_law_pool.nd rfl (.inl rfl) (pe_op op_mod (pe_callTy call_int1 (by rfl) T.int (by decide +kernel) (pa_cons (pe_op op_add (pe_op op_mul (pv 1) pe_int) (pv 2)) pa_nil)) pe_int))))
      (pss_one (ps_ret (pe_lst (pa_cons (pe_callTy call_list_of (by rfl) T.list (by decide +kernel) (pa_cons (pv 0) pa_nil)) (pa_cons pe_int (pa_cons pe_int (pa_cons pe_int (pa_cons (pv 1) pa_nil)))))))))), ?_⟩
    refine ⟨_, rfl, _, rfl, sa, _, rfl, hs, fun c nc => ⟨c, rfl, ⟨_, SqL.of upd_same⟩, for_list (K := K) (a := c) (xs := cutV (ns.map V.int) none (some 63)) (fun _ σ H' => H' = upd H c (.lst (cutV (ns.map V.int) none (some 63))) ∧ ∃ (x : Int) (z : Option V), σ = [some (.ref sa), some (.int x), z]) ⟨rfl, _, _, rfl⟩ ?_ ?_ ?_⟩⟩
    · rintro i σ H' _ ⟨rfl, _⟩
      exact SqL.of upd_same
    · rintro i x σ H' hi ⟨rfl, y, z, rfl⟩
      obtain ⟨m, rfl⟩ := int_of (cutV_mem hi)
      exact ⟨_, rfl, _, _, rfl, rfl, .inr ⟨by decide, by decide⟩, _, rfl, _, _, rfl, rfl, .inl ⟨_, rfl, _, _, rfl, rfl, (by show (0 : Int) < 1000003; decide), rfl, _, _, rfl⟩⟩
    · rintro σ H' ⟨rfl, y, z, rfl⟩
      have e1 : Ex H (upd H c (.lst (cutV (ns.map V.int) none (some 63)))) := Ex.new nc
      refine ⟨_, rfl, _, _, rfl, .inl (ex_l e1 hs), fun l nl => ⟨_, rfl, (by show 5 ≤ sizeLine; decide), fun p np => ?_⟩⟩
      have e2 := e1.trans (Ex.new (o := .lst (ns.map V.int)) nl)
      have npl : l ≠ p := ne_of_none upd_same np
      exact q p l _ ⟨ns, 0, 0, 0, y, upd_same, by rw [hid_ne npl, upd_ne npl]; exact upd_same, hn⟩ (e2.trans (Ex.new np)) (fresh_back e2 np)
end
end G
namespace G
open PySem PySem.Spec PyProof.Rows L2 Evl
/-! ## own classes of errors -/
def HasX (P : Program) (w : World) (K : PySem.W.Frag) (mg : Str → Option Value) (base : Heap) (k : Nat) (x : Str) (ps : List Str) (sp : Sp) : Prop :=
  ∃ (f : Addr) (fd : FuncData), FnOk P w K mg base (L2.CX P w) k f fd ps sp ∧ mg x = some (.ref f) ∧ PySem.W.keepIn K (.ref f) = true ∧ Binds K fd ps []
theorem passX0 {X : Cx} {P : Program} {w : World} : Passes (L2.CX P w) X (fun _ _ _ => False) := fun _ _ _ _ _ _ _ h => by
  obtain ⟨_, _, _, _, _, _, _, _, _, _, _, _, h⟩ := h
  exact h.elim
/-- an own class over ValueError without __init__, at C -/
structure ExcT (K : PySem.W.Frag) (mg : Str → Option Value) (x : Str) (C : Addr) : Prop where
  gC : mg x = some (.ref C)
  xP : PySem.W.excIn K C [.type "ValueError", .type "Exception", .type "BaseException", .type "object"] "ValueError.__new__" = true
  kC : PySem.W.keepIn K (.ref C) = true
  bC : PySem.W.subIn K (.ref C) (.type "BaseException") = some true
  tC : PySem.W.typeIn K (.ref C) = some (.type "type")
/-- what an except clause asks of the class that it names -/
structure ExcH (K : PySem.W.Frag) (mg : Str → Option Value) (x : Str) (C : Addr) : Prop where
  u : ExcT K mg x C
  dict : PySem.W.hasDictIn K C = true
  self : PySem.W.subIn K (.ref C) (.ref C) = some true
theorem ExcH.hit {K : PySem.W.Frag} {mg : Str → Option Value} {x : Str} {C : Addr} (U : ExcH K mg x C) : PySem.W.exmOne K (.ref C) (.ref C) = some true := PySem.W.exm_ref U.u.bC U.dict U.u.tC U.self
end G
namespace G
open PySem PySem.Spec PyProof.Rows L2 Evl
/-! ## methods of built-in types within a suite: the written part by its letter -/
theorem kBm {X : Cx} {K : PySem.W.Frag} {T name id : String} {r : V → List V → Hp → VK → Prop} {o e : Expr} {es : List Expr} {to_ : TE} {t : TA} {apos cpos : Pos} (h : X.K = K) (p1 : PlainAttrs T) (p2 : Slot T name id) (p3 : typeOf (.builtin id) = pure (.type "method_descriptor")) (p4 : MtR X id r) (p5 : PE X o to_) (p6 : PA X (e :: es) t)
    (p7 : attributeBase o name X.env (eval o X.env) = eval o X.env := by rfl) (p8 : ((backTo cpos (starEach (e :: es) X.env)).all (fun x => !x.1) && (backToKw cpos (keywordEach [] X.env)).all (fun x => x.1.isSome) && decide ((e :: es).length + ([] : List Keyword).length + (if ([] : List Keyword).isEmpty then 0 else 1) < 30)) = true := by rfl)
    (p9 : (apos.endLine == cpos.line) = true := by rfl) (p10 : starEach (e :: es) X.env = (false, eval e X.env) :: starEach es X.env := by rfl) (p11 : (backTo cpos (starEach es X.env)).any (·.1) = false := by rfl) : PE X (.Call (.Attribute o name apos) (e :: es) [] cpos) (tBM K T r to_ t) := by
  subst h
  exact pe_bm p1 p2 p3 p4 p5 p6 p7 p8 p9 p10 p11
theorem kMtIndex {X : Cx} {K : PySem.W.Frag} (h : X.K = K) : MtR X "list.index" (rIndex K) := by subst h; exact mt_index
end G
namespace G
open PySem PySem.Spec PyProof.Rows L2 Evl
/-! ## own errors: caught by name or by a class above, asked for their class -/
structure ExcI (K : PySem.W.Frag) (mg : Str → Option Value) (x : Str) (C : Addr) : Prop where
  u : ExcT K mg x C
  dict : PySem.W.hasDictIn K C = true
  self : PySem.W.subIn K (.ref C) (.ref C) = some true
  isc : ExcC K C
def IsK (K : PySem.W.Frag) (mg : Str → Option Value) (C : Addr) (d : Str) (b : Bool) : Prop := ∃ D : Addr, mg d = some (.ref D) ∧ PySem.W.kitOne K (.ref C) (.ref D) = some b
def CatchK (K : PySem.W.Frag) (mg : Str → Option Value) (C : Addr) (s : Str) : Prop := ∃ D : Addr, mg s = some (.ref D) ∧ PySem.W.exmOne K (.ref C) (.ref D) = some true
theorem ExcI.hit {K : PySem.W.Frag} {mg : Str → Option Value} {x : Str} {C : Addr} (U : ExcI K mg x C) : PySem.W.exmOne K (.ref C) (.ref C) = some true := PySem.W.exm_ref U.u.bC U.dict U.u.tC U.self
theorem IsK.at_ {K : PySem.W.Frag} {mg : Str → Option Value} {C D : Addr} {d : Str} {b : Bool} (h : IsK K mg C d b) (g : mg d = some (.ref D)) : PySem.W.kitOne K (.ref C) (.ref D) = some b := by
  obtain ⟨D', g', k⟩ := h
  rw [g] at g'
  cases g'; exact k
theorem CatchK.at_ {K : PySem.W.Frag} {mg : Str → Option Value} {C D : Addr} {s : Str} (h : CatchK K mg C s) (g : mg s = some (.ref D)) : PySem.W.exmOne K (.ref C) (.ref D) = some true := by
  obtain ⟨D', g', k⟩ := h
  rw [g] at g'
  cases g'; exact k
theorem pe_ex {X : Cx} {e : Expr} {α : Type} {p : α → Prop} {t : α → TE} (h : ∀ x, p x → PE X e (t x)) : PE X e (fun σ H Q => ∃ x, p x ∧ t x σ H Q) := by
  refine ⟨fun ps s σ H Q I z => ?_⟩
  obtain ⟨x, px, hx⟩ := z
  exact (h x px).run ps s σ H Q I hx
/-- isinstance of the error that the suite holds: whichever own error it is -/
theorem pe_isE {X : Cx} {a : Addr} {oe : Obj} {pn : List (Addr × Obj)} {cls : Value} {dd : Option Addr} {e : Expr} {t : Addr → TE} (hz : Zc cls dd oe) (hf : ∃ vs, oe.data = .fields vs)
    (h : ∀ D : Addr, Zc (.ref D) none oe → ExcC X.K D → PE (X.suite a ((a, oe) :: pn)) e (t D)) : PE (X.suite a ((a, oe) :: pn)) e (fun σ H Q => ∃ D : Addr, (cls = .ref D ∧ dd = none ∧ ExcC X.K D) ∧ t D σ H Q) :=
  pe_ex (p := fun D => cls = .ref D ∧ dd = none ∧ ExcC X.K D) fun D z => by
    obtain ⟨rfl, rfl, ic⟩ := z
    exact h D hz ic
/-! ## methods and classes called where what is raised is taken at the slots -/
section
variable {X : Cx} {CX : CXT} {k : Nat} {f C : Addr} {fd : FuncData} {ps : List Str} {sp : Sp} {dvs : List V} {ds : List Value} {E : L2.St → XK} {x m : Str} {p pos apos : Pos} {e o : Expr} {es : List Expr} {to_ : TE} {t : TA}
def tMethX (C : Addr) (m : Str) (sp : Sp) (dvs : List V) (E : L2.St → XK) (to_ : TE) (t : TA) : TE := fun σ H Q => to_ σ H fun x H1 => ∃ a dx fs, x = .ref a ∧ H1 a = some (.ins C dx fs) ∧ fs.lookup m = none ∧ t σ H1 fun vs H2 => sp (x :: (vs ++ dvs)) H2 Q (E σ)
def tMakeX (C : Addr) (sp : Sp) (dvs : List V) (E : L2.St → XK) (t : TA) : TE := fun σ H Q => t σ H fun vs H1 => ∀ x dx, H1 x = none → H1 dx = none → dx ≠ x → sp (.ref x :: (vs ++ dvs)) (upd (upd H1 dx (.own x)) x (.ins C dx [])) (fun v H2 => v = .non ∧ Q (.ref x) H2) (E σ)
theorem pe_methX {pl : Sem Bool} (ho : PE X o to_) (cc : Cls X.K C) (mm : Meth X.K C m f) (Fk : FnOk X.prog X.w X.K X.mg X.base CX k f fd ps sp) (rm : Room k X.A) (bd : Binds X.K fd ps ds) (dv : Vals dvs ds)
    (px : ∀ σ, PassesAt CX X σ (E σ)) (pa : PA X (e :: es) t) (s1 : starEach (e :: es) X.env = (false, eval e X.env) :: starEach es X.env := by rfl) (s2 : (backTo pos (starEach es X.env)).any (·.1) = false := by rfl)
    (s3 : eval (.Call (.Attribute o m apos) (e :: es) [] pos) X.env = (do let ov ← eval o X.env; standAt apos.atName; let (f, first) ← holding [ov] (getMethod ov m pl); callWith pos f first (backTo pos (starEach (e :: es) X.env)) (backToKw pos (keywordEach [] X.env))) := by rfl) :
    PE X (.Call (.Attribute o m apos) (e :: es) [] pos) (tMethX C m sp dvs E to_ t) := by
  refine ⟨fun pins st σ H Q I z => PySem.W.methodCall_KW (pl := pl) (thn (ho.run pins st σ H _ I z) fun q0 st1 ⟨y, H1, I1, ry, b, dx, fl, ey, eb, lk, z1⟩ => ?_) s3⟩
  subst ey
  cases (show q0 = Value.ref b from ry)
  exact getmeth_ok I1 eb cc mm lk (PySem.W.callWith_K (first := [.ref b]) (h₀ := X.base) I.ok.mod.kin mm.kp (thn (pa.run pos pins st1 σ H1 _ I1 z1) fun ws st2 ⟨vs, H2, I2, rs, z2⟩ => ⟨I2.kIn, run_fnSD (us := .ref b :: ws) (vs := .ref b :: vs) Fk rm bd dv (px σ) I2 (.cons rfl rs) z2⟩) s1 s2)
theorem run_makeX {pins : List (Addr × Obj)} {σ : L2.St} {H : Hp} {st : Shared} {Q : VK} {us : List Value} {vs : List V} (M : Mk X.K C f) (Fk : FnOk X.prog X.w X.K X.mg X.base CX k f fd ps sp) (rm : Room (k + 1) X.A) (bd : Binds X.K fd ps ds) (dv : Vals dvs ds)
    (px : PassesAt CX X σ (E σ)) (I : Inv X pins σ H st) (rs : Vals vs us)
    (z : ∀ x dx, H x = none → H dx = none → dx ≠ x → sp (.ref x :: (vs ++ dvs)) (upd (upd H dx (.own x)) x (.ins C dx [])) (fun v H2 => v = .non ∧ Q (.ref x) H2) (E σ)) :
    wpAny (model X.prog X.w) X.A (call (.ref C) us) (EP X pins σ Q) X.xe st := by
  have z1 := z (st.heap.objs.size + 1) st.heap.objs.size (I.hok.fresh (Nat.le_succ _)) (I.hok.fresh (Nat.le_refl _)) (Nat.ne_of_lt (Nat.lt_succ_self _))
  have J := Inv.made (C := C) I
  have rr : Vals (V.ref (st.heap.objs.size + 1) :: (vs ++ dvs)) (Value.ref (st.heap.objs.size + 1) :: (us ++ ds)) := .cons rfl (rs.append dv)
  have len : (Value.ref (st.heap.objs.size + 1) :: us ++ ds).length = ps.length := (rr.length.symm.trans (Fk.len _ _ _ _ z1))
  refine wpAny_call (make_map (f := f) I.kIn M.makes M.init (beq_iff_eq.mp M.fn) (codeAny_mono (Fk.run _ X.stack _ _ ⟨Value.ref (st.heap.objs.size + 1) :: us, []⟩ (Value.ref (st.heap.objs.size + 1) :: (us ++ ds)) _ _ (E σ) (rm.make C us []) (J.env0.make C us []) (bd _ (Value.ref (st.heap.objs.size + 1) :: us) J.kIn len) rr z1) fun r st' h => ?_))
  match r, h with
  | .error er, h => exact px pins _ _ er st' J h
  | .ok (.ret u), h =>
    obtain ⟨v, H', I3, rv, ev, q3⟩ := J.after h
    subst ev
    exact ⟨rv, ⟨V.ref (st.heap.objs.size + 1), H', I3, rfl, q3⟩⟩
  | .ok .next, h => exact h.elim
  | .ok .brk, h => exact h.elim
  | .ok .cont, h => exact h.elim
theorem pe_makeX (M : Mk X.K C f) (Fk : FnOk X.prog X.w X.K X.mg X.base CX k f fd ps sp) (rm : Room (k + 1) X.A) (gl : Gl X x) (gm : X.mg x = some (.ref C)) (bd : Binds X.K fd ps ds) (dv : Vals dvs ds) (px : ∀ σ, PassesAt CX X σ (E σ)) (pa : PA X (e :: es) t)
    (s0 : (x == ("__debug__" : Str)) = false := by decide) (s1 : starEach (e :: es) X.env = (false, eval e X.env) :: starEach es X.env := by rfl) (s2 : (backTo pos (starEach es X.env)).any (·.1) = false := by rfl) : PE X (.Call (.Name x p) (e :: es) [] pos) (tMakeX C sp dvs E t) :=
  ⟨fun pins st σ H Q I z => wpAny_Call_Name_kw (ld_glob I gl gm (PySem.W.callWith_K (h₀ := X.base) I.ok.mod.kin M.kp (thn (pa.run pos pins st σ H _ I z) fun us st1 ⟨vs, H1, I1, r, q⟩ => ⟨I1.kIn, run_makeX M Fk rm bd dv (px σ) I1 r q⟩) s1 s2) s0)⟩
end
end G
namespace G
open PySem PySem.Spec PyProof.Rows L2
/-! ## isinstance(e, (A, B)) of the error that a suite holds -/
theorem vals_of_refs : ∀ {bs : List Addr} {us : List Value}, Vals (bs.map V.ref) us → us = bs.map Value.ref
  | [], _, r => by cases r; rfl
  | b :: bs, _, r => by
    cases r with
    | cons h t =>
      rw [List.map_cons, ← vals_of_refs t]
      cases h
      rfl
def rIsET (K : PySem.W.Frag) (D a : Addr) : List V → Hp → VK → Prop := fun xs H Q => ∃ (tp : Addr) (cs : List Addr) (b : Bool), xs = [.ref a, .ref tp] ∧ SqT K H tp (cs.map V.ref) ∧ PySem.W.kitAny K (.ref D) (cs.map Value.ref) = some b ∧ Q (.bl b) H
theorem call_isET {X : Cx} {a D : Addr} {oe : Obj} {pn : List (Addr × Obj)} (C : ExcC X.K D) (hz : Zc (.ref D) none oe) (hf : ∃ vs, oe.data = .fields vs) : CallR (X.suite a ((a, oe) :: pn)) (.builtin "isinstance") (rIsET X.K D a) := by
  intro pins s σ H xs us Q I r h
  obtain ⟨tp, cs, b, rfl, hq, e, q⟩ := h
  obtain rfl : us = [.ref a, .ref tp] := vals_of_refs (bs := [a, tp]) r
  obtain ⟨hget, _⟩ := I.pin (a, oe) (List.mem_append.mpr (.inl List.mem_cons_self))
  obtain ⟨its, rv, ⟨⟨oc, od, oda, osl⟩, ho, hcl, n, hdt⟩, _⟩ := I.tuple hq
  obtain rfl := vals_of_refs rv
  dsimp only at hcl hdt
  subst hcl hdt
  obtain ⟨vs, hv⟩ := hf
  have J : PySem.W.InstAt s.heap a oe D none := by
    obtain ⟨oc, od, oda, osl⟩ := oe
    obtain ⟨h1, h2⟩ := hz
    dsimp only at h1 h2 hv
    subst h1 h2 hv
    exact ⟨hget, rfl, rfl, trivial⟩
  exact PySem.W.kia_tup (PySem.W.handS_kitx_exc C.hg C.hk C.hs C.hd C.ha C.hn C.ht C.hm) I.kIn J ho e (fun z => nomatch z) fun tk => ⟨.bl b, H, I.kept (t' := tk) fun _ _ z => z, rfl, q⟩
end G
namespace G
open PySem PySem.Spec PyProof.Rows L2 Evl TL
/-! ## words -/
theorem iteY {b : Bool} {A B : Prop} (h : b = true) (a : A) : if b = true then A else B := by rw [if_pos h]; exact a
theorem iteN {b : Bool} {A B : Prop} (h : b = false) (a : B) : if b = true then A else B := by rw [if_neg (by rw [h]; decide)]; exact a
def sLET : Str := "abcdefghijklmnopqrstuvwxyz"
def sDIG : Str := "0123456789"
def sRUN : Str := "abcdefghijklmnopqrstuvwxyz0123456789_"
def kwds : List Str := ["cell", "pin", "module", "gate", "part", "reg", "edge", "out", "setup", "hold", "start"]
def isRun (c : Nat) : Bool := decide (c ∈ tl sRUN)
def isWord (T : List Nat) : Bool := match T with
  | [] => false
  | c :: _ => decide (c ∈ tl sLET) && T.all isRun
theorem let_run : ∀ c ∈ tl sLET, isRun c = true := by decide +kernel
theorem inV_strs {k : Str} {l : List Str} : inV (.str k) (l.map V.str) = decide (k ∈ l) := by
  unfold inV
  rw [List.any_map, Bool.eq_iff_iff, List.any_eq_true, decide_eq_true_iff]
  constructor
  · rintro ⟨y, hy, h⟩
    have h' : (y == k) = true := h
    rw [← eq_of_beq h']; exact hy
  · intro h
    exact ⟨k, h, (beq_self_eq_true k : (k == k) = true)⟩
theorem kw_more : ∀ k ∈ kwds, k ++ "_" ∉ kwds ∧ isWord (tl (k ++ "_")) = true ∧ (tl (k ++ "_")).length ≤ 20 := by decide +kernel
structure TxtRW (mg : Str → Option Value) : Prop where
  all : mg "all" = none
  LETTERS : ∃ t, mg "LETTERS" = some (.str sLET t)
  RUN : ∃ t, mg "RUN_CHARACTERS" = some (.str sRUN t)
section
variable {P : Program} {w : World} {K : PySem.W.Frag} {mg : Str → Option Value} {base : Heap}
def spIsWord : Sp := fun vs H Q _ => ∃ T : List Nat, vs = [.str (mk T)] ∧ T ≠ [] ∧ T.length ≤ 50000 ∧ ∀ H', Ex H H' → Q (.bl (isWord T)) H'
theorem all_bl {l : List Nat} {g : Nat → Bool} : (l.map fun c => V.bl (g c)) = (l.map g).map V.bl := by rw [List.map_map]; rfl
theorem sc_is_word : FnScope ["token", "character"] ["token"] (defScope s_is_word) := ⟨rfl, rfl, rfl, by decide +kernel, rfl, by decide +kernel, by decide +kernel⟩
theorem ok_is_word (D : Dfd K mg "is_word" s_is_word ["token"]) (T : TxtRW mg) : Has P w K mg base 1 "is_word" ["token"] spIsWord := by
  obtain ⟨tL, g_LETTERS⟩ := T.LETTERS
  obtain ⟨tR, g_RUN_CHARACTERS⟩ := T.RUN
  refine D.has fun f fd F => F.ok sc_is_word (fun vs H Q E h => ?_) (fun cdv A outer s H vs Q E hr h => ?_)
  · obtain ⟨T, rfl, _⟩ := h
    rfl
  · obtain ⟨T, rfl, hne, hlen, q⟩ := h
    obtain ⟨c, r, rfl⟩ := List.exists_cons_of_ne_nil hne
    have hs : (mk (c :: r)).length ≤ sizeLine := by rw [mk_len]; exact sz_of (by omega)
    refine ⟨_, (pss_one (ps_ret (pe_and (pe_cmpR op_in_sign (pe_ix ix_str (pv 0) pe_int (fun _ _ => rfl)) (gStr rfl g_LETTERS) rfl) (pe_one (pe_callB (cr_all rfl) (by rfl) T.all (by decide +kernel) (pa_cons (pe_lc (own := [("character", 1)]) (g := gName 1) (tt := tYes) rfl sc_is_word.nd (pi_str (pv 0)) (blkOk_by (N := ["token", "character"]) (sc := defScope s_is_word) (own := [("character", 1)]) (by decide +kernel)) (fun _ _ _ _ _ => (pg_name (i := 1) sc_is_word.nd rfl (.inl rfl))) (fun _ _ _ _ _ => pts_nil) (fun _ _ _ _ _ => (pe_cmpR op_in_sign (pv 1) (gStr rfl g_RUN_CHARACTERS) rfl))) pa_nil)))))), ?_⟩
    refine ⟨_, rfl, _, _, c, rfl, rfl, hs, atI_nat (j := 0) rfl, c, sLET, rfl, rfl, _, rfl, ?_⟩
    have key : isWord (c :: r) = (decide (c ∈ tl sLET) && (c :: r).all isRun) := rfl
    cases hc : decide (c ∈ tl sLET) with
    | false =>
      refine iteF ?_
      rw [hc] at key
      have := q H (Ex.refl H)
      rw [key] at this
      exact this
    | true =>
      refine iteT ⟨_, rfl, _, rfl, fun L nL => lcSm (fun d => .bl (isRun d)) (by rw [mk_len]; omega) (fun _ => rfl) (fun i d H1 _ _ Q q => ⟨_, rfl, d, sRUN, rfl, rfl, q⟩) ?_⟩
      refine ⟨L, ((tl (mk (c :: r))).map isRun), rfl, SqL.of ?_, ?_⟩
      · rw [upd_same, all_bl]
      · rw [hc] at key
        have := q _ (Ex.new (o := .lst ((tl (mk (c :: r))).map fun d => V.bl (isRun d))) nL)
        rw [key, Bool.true_and] at this
        have e : ((tl (mk (c :: r))).map isRun).all id = (c :: r).all isRun := by rw [List.all_map]; rfl
        rw [e]
        exact this
/-- a name -/
def spWord : Sp := fun vs H Q _ => ∃ (p a : Addr), vs = [.ref p] ∧ PoolOk p a H ∧ ∀ (T : List Nat) (H' : Hp), isWord T = true → mk T ∉ kwds → T.length ≤ 20 → Px p a H H' → Q (.str (mk T)) H'
theorem item_of {L : List Nat} {v : Nat} (h : v < L.length) : ∃ c, L[v]? = some c ∧ c ∈ L := ⟨L[v], List.getElem?_eq_getElem h, List.getElem_mem h⟩
theorem sc_law_word : FnScope ["pool", "heads", "rest", "word", "k"] ["pool"] (defScope s_law_word) := ⟨rfl, rfl, rfl, by decide +kernel, rfl, by decide +kernel, by decide +kernel⟩
theorem ok_law_word (D : Dfd K mg "_law_word" s_law_word ["pool"]) (T : TxtS mg) (C : Has P w K mg base 2 "_law_draw" ["pool", "many"] spDrawX) : Has P w K mg base 3 "_law_word" ["pool"] spWord := by
  obtain ⟨f_law_draw, d_law_draw, G_law_draw, g_law_draw, k_law_draw, b_law_draw⟩ := C
  refine D.has fun f fd F => F.ok sc_law_word (fun vs H Q E h => ?_) (fun cdv A outer s H vs Q E hr h => ?_)
  · obtain ⟨_, _, rfl, _⟩ := h
    rfl
  · obtain ⟨p, a, rfl, hp, q⟩ := h
    refine ⟨_, (pss_cons (ps_set (i := 1) sc_law_word.nd rfl (.inl rfl) pe_str)
    (pss_cons (ps_set (i := 2) sc_law_word.nd rfl (.inl rfl) pe_str)
    (pss_cons (ps_set (i := 3) sc_law_word.nd rfl (.inl rfl) (pe_ix ix_str (pv 1) (pe_call G_law_draw (hr.mono (by omega)) (by rfl) g_law_draw k_law_draw b_law_draw .nil pass0 (pa_cons (pv 0) (pa_cons pe_int pa_nil))) (fun _ _ => rfl)))
    (pss_cons (ps_for PassesOwn.never rfl (pi_range1 rfl T.range (pa_cons (pe_ix ix_list (pe_lst (pa_cons pe_int (pa_cons pe_int (pa_cons pe_int (pa_cons pe_int (pa_cons pe_int (pa_cons pe_int (pa_cons pe_int (pa_cons pe_int pa_nil))))))))) (pe_call G_law_draw (hr.mono (by omega)) (by rfl) g_law_draw k_law_draw b_law_draw .nil pass0 (pa_cons (pv 0) (pa_cons pe_int pa_nil))) (fun _ _ => rfl)) pa_nil)) (pg_name (i := 4) sc_law_word.nd rfl (.inl rfl))
      (pss_one (ps_set (i := 3) sc_law_word.nd rfl (.inl rfl) (pe_op op_add_str (pv 3) (pe_ix ix_str (pv 2) (pe_call G_law_draw (hr.mono (by omega)) (by rfl) g_law_draw k_law_draw b_law_draw .nil pass0 (pa_cons (pv 0) (pa_cons pe_int pa_nil))) (fun _ _ => rfl))))))
    (pss_cons (ps_if (pt_cmpR op_in_seq (pv 3) (pe_lst (pa_cons pe_str (pa_cons pe_str (pa_cons pe_str (pa_cons pe_str (pa_cons pe_str (pa_cons pe_str (pa_cons pe_str (pa_cons pe_str (pa_cons pe_str (pa_cons pe_str (pa_cons pe_str pa_nil)))))))))))) (by rfl))
      (pss_one (ps_set (i := 3) sc_law_word.nd rfl (.inl rfl) (pe_op op_add_str (pv 3) pe_str)))
      pss_nil)
    (pss_one (ps_ret (pv 3)))))))), ?_⟩
    have l26 : (tl sLET).length = 26 := by decide +kernel
    have l37 : (tl sRUN).length = 37 := by decide +kernel
    refine ⟨_, rfl, _, rfl, p, a, 26, rfl, by decide, by decide, hp, fun v H1 hv X1 _ => ?_⟩
    obtain ⟨c, hc, hm⟩ := item_of (L := tl sLET) (v := v) (by rw [l26]; omega)
    refine ⟨sLET, _, c, rfl, rfl, by decide, atI_nat hc, ?_⟩
    refine ⟨(by show 8 ≤ sizeLine; decide), fun l nl => ⟨_, rfl, p, a, 8, rfl, by decide, by decide, (X1.new nl).pool, fun v2 H2 hv2 X2 k2 => ?_⟩⟩
    have hl2 : H2 l = some (.lst [.int 0, .int 0, .int 1, .int 1, .int 2, .int 3, .int 5, .int 12]) := by rw [k2 _ (X1.pool.ne nl)]; exact upd_same
    have hit : ∃ n : Nat, ([.int 0, .int 0, .int 1, .int 1, .int 2, .int 3, .int 5, .int 12] : List V)[v2]? = some (.int (n : Int)) ∧ n ≤ 12 := by
      have h8 : v2 < 8 := by omega
      match v2, h8 with
      | 0, _ => exact ⟨0, rfl, by decide⟩
      | 1, _ => exact ⟨0, rfl, by decide⟩
      | 2, _ => exact ⟨1, rfl, by decide⟩
      | 3, _ => exact ⟨1, rfl, by decide⟩
      | 4, _ => exact ⟨2, rfl, by decide⟩
      | 5, _ => exact ⟨3, rfl, by decide⟩
      | 6, _ => exact ⟨5, rfl, by decide⟩
      | 7, _ => exact ⟨12, rfl, by decide⟩
      | n + 8, h => omega
    obtain ⟨n, hn, hn12⟩ := hit
    have X3 := (X1.new nl).trans X2
    refine ⟨_, _, _, _, rfl, rfl, SqL.of hl2, atI_nat hn, _, rfl, by omega, by omega, for_range (n := ((n : Nat) : Int).toNat)
      (fun i σ H' => Px p a H H' ∧ ∃ (W : List Nat) (z : Option V), isWord W = true ∧ W.length = i + 1 ∧ σ = [some (.ref p), some (.str sLET), some (.str sRUN), some (.str (mk W)), z]) ⟨X3, [c], _, ?_, rfl, rfl⟩ ?_ ?_⟩
    · show (decide (c ∈ tl sLET) && [c].all isRun) = true
      rw [decide_eq_true hm, List.all_cons, let_run c hm]; rfl
    · rintro i σ H3 hi ⟨X4, W, z, hW, hWl, rfl⟩
      refine ⟨_, rfl, _, rfl, _, rfl, p, a, 37, rfl, by decide, by decide, X4.pool, fun v3 H4 hv3 X5 _ => ?_⟩
      obtain ⟨d, hd, hdm⟩ := item_of (L := tl sRUN) (v := v3) (by rw [l37]; omega)
      refine ⟨sRUN, _, d, rfl, rfl, by decide, atI_nat hd, _, _, rfl, rfl, ?_, X4.trans X5, W ++ [d], some (.int (0 + (i : Int))), ?_, by rw [List.length_append, hWl]; rfl, ?_⟩
      · rw [mk_len]
        show _ + 1 ≤ sizeLine
        exact sz_of (by omega)
      · cases W with
        | nil => cases hW
        | cons c' r' =>
          have h' : (decide (c' ∈ tl sLET) && (c' :: r').all isRun) = true := hW
          rw [Bool.and_eq_true] at h'
          show (decide (c' ∈ tl sLET) && (c' :: r' ++ [d]).all isRun) = true
          rw [h'.1, List.all_append, h'.2]
          show (true && (true && (isRun d && true))) = true
          rw [show isRun d = true from decide_eq_true hdm]; rfl
      · rw [mk_one, mk_app]; rfl
    · rintro σ H3 ⟨X4, W, z, hW, hWl, rfl⟩
      have hWl' : W.length ≤ 13 := by omega
      refine ⟨_, rfl, (by show 11 ≤ sizeLine; decide), fun l2 nl2 => ⟨l2, kwds.map V.str, rfl, .inl (SqL.of upd_same), rfl, flat_map (fun _ => rfl) _, _, rfl, ?_⟩⟩
      show if (if false = true then !inV (.str (mk W)) (kwds.map V.str) else inV (.str (mk W)) (kwds.map V.str)) = true then _ else _
      rw [if_neg Bool.false_ne_true, inV_strs]
      by_cases hk : mk W ∈ kwds
      · rw [decide_eq_true hk]
        refine iteT ⟨_, rfl, _, _, rfl, rfl, ?_, _, rfl, ?_⟩
        · rw [mk_len]
          show W.length + 1 ≤ sizeLine
          exact sz_of (by omega)
        · obtain ⟨h1, h2, h4⟩ := kw_more _ hk
          have e : mk W ++ ("_" : Str) = mk (W ++ [95]) := mk_app W [95]
          rw [e] at h1 h2 h4
          show Q (.str (mk W ++ ("_" : Str))) _
          rw [e]
          exact q _ _ h2 h1 h4 (X4.new nl2)
      · rw [decide_eq_false hk]
        exact iteF ⟨_, rfl, q _ _ hW hk (by omega) (X4.new nl2)⟩

end
end G
namespace G
open PySem PySem.Spec PyProof.Rows L2 Evl TL
structure TxtR1 (mg : Str → Option Value) : Prop where
  len : mg "len" = none
  any : mg "any" = none
  int : mg "int" = none
  str : mg "str" = none
  tuple : mg "tuple" = none
  DIG : ∃ t, mg "DIGITS" = some (.str "0123456789" t)
  MOST : ∃ t, mg "MOST_DIGITS" = some (.int 60 t)
theorem ends_snoc (l : List Nat) (c : Nat) : Txt.endswith (mk (l ++ [c])) (mk [c]) = true := by
  show (decide (0 + (mk [c]).length ≤ (mk (l ++ [c])).length) && PySem.Builtin.Str.subAt (mk (l ++ [c])) (mk [c]) ((mk (l ++ [c])).length - (mk [c]).length)) = true
  rw [PySem.StrLaws.subAt_eq]
  show (_ && (((tl (mk (l ++ [c]))).drop _).take _ == tl (mk [c]))) = true
  rw [tl_mkS, tl_mkS, mk_len, mk_len, List.length_append]
  show (decide (0 + 1 ≤ l.length + 1) && (((l ++ [c]).drop (l.length + 1 - 1)).take 1 == [c])) = true
  rw [Nat.add_sub_cancel, List.drop_left, decide_eq_true (by omega)]
  simp
theorem cut_snoc (l : List Nat) (c : Nat) : cutS (mk (l ++ [c])) none (some (-1)) = mk l := by
  unfold cutS
  refine ext_tl ?_
  rw [HT.sIx_none]
  have e : HT.sIx (mk (l ++ [c])).length (mk (l ++ [c])).length (some (-1)) = l.length := by
    show (if (-1 : Int) < 0 then ((-1 : Int) + ((mk (l ++ [c])).length : Int)).toNat else min (-1 : Int).toNat (mk (l ++ [c])).length) = _
    rw [if_pos (by decide), mk_len, List.length_append]
    show ((-1 : Int) + ((l.length + 1 : Nat) : Int)).toNat = _
    omega
  rw [e]
  show (((tl (mk (l ++ [c]))).drop 0).take (l.length - 0)) = l
  rw [tl_mkS, List.drop_zero, Nat.sub_zero, List.take_left]
theorem few_log {i : Int} (h : Few i) : i.natAbs.log2 < 1920 := by
  unfold Few at h
  have h1 : i.natAbs < 2 ^ 200 := Nat.lt_of_lt_of_le h (by decide)
  have := PySem.Flt.log2_lt_of (by decide : 0 < 200) h1
  omega
end G
namespace G
open PySem PySem.Spec PyProof.Rows L2 Evl TL
/-! ## texts that are joined -/
def strV (ts : List (List Nat)) : List V := ts.map fun T => V.str (mk T)
theorem str_len_app (a b : Str) : (a ++ b).length = a.length + b.length := by rw [len_tl, tl_append, List.length_append, ← len_tl, ← len_tl]
theorem l_from : ("from " : Str).length = 5 := by decide +kernel
theorem l_to : (" to " : Str).length = 4 := by decide +kernel
theorem l_emp : (Str.empty).length = 0 := rfl
theorem l_x : ("x" : Str).length = 1 := by decide +kernel
theorem sum_len {m : Nat} : ∀ l : List (List Nat), (∀ p ∈ l, p.length ≤ m) → ((l.map mk).map (·.length)).sum ≤ l.length * m
  | [], _ => Nat.zero_le _
  | x :: l, h => by
    have h1 := h x List.mem_cons_self
    have h2 := sum_len l fun p hp => h p (List.mem_cons_of_mem _ hp)
    rw [List.map_cons, List.map_cons, List.sum_cons, List.length_cons, Nat.succ_mul]
    have : (mk x).length = x.length := mk_len x
    omega
theorem join_mk (s x : List Nat) (xs : List (List Nat)) : Txt.join (mk s) ((x :: xs).map mk) = mk (joinL s (x :: xs)) := by
  rw [join_eq]
  refine ext_tl ?_
  rw [tl_join, tl_mkS, tl_mkS, List.map_map]
  show joinL s ((x :: xs).map id) = _
  rw [List.map_id]
theorem joinL_nil : ∀ (x : List Nat) (xs : List (List Nat)), joinL [] (x :: xs) = (x :: xs).flatten
  | x, [] => by show x = x ++ []; simp
  | x, y :: ys => by show x ++ ([] ++ joinL [] (y :: ys)) = x ++ (y :: ys).flatten; rw [joinL_nil y ys]; rfl
/-- what a name is -/
def NameL (n : List Nat) : Prop := ∃ (x : List Nat) (xs : List (List Nat)), n = joinL [47] (x :: xs) ∧ xs.length ≤ 2 ∧ ∀ p ∈ x :: xs, isWord p = true ∧ p.length ≤ 20
theorem word_free {T : List Nat} (h : isWord T = true) {s : Nat} (hs : isRun s = false) : s ∉ T := fun hm => by
  cases T with
  | nil => cases h
  | cons c r =>
    have h' : (decide (c ∈ tl sLET) && (c :: r).all isRun) = true := h
    rw [Bool.and_eq_true, List.all_eq_true] at h'
    rw [h'.2 s hm] at hs; cases hs
theorem joinL_mem (s : List Nat) : ∀ (x : List Nat) (xs : List (List Nat)) (c : Nat), c ∈ joinL s (x :: xs) → (∃ p ∈ x :: xs, c ∈ p) ∨ c ∈ s
  | x, [], c, h => .inl ⟨x, List.mem_cons_self, h⟩
  | x, y :: ys, c, h => by
    have h : c ∈ x ++ (s ++ joinL s (y :: ys)) := h
    rcases List.mem_append.mp h with z | z
    · exact .inl ⟨x, List.mem_cons_self, z⟩
    · rcases List.mem_append.mp z with z | z
      · exact .inr z
      · rcases joinL_mem s y ys c z with ⟨p, hp, hc⟩ | z
        · exact .inl ⟨p, List.mem_cons_of_mem _ hp, hc⟩
        · exact .inr z
theorem joinL_len (s : List Nat) (m : Nat) : ∀ (x : List Nat) (xs : List (List Nat)), (∀ p ∈ x :: xs, p.length ≤ m) → (joinL s (x :: xs)).length ≤ m + xs.length * (m + s.length)
  | x, [], h => by
    have := h x List.mem_cons_self
    show x.length ≤ _
    omega
  | x, y :: ys, h => by
    have h1 := h x List.mem_cons_self
    have h2 := joinL_len s m y ys fun p hp => h p (List.mem_cons_of_mem _ hp)
    show (x ++ (s ++ joinL s (y :: ys))).length ≤ _
    rw [List.length_append, List.length_append, List.length_cons, Nat.succ_mul]
    omega
theorem run_signs : isRun 47 = false ∧ isRun 32 = false ∧ isRun 10 = false := by decide +kernel
theorem name_free {n : List Nat} (h : NameL n) {s : Nat} (hs : isRun s = false) (h47 : s ≠ 47) : s ∉ n := fun hm => by
  obtain ⟨x, xs, rfl, _, hw⟩ := h
  rcases joinL_mem _ _ _ _ hm with ⟨p, hp, hc⟩ | z
  · exact word_free (hw p hp).1 hs hc
  · exact h47 (List.mem_singleton.mp z)
theorem name_len {n : List Nat} (h : NameL n) : n.length ≤ 62 := by
  obtain ⟨x, xs, rfl, hl, hw⟩ := h
  have := joinL_len [47] 20 x xs fun p hp => (hw p hp).2
  have e : ([47] : List Nat).length = 1 := rfl
  rw [e] at this
  have : xs.length * (20 + 1) ≤ 2 * 21 := Nat.mul_le_mul_right _ hl
  omega
end G
namespace G
open PySem PySem.Spec PyProof.Rows L2 Evl TL
/-- draws out of many -/
def spDrawXL : Sp := fun vs H Q _ => ∃ (p a : Addr) (n : Int), vs = [.ref p, .int n] ∧ 0 < n ∧ n ≤ 2 ^ 210 ∧ PoolOk p a H ∧ ∀ (v : Nat) (H' : Hp), (v : Int) < n → Px p a H H' → (∀ b, b ≠ p → H' b = H b) → Q (.int v) H'
theorem log2_smallL {n : Int} (h0 : 0 < n) (h : n ≤ 2 ^ 210) : n.natAbs.log2 < 9000 := by
  have h1 : n.natAbs < 2 ^ 211 := by omega
  have := PySem.Flt.log2_lt_of (by decide : 0 < 211) h1
  omega
section
variable {P : Program} {w : World} {K : PySem.W.Frag} {mg : Str → Option Value} {base : Heap}
theorem drawXL (C : Has P w K mg base 2 "_law_draw" ["pool", "many"] spDraw) : Has P w K mg base 2 "_law_draw" ["pool", "many"] spDrawXL :=
  C.imp fun vs H Q E h => by
    obtain ⟨p, a, n, rfl, h0, h1, hp, q⟩ := h
    refine ⟨p, a, n, rfl, h0, log2_smallL h0 h1, hp, fun v o v0 v1 hq => ?_⟩
    have e : v = ((v.toNat : Nat) : Int) := by omega
    rw [e]
    exact q v.toNat _ (by omega) (Px.draw hp hq) fun b hb => upd_ne hb
end
def TupEx (H H' : Hp) : Prop := ∀ (b : Addr) (xs : List V), H b = some (.tup xs) → H' b = some (.tup xs)
theorem Px.tup {p a : Addr} {H H' : Hp} (X : Px p a H H') : TupEx H H' := fun b xs z => by
  obtain ⟨_, _, _, _, _, e, _⟩ := X.was
  exact X.at_ (by rw [hid_ne (ne_of z e (by intro y; cases y))]; exact z)
end G
namespace G
open PySem PySem.Spec PyProof.Rows L2 Evl TL
/-! ## any text: words, whole numbers, lines -/
theorem mk_injL {a b : List Nat} (h : mk a = mk b) : a = b := by have := congrArg tl h; rwa [tl_mkS, tl_mkS] at this
theorem map_mk_inj : ∀ {a b : List (List Nat)}, a.map mk = b.map mk → a = b
  | [], [], _ => rfl
  | [], _ :: _, h => by cases h
  | _ :: _, [], h => by cases h
  | x :: a, y :: b, h => by
    rw [List.map_cons, List.map_cons] at h
    injection h with h1 h2
    rw [mk_injL h1, map_mk_inj h2]
/-- every text is its pieces joined -/
theorem split_ex (s : Nat) : ∀ T : List Nat, ∃ x xs, T = joinL [s] (x :: xs) ∧ ∀ p ∈ x :: xs, s ∉ p
  | [] => ⟨[], [], rfl, fun p hp => by rw [List.mem_singleton.mp hp]; exact List.not_mem_nil⟩
  | c :: T => by
    obtain ⟨x, xs, e, h⟩ := split_ex s T
    by_cases hc : c = s
    · subst hc
      refine ⟨[], x :: xs, ?_, fun p hp => ?_⟩
      · show c :: T = [] ++ ([c] ++ joinL [c] (x :: xs))
        rw [← e]; rfl
      · rcases List.mem_cons.mp hp with z | z
        · rw [z]; exact List.not_mem_nil
        · exact h p z
    · refine ⟨c :: x, xs, ?_, fun p hp => ?_⟩
      · rw [e]
        cases xs <;> rfl
      · rcases List.mem_cons.mp hp with z | z
        · rw [z]
          intro hm
          rcases List.mem_cons.mp hm with q | q
          · exact hc q.symm
          · exact h x List.mem_cons_self q
        · exact h p (List.mem_cons_of_mem _ z)
theorem split_mk {s : Nat} (hs : (mk [s]).cps.all (· < 256) = true) {x : List Nat} {xs : List (List Nat)} (h : ∀ p ∈ x :: xs, s ∉ p) : Txt.split (mk (joinL [s] (x :: xs))) (mk [s]) = (x :: xs).map mk := by
  rw [(join_mk [s] x xs).symm]
  exact split_join (s := s) (S := []) rfl hs (by simp) fun q hq => by
    obtain ⟨l, hl', rfl⟩ := List.mem_map.mp hq
    rw [tl_mkS]
    exact h l hl'
theorem join_inj {s : Nat} (hs : (mk [s]).cps.all (· < 256) = true) {x y : List Nat} {xs ys : List (List Nat)} (h : ∀ p ∈ x :: xs, s ∉ p) (g : ∀ p ∈ y :: ys, s ∉ p) (e : joinL [s] (x :: xs) = joinL [s] (y :: ys)) : x :: xs = y :: ys := by
  have a := split_mk hs h
  rw [e, split_mk hs g] at a
  exact map_mk_inj a.symm
/-- a text without its dash -/
def undash : List Nat → List Nat
  | 45 :: r => r
  | T => T
theorem undash_cases (T : List Nat) : (∃ r, T = 45 :: r ∧ undash T = r) ∨ (undash T = T ∧ ∀ r, T ≠ 45 :: r) := by
  match T with
  | 45 :: r => exact .inl ⟨r, rfl, rfl⟩
  | [] => exact .inr ⟨rfl, fun r => by simp⟩
  | c :: r =>
    by_cases hc : c = 45
    · subst hc; exact .inl ⟨r, rfl, rfl⟩
    · refine .inr ⟨?_, fun r' h => hc (by injection h)⟩
      unfold undash
      split
      · rename_i h; injection h with h1 h2; exact absurd h1 hc
      · rfl
theorem undash_len (T : List Nat) : (undash T).length ≤ T.length := by
  rcases undash_cases T with ⟨r, e, h⟩ | ⟨h, _⟩
  · rw [h, e]; exact Nat.le_succ _
  · rw [h]; exact Nat.le_refl _
theorem undash_eq (T : List Nat) : tl (Txt.removeprefix (mk T) (mk [45])) = undash T := by
  rw [PySem.StrLaws.removeprefix_eq, PySem.StrLaws.subAt_eq]
  show tl (if (decide (0 + (mk [45]).length ≤ (mk T).length) && (((tl (mk T)).drop 0).take (mk [45]).length == tl (mk [45]))) = true then _ else _) = _
  rw [tl_mkS, tl_mkS, mk_len, mk_len, List.drop_zero]
  rcases undash_cases T with ⟨r, e, h⟩ | ⟨h, hn⟩
  · subst e
    rw [h, if_pos (by simp)]
    show ((tl (mk (45 :: r))).drop 1).take ((45 :: r).length - 1) = _
    rw [tl_mkS, List.drop_succ_cons, List.drop_zero, List.length_cons, Nat.add_sub_cancel, List.take_length]
  · rw [h, if_neg]
    · exact tl_mkS _
    · intro z
      rw [Bool.and_eq_true] at z
      have z2 := eq_of_beq z.2
      cases T with
      | nil => cases z2
      | cons c r =>
        have : c = 45 := by
          have z2 : (c :: r).take 1 = [45] := z2
          rw [List.take_succ_cons, List.take_zero] at z2
          injection z2
        subst this
        exact hn r rfl
theorem undash_int (i : Int) : undash (intL i) = numL i.natAbs := by rw [← undash_eq, nodash]
theorem val_lt : ∀ (n : Nat) (cs : List Nat), cs.length ≤ n → (∀ c ∈ cs, 48 ≤ c ∧ c ≤ 57) → NumText.digitsVal cs < 10 ^ n
  | 0, cs, h, _ => by
    have : cs = [] := List.eq_nil_of_length_eq_zero (by omega)
    subst this; decide
  | n + 1, cs, h, hd => by
    rcases snoc_cases cs with rfl | ⟨ds, c, rfl⟩
    · exact Nat.lt_of_lt_of_le (by decide : NumText.digitsVal [] < 1) (Nat.one_le_pow _ _ (by decide))
    · rw [List.length_append] at h
      have h : ds.length + 1 ≤ n + 1 := h
      have h1 := val_lt n ds (by omega) fun d hd' => hd d (by simp [hd'])
      have h2 := hd c (by simp)
      rw [NumText.digitsVal_snoc, Nat.pow_succ]
      omega
/-- a whole number's text, dash and digits, or not: what int() tells of it -/
theorem int_any {T : List Nat} (h0 : undash T ≠ []) (h1 : (undash T).length ≤ 60) (h2 : ∀ c ∈ undash T, 48 ≤ c ∧ c ≤ 57) : ∃ i, Few i ∧ PySem.intText? (mk T) = some i := by
  have hv := val_lt 60 (undash T) h1 h2
  have hl := undash_len T
  rcases undash_cases T with ⟨r, e, h⟩ | ⟨h, _⟩
  · rw [h] at h0 h1 h2 hv
    have := PySem.intText_neg (x := mk T) (cs := r) (by rw [e]; exact tl_mkS _) h2 h0 (by rw [mk_len, e, List.length_cons]; omega)
    refine ⟨_, ?_, this⟩
    show (-((NumText.digitsVal r : Nat) : Int)).natAbs < 10 ^ 60
    rw [Int.natAbs_neg, Int.natAbs_natCast]; exact hv
  · rw [h] at h0 h1 h2 hv
    have ht : (mk T).cps.toList = T := tl_mkS _
    have := PySem.intText_digits (x := mk T) (by rw [ht]; exact h2) (by rw [ht]; exact h0) (by rw [mk_len]; omega)
    rw [ht] at this
    exact ⟨_, by show (((NumText.digitsVal T : Nat) : Int)).natAbs < 10 ^ 60; rw [Int.natAbs_natCast]; exact hv, this⟩
section
variable {P : Program} {w : World} {K : PySem.W.Frag} {mg : Str → Option Value} {base : Heap}
/-- T is the text of a whole number of 60 digits at most -/
def IsInt (T : List Nat) (i : Int) : Prop := Few i ∧ T = intL i
def spIntG : Sp := fun vs H Q _ => ∃ T : List Nat, vs = [.str (mk T)] ∧ T.length ≤ 60000 ∧ (∀ i H', IsInt T i → Ex H H' → Q (.int i) H') ∧ ((∀ i, ¬ IsInt T i) → ∀ H', Ex H H' → Q .non H')
theorem sc_integer_of : FnScope ["word", "digits", "number", "character"] ["word"] (defScope s_integer_of) := ⟨rfl, rfl, rfl, by decide +kernel, rfl, by decide +kernel, by decide +kernel⟩
theorem ok_integer_ofG (D : Dfd K mg "integer_of" s_integer_of ["word"]) (T : TxtR1 mg) : Has P w K mg base 1 "integer_of" ["word"] spIntG := by
  obtain ⟨tD, g_DIGITS⟩ := T.DIG
  obtain ⟨tM, g_MOST_DIGITS⟩ := T.MOST
  refine D.has fun f fd F => F.ok sc_integer_of (fun vs H Q E h => ?_) (fun cdv A outer s H vs Q E hr h => ?_)
  · obtain ⟨b, rfl, _⟩ := h
    rfl
  · obtain ⟨Y, rfl, hl, q1, q2⟩ := h
    refine ⟨_, (pss_cons (ps_set (i := 1) sc_integer_of.nd rfl (.inl rfl) (pe_bm PySem.F.plainAttrs_str PySem.F.slot_str_removeprefix PySem.F.type_str_removeprefix mt_removeprefix (pv 0) (pa_cons pe_str pa_nil)))
    (pss_cons (ps_if (PW.pt (pw_or (pt_cmpR op_eq (pv 1) pe_str (nomark _)) (pw_or (pt_cmpR op_gt (pe_callB call_len_str (by rfl) T.len (by decide +kernel) (pa_cons (pv 1) pa_nil)) (gInt rfl g_MOST_DIGITS) (nomark _)) (pw_or1 (pt_val (pe_callB (cr_any rfl) (by rfl) T.any (by decide +kernel) (pa_cons (pe_lc (own := [("character", 3)]) (g := gName 3) (tt := tYes) rfl sc_integer_of.nd (pi_str (pv 1)) (blkOk_by (N := ["word", "digits", "number", "character"]) (sc := defScope s_integer_of) (own := [("character", 3)]) (by decide +kernel)) (fun _ _ _ _ _ => (pg_name (i := 3) sc_integer_of.nd rfl (.inl rfl))) (fun _ _ _ _ _ => pts_nil) (fun _ _ _ _ _ => (pe_cmpR op_notIn_sign (pv 3) (gStr rfl g_DIGITS) rfl))) pa_nil)))))))
      (pss_one (ps_ret pe_non))
      pss_nil)
    (pss_cons (ps_set (i := 2) sc_integer_of.nd rfl (.inl rfl) (pe_callTy call_int_str (by rfl) T.int (by decide +kernel) (pa_cons (pv 0) pa_nil)))
    (pss_one (ps_ret (pe_ifExp (pt_cmpR op_eq (pe_callTy call_str_int (by rfl) T.str (by decide +kernel) (pa_cons (pv 2) pa_nil)) (pv 0) (nomark _)) (pv 2) pe_non)))))), ?_⟩
    have hul := undash_len Y
    refine ⟨_, rfl, rfl, _, _, rfl, rfl, sz_of (by rw [mk_len]; omega), ?_⟩
    have e0 : Txt.removeprefix (mk Y) ("-" : Str) = mk (undash Y) := ext_tl (by rw [tl_mkS]; exact undash_eq Y)
    rw [e0]
    have key : ∀ i, IsInt Y i → undash Y = numL i.natAbs ∧ (numL i.natAbs).length ≤ 60 := fun i hi => by
      obtain ⟨hf, e⟩ := hi
      exact ⟨by rw [e, undash_int], few_digits hf⟩
    by_cases h0 : undash Y = []
    · refine ⟨_, rfl, rfl, _, rfl, iteY ?_ ?_⟩
      · show decide (V.str (mk (undash Y)) = V.str (mk [])) = true
        rw [decV_mk]; exact decide_eq_true h0
      · exact q2 (fun i hi => numL_ne i.natAbs (by rw [← (key i hi).1, h0])) H (Ex.refl _)
    refine ⟨_, rfl, rfl, _, rfl, iteN ?_ ?_⟩
    · show decide (V.str (mk (undash Y)) = V.str (mk [])) = false
      rw [decV_mk]; exact decide_eq_false h0
    by_cases h1 : (undash Y).length ≤ 60
    case neg =>
      refine ⟨_, rfl, _, rfl, sz_of (by rw [mk_len]; omega), _, _, rfl, rfl, _, rfl, iteY ?_ ?_⟩
      · rw [mk_len]
        exact decide_eq_true (by omega)
      · exact q2 (fun i hi => h1 (by rw [(key i hi).1]; exact (key i hi).2)) H (Ex.refl _)
    refine ⟨_, rfl, _, rfl, sz_of (by rw [mk_len]; omega), _, _, rfl, rfl, _, rfl, iteN ?_ ?_⟩
    · rw [mk_len]
      exact decide_eq_false (by omega)
    refine ⟨_, rfl, _, rfl, fun L nL => lcSm (fun c => .bl (!decide (c ∈ tl ("0123456789" : Str)))) (by rw [mk_len]; omega) (fun _ => rfl) (fun j c H1 _ _ Q q => ⟨_, rfl, c, _, rfl, rfl, q⟩) ?_⟩
    have E1 : Ex H (upd H L (.lst ((tl (mk (undash Y))).map fun c => V.bl (!decide (c ∈ tl ("0123456789" : Str)))))) := Ex.new nL
    have hdig : ∀ c, c ∈ tl ("0123456789" : Str) ↔ (48 ≤ c ∧ c ≤ 57) := fun c => by
      constructor
      · exact fun h => (by decide +kernel : ∀ c ∈ tl ("0123456789" : Str), 48 ≤ c ∧ c ≤ 57) c h
      · rintro ⟨a, b⟩
        have : c = 48 ∨ c = 49 ∨ c = 50 ∨ c = 51 ∨ c = 52 ∨ c = 53 ∨ c = 54 ∨ c = 55 ∨ c = 56 ∨ c = 57 := by omega
        rcases this with z | z | z | z | z | z | z | z | z | z <;> rw [z] <;> decide +kernel
    by_cases h2 : ∀ c ∈ undash Y, 48 ≤ c ∧ c ≤ 57
    case neg =>
      refine ⟨L, ((tl (mk (undash Y))).map fun c => !decide (c ∈ tl ("0123456789" : Str))), rfl, SqL.of ?_, _, rfl, iteY ?_ ?_⟩
      · rw [upd_same, List.map_map]; rfl
      · rw [tl_mkS, List.any_map, List.any_eq_true]
        have ⟨c, hc⟩ := Classical.not_forall.mp h2
        have ⟨hm, hn⟩ := Classical.not_imp.mp hc
        refine ⟨c, hm, ?_⟩
        show (!decide (c ∈ tl ("0123456789" : Str))) = true
        rw [decide_eq_false fun z => hn ((hdig c).mp z)]; rfl
      · exact q2 (fun i hi => h2 (by rw [(key i hi).1]; exact numL_digits _)) _ E1
    refine ⟨L, ((tl (mk (undash Y))).map fun c => !decide (c ∈ tl ("0123456789" : Str))), rfl, SqL.of ?_, _, rfl, iteN ?_ ?_⟩
    · rw [upd_same, List.map_map]; rfl
    · rw [tl_mkS, List.any_map, List.any_eq_false]
      intro c hc
      show ¬ (!decide (c ∈ tl ("0123456789" : Str))) = true
      rw [decide_eq_true ((hdig c).mpr (h2 c hc))]; decide
    obtain ⟨i, hf, hi⟩ := int_any h0 h1 h2
    refine ⟨_, rfl, _, i, rfl, hi, ?_, ?_⟩
    · rw [mk_len]
      rcases undash_cases Y with ⟨r, e, h⟩ | ⟨h, _⟩
      · rw [h] at h1; rw [e, List.length_cons]; omega
      · rw [h] at h1; omega
    refine ⟨_, rfl, i, rfl, few_log hf, _, rfl, rfl, _, rfl, ?_⟩
    by_cases he : Y = intL i
    · refine iteY ?_ ⟨_, rfl, q1 i _ ⟨hf, he⟩ E1⟩
      rw [str_int, he]; exact decide_eq_true rfl
    · refine iteN ?_ (q2 (fun j hj => ?_) _ E1)
      · rw [str_int]
        show decide (V.str (mk (intL i)) = V.str (mk Y)) = false
        rw [decV_mk]; exact decide_eq_false fun z => he z.symm
      · have : PySem.intText? (mk Y) = some j := by rw [hj.2]; exact int_back hj.1
        rw [hi] at this
        injection this with this
        exact he (by rw [this]; exact hj.2)
def spBitG : Sp := fun vs H Q _ => ∃ c : Nat, vs = [.str (mk [c])] ∧ (∀ b : Bool, c = bitL b → Q (.bl b) H) ∧ ((∀ b, c ≠ bitL b) → Q .non H)
theorem sc_bit_of : FnScope ["character"] ["character"] (defScope s_bit_of) := ⟨rfl, rfl, rfl, by decide +kernel, rfl, by decide +kernel, by decide +kernel⟩
theorem ok_bit_ofG (D : Dfd K mg "bit_of" s_bit_of ["character"]) : Has P w K mg base 1 "bit_of" ["character"] spBitG := by
  refine D.has fun f fd F => F.ok sc_bit_of (fun vs H Q E h => ?_) (fun cdv A outer s H vs Q E hr h => ?_)
  · obtain ⟨b, rfl, _⟩ := h
    rfl
  · obtain ⟨c, rfl, q1, q2⟩ := h
    refine ⟨_, (pss_cons (ps_if (pt_cmpR op_eq (pv 0) pe_str (nomark _))
      (pss_one (ps_ret pe_bl))
      pss_nil)
    (pss_one (ps_ret (pe_ifExp (pt_cmpR op_eq (pv 0) pe_str (nomark _)) pe_bl pe_non)))), ?_⟩
    have hd : ∀ n : Nat, decide (V.str (mk [c]) = V.str (mk [n])) = decide (c = n) := fun n => by rw [decV_mk]; simp
    by_cases h0 : c = 48
    · exact ⟨_, rfl, rfl, _, rfl, iteY ((hd 48).trans (decide_eq_true h0)) (q1 false h0)⟩
    by_cases h1 : c = 49
    · exact ⟨_, rfl, rfl, _, rfl, iteN ((hd 48).trans (decide_eq_false h0)) ⟨_, rfl, rfl, _, rfl, iteY ((hd 49).trans (decide_eq_true h1)) (q1 true h1)⟩⟩
    · exact ⟨_, rfl, rfl, _, rfl, iteN ((hd 48).trans (decide_eq_false h0)) ⟨_, rfl, rfl, _, rfl, iteN ((hd 49).trans (decide_eq_false h1)) (q2 fun b h => by cases b; exact h0 h; exact h1 h)⟩⟩
end
end G
namespace G
open PySem PySem.Spec PyProof.Rows L2 Evl TL
/-- a pair of how many and which bit -/
def PcAt (H : Hp) (c : Addr) (p : Nat × Bool) : Prop := H c = some (.tup [.int (p.1 : Nat), .bl p.2])
theorem neg_last (n : Nat) : ixN (n + 1) (-1) = some n := by
  unfold ixN
  rw [if_neg (by decide), if_pos (by omega)]
  congr 1
  omega
theorem All2.unsnoc {α β : Type} {R : α → β → Prop} {as : List α} {bs : List β} {a : α} {b : β} (h : All2 R (as ++ [a]) (bs ++ [b])) : All2 R as bs ∧ R a b := by
  have hl : as.length = bs.length := by have := h.1; rw [List.length_append, List.length_append] at this; exact Nat.succ.inj this
  refine ⟨⟨hl, fun i x y h1 h2 => h.2 i x y ?_ ?_⟩, h.2 as.length a b ?_ ?_⟩
  · rw [List.getElem?_append_left (List.getElem?_eq_some_iff.mp h1).1]; exact h1
  · rw [List.getElem?_append_left (List.getElem?_eq_some_iff.mp h2).1]; exact h2
  · rw [List.getElem?_append_right (Nat.le_refl _), Nat.sub_self]; rfl
  · rw [hl, List.getElem?_append_right (Nat.le_refl _), Nat.sub_self]; rfl
theorem runs_len_le (l : List Bool) (k : Nat) (h : k ≤ l.length) : (runsB (l.take k)).length ≤ k ∧ ∀ p ∈ runsB (l.take k), p.1 ≤ k := by
  obtain ⟨h1, h2⟩ := runs_ok l k h
  have := exp_len _ h2
  rw [h1, List.length_take] at this
  exact ⟨by omega, fun p hp => by have := this.2 p hp; omega⟩
def RowAt (H : Hp) (a : Addr) (r : List Nat × List Bool) : Prop := ∃ bt, H a = some (.tup [.str (mk r.1), .ref bt]) ∧ H bt = some (.tup (r.2.map V.bl))
theorem RowAt.ex {H H' : Hp} {a : Addr} {r : List Nat × List Bool} (h : RowAt H a r) (e : Ex H H') : RowAt H' a r := by
  obtain ⟨bt, h1, h2⟩ := h
  exact ⟨bt, e _ _ h1, e _ _ h2⟩
def RecAt (H : Hp) (a : Addr) (r : RecD) : Prop := ∃ (rt : Addr) (ra : List Addr), H a = some (.tup [.int r.low, .int r.high, .ref rt]) ∧ H rt = some (.tup (ra.map V.ref)) ∧ All2 (RowAt H) ra r.rows
structure RecOk (r : RecD) : Prop where
  low : Few r.low
  high : Few r.high
  one : 1 ≤ r.size
  size : r.size ≤ 41
  rows : r.rows.length ≤ 4
  row : ∀ x ∈ r.rows, NameL x.1 ∧ x.2.length = r.size
theorem piece_free {p : Nat × Bool} {s : Nat} (h : s < 48 ∨ 57 < s) (h2 : s ≠ 120) : s ∉ pieceL p := fun hm => by
  unfold pieceL at hm
  rcases List.mem_append.mp hm with z | z
  · exact numL_free h z
  · rcases List.mem_cons.mp z with z | z
    · exact h2 z
    · have := List.mem_singleton.mp z
      unfold bitL at this
      split at this <;> omega
theorem piece_len {p : Nat × Bool} (h : p.1 < 1000) : (pieceL p).length ≤ 5 := by
  unfold pieceL
  have := numL_len (n := p.1) (k := 3) (by decide) h
  rw [List.length_append]
  show _ + 2 ≤ 5
  omega
theorem row_len {r : List Nat × List Bool} (hn : NameL r.1) (hb : r.2.length ≤ 41) : (rowL r).length ≤ 10000 := by
  unfold rowL
  have h1 := runs_len_le r.2 r.2.length (Nat.le_refl _)
  rw [List.take_length] at h1
  have := joinL_len [32] 62 r.1 ((runsB r.2).map pieceL) fun p hp => by
    rcases List.mem_cons.mp hp with z | z
    · rw [z]; exact name_len hn
    · obtain ⟨q, hq, rfl⟩ := List.mem_map.mp z
      have := piece_len (p := q) (by have := h1.2 q hq; omega)
      omega
  rw [List.length_map] at this
  have e : ([32] : List Nat).length = 1 := rfl
  rw [e] at this
  have : (runsB r.2).length * (62 + 1) ≤ 41 * 63 := Nat.mul_le_mul_right _ (by omega)
  omega
theorem head_len {low high : Int} (h1 : Few low) (h2 : Few high) : (headL low high).length ≤ 1000 := by
  unfold headL
  have := few_len h1
  have := few_len h2
  have := joinL_len [32] 61 (tl ("from" : Str)) [intL low, tl ("to" : Str), intL high] fun p hp => by
    simp only [List.mem_cons, List.not_mem_nil, or_false] at hp
    rcases hp with z | z | z | z <;> rw [z]
    · decide +kernel
    · assumption
    · decide +kernel
    · assumption
  have e : ([32] : List Nat).length = 1 := rfl
  rw [e] at this
  exact Nat.le_trans this (by show 61 + 3 * (61 + 1) ≤ 1000; decide)
theorem apart_take : ∀ {fs : List (Nat × Bool)}, Apart fs → ∀ k, Apart (fs.take k)
  | [], _, k => by rw [List.take_nil]; trivial
  | [p], h, k => by
    cases k with
    | zero => trivial
    | succ k => rw [List.take_of_length_le (by show 1 ≤ _; omega)]; exact h
  | p :: q :: r, h, k => by
    match k with
    | 0 => trivial
    | 1 => exact h.1
    | k + 2 =>
      have := apart_take (fs := q :: r) h.2.2 (k + 1)
      exact ⟨h.1, h.2.1, this⟩
theorem exp_take (fs : List (Nat × Bool)) (k : Nat) : (expB (fs.take k)).length ≤ (expB fs).length := by
  have e : expB fs = expB (fs.take k) ++ expB (fs.drop k) := by
    unfold expB
    rw [← List.flatten_append, ← List.map_append, List.take_append_drop]
  rw [e, List.length_append]; omega
theorem head_free {low high : Int} : 10 ∉ headL low high := fun hm => by
  unfold headL at hm
  rcases joinL_mem _ _ _ _ hm with ⟨p, hp, hc⟩ | z
  · simp only [List.mem_cons, List.not_mem_nil, or_false] at hp
    rcases hp with e | e | e | e <;> rw [e] at hc
    · exact absurd hc (by decide +kernel)
    · exact intL_free (by decide) hc
    · exact absurd hc (by decide +kernel)
    · exact intL_free (by decide) hc
  · exact absurd z (by decide)
theorem row_free {r : List Nat × List Bool} (hn : NameL r.1) : 10 ∉ rowL r := fun hm => by
  unfold rowL at hm
  rcases joinL_mem _ _ _ _ hm with ⟨p, hp, hc⟩ | z
  · rcases List.mem_cons.mp hp with e | e
    · rw [e] at hc; exact name_free hn run_signs.2.2 (by decide) hc
    · obtain ⟨q, _, rfl⟩ := List.mem_map.mp e
      exact piece_free (by decide) (by decide) hc
  · exact absurd z (by decide)
theorem lines_len {r : RecD} (ok : RecOk r) : r.lines.length ≤ 5 ∧ ∀ l ∈ r.lines, l.length ≤ 10000 := by
  constructor
  · unfold RecD.lines; rw [List.length_cons, List.length_map]; have := ok.rows; omega
  · intro l hl
    unfold RecD.lines at hl
    rcases List.mem_cons.mp hl with z | z
    · rw [z]; exact Nat.le_trans (head_len ok.low ok.high) (by decide)
    · obtain ⟨x, hx, rfl⟩ := List.mem_map.mp z
      obtain ⟨h1, h2⟩ := ok.row x hx
      exact row_len h1 (by rw [h2]; exact ok.size)
theorem RowAt.put {H : Hp} {a b : Addr} {r : List Nat × List Bool} {xs : List V} {o : HO} (h : RowAt H a r) (hb : H b = some (.lst xs)) : RowAt (upd H b o) a r := by
  obtain ⟨bt, h1, h2⟩ := h
  exact ⟨bt, by rw [upd_ne (ne_of h1 hb (by intro y; cases y))]; exact h1, by rw [upd_ne (ne_of h2 hb (by intro y; cases y))]; exact h2⟩
theorem joinL_part (s : List Nat) : ∀ (x : List Nat) (xs : List (List Nat)) (p : List Nat), p ∈ x :: xs → p.length ≤ (joinL s (x :: xs)).length
  | x, [], p, h => by rw [List.mem_singleton.mp h]; exact Nat.le_refl _
  | x, y :: ys, p, h => by
    show p.length ≤ (x ++ (s ++ joinL s (y :: ys))).length
    rw [List.length_append, List.length_append]
    rcases List.mem_cons.mp h with z | z
    · rw [z]; omega
    · have := joinL_part s y ys p z; omega
theorem k32 : (mk [32]).cps.all (· < 256) = true := by decide +kernel
theorem k47 : (mk [47]).cps.all (· < 256) = true := by decide +kernel
theorem k10 : (mk [10]).cps.all (· < 256) = true := by decide +kernel
theorem part_len {s : Nat} {x : List Nat} {xs : List (List Nat)} {n : Nat} (h : (joinL [s] (x :: xs)).length ≤ n) : ∀ p ∈ x :: xs, p.length ≤ n := fun p hp => Nat.le_trans (joinL_part [s] x xs p hp) h
theorem join_count (s : List Nat) : ∀ (x : List Nat) (xs : List (List Nat)), xs.length * s.length ≤ (joinL s (x :: xs)).length
  | x, [] => by show 0 * _ ≤ _; omega
  | x, y :: ys => by
    have := join_count s y ys
    show (ys.length + 1) * s.length ≤ (x ++ (s ++ joinL s (y :: ys))).length
    rw [List.length_append, List.length_append, Nat.succ_mul]; omega
end G
namespace G
open PySem PySem.Spec PyProof.Rows L2 Evl TL
theorem ends_last (X : List Nat) (d c : Nat) : Txt.endswith (mk (X ++ [d])) (mk [c]) = decide (d = c) := by
  show (decide (0 + (mk [c]).length ≤ (mk (X ++ [d])).length) && PySem.Builtin.Str.subAt (mk (X ++ [d])) (mk [c]) ((mk (X ++ [d])).length - (mk [c]).length)) = _
  rw [PySem.StrLaws.subAt_eq]
  show (_ && (((tl (mk (X ++ [d]))).drop _).take _ == tl (mk [c]))) = _
  rw [tl_mkS, tl_mkS, mk_len, mk_len, List.length_append]
  show (decide (0 + 1 ≤ X.length + 1) && (((X ++ [d]).drop (X.length + 1 - 1)).take 1 == [c])) = _
  rw [Nat.add_sub_cancel, List.drop_left, decide_eq_true (by omega), Bool.eq_iff_iff]
  simp
/-- a text of lines, each with its line feed -/
def IsLines (T : List Nat) (ls : List (List Nat)) : Prop := (∃ x xs, ls = x :: xs ∧ T = joinL [10] (x :: xs) ++ [10] ∧ ∀ l ∈ x :: xs, 10 ∉ l) ∨ (ls = [] ∧ ∀ X, T ≠ X ++ [10])
section
variable {P : Program} {w : World} {K : PySem.W.Frag} {mg : Str → Option Value} {base : Heap}
def spLinesG : Sp := fun vs H Q _ => ∃ Y : List Nat, vs = [.str (mk Y)] ∧ Y.length ≤ 60000 ∧ ∀ (p : Addr) (H' : Hp) (ls : List (List Nat)), Ex H H' → H' p = some (.lst (strV ls)) → IsLines Y ls → Q (.ref p) H'
theorem sc_lines_of : FnScope ["text"] ["text"] (defScope s_lines_of) := ⟨rfl, rfl, rfl, by decide +kernel, rfl, by decide +kernel, by decide +kernel⟩
theorem ok_lines_ofG (D : Dfd K mg "lines_of" s_lines_of ["text"]) : Has P w K mg base 1 "lines_of" ["text"] spLinesG := by
  refine D.has fun f fd F => F.ok sc_lines_of (fun vs H Q E h => ?_) (fun cdv A outer s H vs Q E hr h => ?_)
  · obtain ⟨x, rfl, _⟩ := h
    rfl
  · obtain ⟨Y, rfl, hl, q⟩ := h
    refine ⟨_, (pss_one (ps_ret (pe_ifExp (pt_val (pe_bm PySem.F.plainAttrs_str PySem.F.slot_str_endswith PySem.F.type_str_endswith mt_endswith (pv 0) (pa_cons pe_str pa_nil))) (pe_bm PySem.F.plainAttrs_str PySem.F.slot_str_split PySem.F.type_str_split mt_split (pe_slice sl_str (pv 0) po_none (po_some (pe_un un_neg pe_int))) (pa_cons pe_str pa_nil)) (pe_lst pa_nil)))), ?_⟩
    rcases snoc_cases Y with rfl | ⟨X, d, rfl⟩
    · exact ⟨_, rfl, rfl, _, _, rfl, rfl, _, rfl, iteN (by decide +kernel) ⟨Nat.zero_le _, fun l nl => q l _ [] (Ex.new nl) upd_same (.inr ⟨rfl, fun X h => by cases X <;> cases h⟩)⟩⟩
    rw [List.length_append] at hl
    have hl : X.length + 1 ≤ 60000 := hl
    by_cases hd : d = 10
    case neg =>
      refine ⟨_, rfl, rfl, _, _, rfl, rfl, _, rfl, iteN ?_ ⟨Nat.zero_le _, fun l nl => q l _ [] (Ex.new nl) upd_same (.inr ⟨rfl, fun Z h => hd ?_⟩)⟩⟩
      · exact (ends_last X d 10).trans (decide_eq_false hd)
      · exact (List.append_inj' h rfl).2 |> fun z => by injection z
    subst hd
    refine ⟨_, rfl, rfl, _, _, rfl, rfl, _, rfl, iteY ?_ ?_⟩
    · exact ends_snoc _ _
    refine ⟨_, rfl, _, rfl, _, rfl, _, rfl, sz_of (by rw [mk_len, List.length_append]; show _ + 1 ≤ _; omega), rfl, _, _, rfl, rfl, by decide, ?_, fun p np => ?_⟩
    · rw [cut_snoc, mk_len]
      exact sz_of (by omega)
    rw [cut_snoc]
    obtain ⟨x, xs, e, hf⟩ := split_ex 10 X
    have es : Txt.split (mk X) ("\n" : Str) = (x :: xs).map mk := by rw [e]; exact split_mk (s := 10) (by decide +kernel) hf
    rw [es, List.map_map]
    exact q p _ (x :: xs) (Ex.new np) upd_same (.inl ⟨x, xs, rfl, by rw [← e], hf⟩)
end
end G
namespace G
open PySem PySem.Spec PyProof.Rows L2 Evl TL
/-- T is the text of a piece -/
def IsPiece (T : List Nat) (p : Nat × Bool) : Prop := T = pieceL p ∧ 1 ≤ p.1 ∧ Few (p.1 : Int)
def IsHeadK (Y : List Nat) (low high : Int) : Prop := Y = headL low high ∧ Few low ∧ Few high ∧ low ≤ high
theorem app_uniq {s : Nat} {a b : List Nat} : ∀ {x y : List Nat}, s ∉ x → s ∉ y → x ++ s :: a = y ++ s :: b → x = y ∧ a = b
  | [], [], _, _, h => by injection h with _ h; exact ⟨rfl, h⟩
  | [], c :: y, _, hy, h => by injection h with h _; exact absurd (h ▸ List.mem_cons_self) hy
  | c :: x, [], hx, _, h => by injection h with h _; exact absurd (h ▸ List.mem_cons_self) hx
  | c :: x, d :: y, hx, hy, h => by
    injection h with h1 h2
    obtain ⟨e1, e2⟩ := app_uniq (fun z => hx (List.mem_cons_of_mem _ z)) (fun z => hy (List.mem_cons_of_mem _ z)) h2
    exact ⟨by rw [h1, e1], e2⟩
theorem piece_cut {N C : List Nat} {p : Nat × Bool} (hN : 120 ∉ N) (h : N ++ 120 :: C = pieceL p) : N = numL p.1 ∧ C = [bitL p.2] := app_uniq hN (numL_free (by decide)) h
theorem piece_x (p : Nat × Bool) : 120 ∈ pieceL p := by unfold pieceL; simp
theorem x_parts (T : List Nat) : ∃ N M C : List Nat, Txt.partition (mk T) ("x" : Str) = (mk N, mk M, mk C) ∧ N.length ≤ T.length ∧ C.length ≤ T.length ∧ (∀ p, IsPiece T p → N = numL p.1 ∧ C = [bitL p.2]) ∧ (∀ (n : Nat) (b : Bool), N = numL n → C = [bitL b] → 1 ≤ n → Few (n : Int) → IsPiece T (n, b)) := by
  obtain ⟨x, xs, e, hf⟩ := split_ex 120 T
  cases xs with
  | nil =>
    have hx := hf x List.mem_cons_self
    have e : T = x := e
    subst e
    refine ⟨T, [], [], TL.partition_none (y := ("x" : Str)) (s := 120) (S := []) rfl (a := mk T) (by rw [tl_mkS]; exact hx), Nat.le_refl _, Nat.zero_le _, fun p h => ?_, fun n b _ h => by cases h⟩
    exact absurd (h.1 ▸ piece_x p) hx
  | cons y ys =>
    have hx := hf x List.mem_cons_self
    have e : T = x ++ ([120] ++ joinL [120] (y :: ys)) := e
    refine ⟨x, [120], joinL [120] (y :: ys), ?_, by rw [e, List.length_append]; omega, by rw [e, List.length_append, List.length_append]; omega, fun p h => piece_cut hx (e.symm.trans h.1), fun n b h1 h2 h3 h4 => ⟨by rw [e, h1, h2]; rfl, h3, h4⟩⟩
    have e1 : mk T = mk x ++ ("x" : Str) ++ mk (joinL [120] (y :: ys)) := ext_tl (by
      rw [tl_append, tl_append, tl_mkS, tl_mkS, tl_mkS, e]
      show _ = (x ++ [120]) ++ _
      rw [List.append_assoc])
    rw [e1]
    exact partition_app (s := 120) (S := []) rfl (by rw [tl_mkS]; exact hx)
section
variable {P : Program} {w : World} {K : PySem.W.Frag} {mg : Str → Option Value} {base : Heap}
def spBitA : Sp := fun vs H Q _ => ∃ T : List Nat, vs = [.str (mk T)] ∧ (∀ b : Bool, T = [bitL b] → Q (.bl b) H) ∧ ((∀ b, T ≠ [bitL b]) → Q .non H)
theorem ok_bit_ofA (D : Dfd K mg "bit_of" s_bit_of ["character"]) : Has P w K mg base 1 "bit_of" ["character"] spBitA := by
  refine D.has fun f fd F => F.ok sc_bit_of (fun vs H Q E h => ?_) (fun cdv A outer s H vs Q E hr h => ?_)
  · obtain ⟨b, rfl, _⟩ := h
    rfl
  · obtain ⟨c, rfl, q1, q2⟩ := h
    refine ⟨_, (pss_cons (ps_if (pt_cmpR op_eq (pv 0) pe_str (nomark _))
      (pss_one (ps_ret pe_bl))
      pss_nil)
    (pss_one (ps_ret (pe_ifExp (pt_cmpR op_eq (pv 0) pe_str (nomark _)) pe_bl pe_non)))), ?_⟩
    have hd : ∀ n : Nat, decide (V.str (mk c) = V.str (mk [n])) = decide (c = [n]) := fun n => decV_mk c [n]
    by_cases h0 : c = [48]
    · exact ⟨_, rfl, rfl, _, rfl, iteY ((hd 48).trans (decide_eq_true h0)) (q1 false h0)⟩
    by_cases h1 : c = [49]
    · exact ⟨_, rfl, rfl, _, rfl, iteN ((hd 48).trans (decide_eq_false h0)) ⟨_, rfl, rfl, _, rfl, iteY ((hd 49).trans (decide_eq_true h1)) (q1 true h1)⟩⟩
    · exact ⟨_, rfl, rfl, _, rfl, iteN ((hd 48).trans (decide_eq_false h0)) ⟨_, rfl, rfl, _, rfl, iteN ((hd 49).trans (decide_eq_false h1)) (q2 fun b h => by cases b; exact h0 h; exact h1 h)⟩⟩
def spPieceG (B : Addr) : Sp := fun vs H Q E => ∃ T : List Nat, vs = [.str (mk T)] ∧ T.length ≤ 50000 ∧ (∀ (p : Nat × Bool) (a : Addr) (H' : Hp), IsPiece T p → Ex H H' → PcAt H' a p → Q (.ref a) H') ∧ ((∀ p, ¬ IsPiece T p) → ∀ H', Ex H H' → E (.ref B) none H')
theorem sc_read_piece : FnScope ["piece", "number", "_", "character", "many", "bit"] ["piece"] (defScope s_read_piece) := ⟨rfl, rfl, rfl, by decide +kernel, rfl, by decide +kernel, by decide +kernel⟩
theorem ok_read_pieceG {B : Addr} (D : Dfd K mg "_read_piece" s_read_piece ["piece"]) (UB : ExcT K mg "BadRecord" B) (C1 : Has P w K mg base 1 "integer_of" ["word"] spIntG) (C2 : Has P w K mg base 1 "bit_of" ["character"] spBitA) : HasX P w K mg base 2 "_read_piece" ["piece"] (spPieceG B) := by
  obtain ⟨f_integer_of, d_integer_of, G_integer_of, g_integer_of, k_integer_of, b_integer_of⟩ := C1
  obtain ⟨f_bit_of, d_bit_of, G_bit_of, g_bit_of, k_bit_of, b_bit_of⟩ := C2
  obtain ⟨f, fd, F, gf, bf⟩ := D
  refine ⟨f, fd, F.okX sc_read_piece (fun vs H Q E h => ?_) (fun cdv A outer s H vs Q E hr h => ?_), gf, F.kp, bf⟩
  · obtain ⟨p, rfl, _⟩ := h
    rfl
  · obtain ⟨Y, rfl, hl, q1, q2⟩ := h
    refine ⟨_, (pss_cons (ps_asg (pe_bm PySem.F.plainAttrs_str PySem.F.slot_str_partition PySem.F.type_str_partition mt_partition (pv 0) (pa_cons pe_str pa_nil)) (pg_tup rfl (pgs_cons (pg_name (i := 1) sc_read_piece.nd rfl (.inl rfl)) (pgs_cons (pg_name (i := 2) sc_read_piece.nd rfl (.inl rfl)) (pgs_cons (pg_name (i := 3) sc_read_piece.nd rfl (.inl rfl)) pgs_nil)))))
    (pss_cons (ps_set (i := 4) sc_read_piece.nd rfl (.inl rfl) (pe_call G_integer_of (hr.mono (by omega)) (by rfl) g_integer_of k_integer_of b_integer_of .nil pass0 (pa_cons (pv 1) pa_nil)))
    (pss_cons (ps_set (i := 5) sc_read_piece.nd rfl (.inl rfl) (pe_call G_bit_of (hr.mono (by omega)) (by rfl) g_bit_of k_bit_of b_bit_of .nil pass0 (pa_cons (pv 3) pa_nil)))
    (pss_cons (ps_if (PW.pt (pw_or (pt_cmpR op_isN (pv 4) pe_non (nomark _)) (pw_or (pt_cmpR op_lt (pv 4) pe_int (nomark _)) (pw_or1 (pt_cmpR op_isN (pv 5) pe_non (nomark _))))))
      (pss_one (ps_raise rfl (takes_of rfl rfl rfl rfl) (pmk_ownA PySem.F.excBase_ValueError UB.xP UB.gC UB.kC (raises_own UB.bC UB.tC) rfl (pa_cons pe_str pa_nil))))
      pss_nil)
    (pss_one (ps_ret (pe_tup (pa_cons (pv 4) (pa_cons (pv 5) pa_nil))))))))), ?_⟩
    obtain ⟨N, M, C, ep, hN, hC, f1, f2⟩ := x_parts Y
    have sz1 : 1 ≤ sizeLine := by decide
    refine ⟨_, rfl, rfl, _, _, rfl, rfl, by decide, sz_of (by rw [mk_len]; omega), ?_⟩
    rw [ep]
    intro t nt
    have E0 : Ex H (upd H t (.tup [.str (mk N), .str (mk M), .str (mk C)])) := Ex.new nt
    refine ⟨t, _, rfl, SqT.of upd_same, rfl, _, _, rfl, _, _, rfl, _, _, rfl, rfl, ?_⟩
    refine ⟨_, rfl, N, rfl, by omega, fun i H1 hi E1 => ⟨_, rfl, C, rfl, fun b hb => ?_, fun hnb => ?_⟩, fun hni H1 E1 => ⟨_, rfl, C, rfl, fun b hb => ?_, fun hnb => ?_⟩⟩
    · by_cases h1 : 1 ≤ i
      · obtain ⟨n, rfl⟩ : ∃ n : Nat, i = (n : Int) := ⟨i.toNat, by omega⟩
        refine ⟨_, rfl, rfl, _, rfl, iteN rfl ⟨_, rfl, _, _, rfl, rfl, _, rfl, iteN (decide_eq_false (by omega)) ⟨_, rfl, rfl, _, rfl, iteN rfl ?_⟩⟩⟩
        exact ⟨_, rfl, _, rfl, (by show 2 ≤ sizeLine; decide), fun c nc => q1 (n, b) c _ (f2 n b (by rw [hi.2, intL_nat]) hb (by omega) hi.1) ((E0.trans E1).trans (Ex.new nc)) upd_same⟩
      · exact ⟨_, rfl, rfl, _, rfl, iteN rfl ⟨_, rfl, _, _, rfl, rfl, _, rfl, iteY (decide_eq_true (by omega)) ⟨sz1, q2 (fun p hp => by
          have e := (f1 p hp).1
          rw [hi.2, ← intL_nat] at e
          have a := int_back hi.1
          have b := int_back hp.2.2
          rw [e, b] at a
          injection a with a
          have := hp.2.1
          omega) _ (E0.trans E1)⟩⟩⟩
    · have no : ∀ p, ¬ IsPiece Y p := fun p hp => hnb p.2 (f1 p hp).2
      by_cases h1 : i < 1
      · exact ⟨_, rfl, rfl, _, rfl, iteN rfl ⟨_, rfl, _, _, rfl, rfl, _, rfl, iteY (decide_eq_true h1) ⟨sz1, q2 no _ (E0.trans E1)⟩⟩⟩
      · exact ⟨_, rfl, rfl, _, rfl, iteN rfl ⟨_, rfl, _, _, rfl, rfl, _, rfl, iteN (decide_eq_false h1) ⟨_, rfl, rfl, _, rfl, iteY rfl ⟨sz1, q2 no _ (E0.trans E1)⟩⟩⟩⟩
    all_goals
      have no : ∀ p, ¬ IsPiece Y p := fun p hp => hni (p.1 : Int) ⟨hp.2.2, by rw [(f1 p hp).1, intL_nat]⟩
      exact ⟨_, rfl, rfl, _, rfl, iteY rfl ⟨sz1, q2 no _ (E0.trans E1)⟩⟩
theorem head_words {y : List Nat} {ys : List (List Nat)} {low high : Int} (hf : ∀ p ∈ y :: ys, 32 ∉ p) (h : IsHeadK (joinL [32] (y :: ys)) low high) : y :: ys = [tl ("from" : Str), intL low, tl ("to" : Str), intL high] :=
  join_inj k32 hf (fun p hp => by
    simp only [List.mem_cons, List.not_mem_nil, or_false] at hp
    rcases hp with z | z | z | z <;> rw [z]
    · decide +kernel
    · exact intL_free (by decide)
    · decide +kernel
    · exact intL_free (by decide)) h.1
def spHeadK (B : Addr) : Sp := fun vs H Q E => ∃ Y : List Nat, vs = [.str (mk Y)] ∧ Y.length ≤ 50000 ∧ (∀ (low high : Int) (a : Addr) (H' : Hp), IsHeadK Y low high → Ex H H' → H' a = some (.tup [.int low, .int high]) → Q (.ref a) H') ∧ ((∀ low high, ¬ IsHeadK Y low high) → ∀ H', Ex H H' → E (.ref B) none H')
theorem sc_read_head : FnScope ["line", "words", "low", "high"] ["line"] (defScope s_read_head) := ⟨rfl, rfl, rfl, by decide +kernel, rfl, by decide +kernel, by decide +kernel⟩
theorem ok_read_headK {B : Addr} (D : Dfd K mg "_read_head" s_read_head ["line"]) (UB : ExcT K mg "BadRecord" B) (T : TxtR1 mg) (C1 : Has P w K mg base 1 "integer_of" ["word"] spIntG) : HasX P w K mg base 2 "_read_head" ["line"] (spHeadK B) := by
  obtain ⟨f_integer_of, d_integer_of, G_integer_of, g_integer_of, k_integer_of, b_integer_of⟩ := C1
  obtain ⟨f, fd, F, gf, bf⟩ := D
  refine ⟨f, fd, F.okX sc_read_head (fun vs H Q E h => ?_) (fun cdv A outer s H vs Q E hr h => ?_), gf, F.kp, bf⟩
  · obtain ⟨low, rfl, _⟩ := h
    rfl
  · obtain ⟨Y, rfl, hl, q1, q2⟩ := h
    refine ⟨_, (pss_cons (ps_set (i := 1) sc_read_head.nd rfl (.inl rfl) (pe_bm PySem.F.plainAttrs_str PySem.F.slot_str_split PySem.F.type_str_split mt_split (pv 0) (pa_cons pe_str pa_nil)))
    (pss_cons (ps_if (PW.pt (pw_or (pt_cmpR op_ne (pe_callB call_len_seq (by rfl) T.len (by decide +kernel) (pa_cons (pv 1) pa_nil)) pe_int (nomark _)) (pw_or (pt_cmpR op_ne (pe_ix ix_list (pv 1) pe_int (fun _ _ => rfl)) pe_str (nomark _)) (pw_or1 (pt_cmpR op_ne (pe_ix ix_list (pv 1) pe_int (fun _ _ => rfl)) pe_str (nomark _))))))
      (pss_one (ps_raise rfl (takes_of rfl rfl rfl rfl) (pmk_ownA PySem.F.excBase_ValueError UB.xP UB.gC UB.kC (raises_own UB.bC UB.tC) rfl (pa_cons pe_str pa_nil))))
      pss_nil)
    (pss_cons (ps_set (i := 2) sc_read_head.nd rfl (.inl rfl) (pe_call G_integer_of (hr.mono (by omega)) (by rfl) g_integer_of k_integer_of b_integer_of .nil pass0 (pa_cons (pe_ix ix_list (pv 1) pe_int (fun _ _ => rfl)) pa_nil)))
    (pss_cons (ps_set (i := 3) sc_read_head.nd rfl (.inl rfl) (pe_call G_integer_of (hr.mono (by omega)) (by rfl) g_integer_of k_integer_of b_integer_of .nil pass0 (pa_cons (pe_ix ix_list (pv 1) pe_int (fun _ _ => rfl)) pa_nil)))
    (pss_cons (ps_if (PW.pt (pw_or (pt_cmpR op_isN (pv 2) pe_non (nomark _)) (pw_or (pt_cmpR op_isN (pv 3) pe_non (nomark _)) (pw_or1 (pt_cmpR op_gt (pv 2) (pv 3) (nomark _))))))
      (pss_one (ps_raise rfl (takes_of rfl rfl rfl rfl) (pmk_ownA PySem.F.excBase_ValueError UB.xP UB.gC UB.kC (raises_own UB.bC UB.tC) rfl (pa_cons pe_str pa_nil))))
      pss_nil)
    (pss_one (ps_ret (pe_tup (pa_cons (pv 2) (pa_cons (pv 3) pa_nil)))))))))), ?_⟩
    obtain ⟨x, xs, rfl, hf⟩ := split_ex 32 Y
    refine ⟨_, rfl, rfl, _, _, rfl, rfl, by decide, sz_of (by rw [mk_len]; omega), ?_⟩
    rw [show Txt.split (mk (joinL [32] (x :: xs))) (" " : Str) = (x :: xs).map mk from split_mk k32 hf]
    intro wd nw
    have E1 : Ex H (upd H wd (.lst (((x :: xs).map mk).map V.str))) := Ex.new nw
    have hw : upd H wd (.lst (((x :: xs).map mk).map V.str)) wd = some (.lst (strV (x :: xs))) := by rw [upd_same, List.map_map]; rfl
    generalize upd H wd (.lst (((x :: xs).map mk).map V.str)) = H1 at *
    have wds : ∀ m i, IsHeadK (joinL [32] (x :: xs)) m i → x :: xs = [tl ("from" : Str), intL m, tl ("to" : Str), intL i] := fun m i h => head_words hf h
    have hpl := part_len hl
    generalize hws : x :: xs = ws at *
    have sl : (strV ws).length = ws.length := by unfold strV; rw [List.length_map]
    have e4 : (!decide (V.int ((strV ws).length : Int) = V.int 4)) = !decide (ws.length = 4) := by
      rw [sl]
      congr 1
      rw [Bool.eq_iff_iff, decide_eq_true_iff, decide_eq_true_iff]
      exact ⟨fun z => by have := V.int.inj z; omega, fun z => by rw [z]; rfl⟩
    have sz1 : 1 ≤ sizeLine := by decide
    by_cases h4 : ws.length = 4
    case neg =>
      exact ⟨_, rfl, wd, _, rfl, .inl (SqL.of hw), rfl, _, rfl, iteY (by rw [e4, decide_eq_false h4]; rfl) ⟨sz1, q2 (fun m i h => h4 (by rw [wds m i h]; rfl)) _ E1⟩⟩
    obtain ⟨a1, a2, a3, a4, rfl⟩ : ∃ a1 a2 a3 a4, ws = [a1, a2, a3, a4] := by
      match ws, h4 with
      | [a1, a2, a3, a4], _ => exact ⟨a1, a2, a3, a4, rfl⟩
    have hw : H1 wd = some (.lst [.str (mk a1), .str (mk a2), .str (mk a3), .str (mk a4)]) := hw
    have ne1 : ∀ v : V, (!decide (v = v)) = false := fun v => by rw [decide_eq_true rfl]; rfl
    have ds : ∀ (a : List Nat) (b : Str), (!decide (V.str (mk a) = V.str b)) = !decide (a = tl b) := fun a b => by rw [← mk_tlS b, decV_mk, tl_mkS]
    have inv : ∀ m i, IsHeadK (joinL [32] [a1, a2, a3, a4]) m i → a1 = tl ("from" : Str) ∧ IsInt a2 m ∧ a3 = tl ("to" : Str) ∧ IsInt a4 i := fun m i h => by
      have e := wds m i h
      injection e with e1 e
      injection e with e2 e
      injection e with e3 e
      injection e with e4 e
      exact ⟨e1, ⟨h.2.1, e2⟩, e3, ⟨h.2.2.1, e4⟩⟩
    by_cases c1 : a1 = tl ("from" : Str)
    case neg =>
      exact ⟨_, rfl, wd, _, rfl, .inl (SqL.of hw), rfl, _, rfl, iteN (ne1 (.int 4)) ⟨_, rfl, _, _, _, _, rfl, rfl, SqL.of hw, atI_nat (j := 0) rfl, rfl, _, rfl, iteY ((ds a1 "from").trans (by rw [decide_eq_false c1]; rfl)) ⟨sz1, q2 (fun m i h => c1 (inv m i h).1) _ E1⟩⟩⟩
    by_cases c3 : a3 = tl ("to" : Str)
    case neg =>
      exact ⟨_, rfl, wd, _, rfl, .inl (SqL.of hw), rfl, _, rfl, iteN (ne1 (.int 4)) ⟨_, rfl, _, _, _, _, rfl, rfl, SqL.of hw, atI_nat (j := 0) rfl, rfl, _, rfl, iteN ((ds a1 "from").trans (by rw [decide_eq_true c1]; rfl)) ⟨_, rfl, _, _, _, _, rfl, rfl, SqL.of hw, atI_nat (j := 2) rfl, rfl, _, rfl, iteY ((ds a3 "to").trans (by rw [decide_eq_false c3]; rfl)) ⟨sz1, q2 (fun m i h => c3 (inv m i h).2.2.1) _ E1⟩⟩⟩⟩
    have l2 := hpl a2 (by simp)
    have l4 := hpl a4 (by simp)
    refine ⟨_, rfl, wd, _, rfl, .inl (SqL.of hw), rfl, _, rfl, iteN (ne1 (.int 4)) ⟨_, rfl, _, _, _, _, rfl, rfl, SqL.of hw, atI_nat (j := 0) rfl, rfl, _, rfl, iteN ((ds a1 "from").trans (by rw [decide_eq_true c1]; rfl)) ⟨_, rfl, _, _, _, _, rfl, rfl, SqL.of hw, atI_nat (j := 2) rfl, rfl, _, rfl, iteN ((ds a3 "to").trans (by rw [decide_eq_true c3]; rfl)) ⟨_, rfl, _, _, _, _, rfl, rfl, SqL.of hw, atI_nat (j := 1) rfl, a2, rfl, by omega, fun i H2 hi E2 => ?_, fun hni H2 E2 => ?_⟩⟩⟩⟩
    · refine ⟨_, rfl, _, _, _, _, rfl, rfl, SqL.of (E2 _ _ hw), atI_nat (j := 3) rfl, a4, rfl, by omega, fun j H3 hj E3 => ?_, fun hnj H3 E3 => ?_⟩
      · by_cases hij : i ≤ j
        · refine ⟨_, rfl, rfl, _, rfl, iteN rfl ⟨_, rfl, rfl, _, rfl, iteN rfl ⟨_, rfl, _, rfl, _, _, rfl, rfl, _, rfl, iteN (decide_eq_false (by omega)) ?_⟩⟩⟩
          exact ⟨_, rfl, _, rfl, (by show 2 ≤ sizeLine; decide), fun c nc => q1 i j c _ ⟨by rw [c1, c3, hi.2, hj.2]; rfl, hi.1, hj.1, hij⟩ ((E1.trans (E2.trans E3)).trans (Ex.new nc)) upd_same⟩
        · exact ⟨_, rfl, rfl, _, rfl, iteN rfl ⟨_, rfl, rfl, _, rfl, iteN rfl ⟨_, rfl, _, rfl, _, _, rfl, rfl, _, rfl, iteY (decide_eq_true (by omega)) ⟨sz1, q2 (fun m n h => hij (by
            obtain ⟨_, i2, _, i4⟩ := inv m n h
            have hle := h.2.2.2
            have a := int_back hi.1
            have b := int_back i2.1
            rw [← hi.2, i2.2, b] at a
            injection a with a
            have c := int_back hj.1
            have d := int_back i4.1
            rw [← hj.2, i4.2, d] at c
            injection c with c
            omega)) _ (E1.trans (E2.trans E3))⟩⟩⟩⟩
      · exact ⟨_, rfl, rfl, _, rfl, iteN rfl ⟨_, rfl, rfl, _, rfl, iteY rfl ⟨sz1, q2 (fun m n h => hnj n (inv m n h).2.2.2) _ (E1.trans (E2.trans E3))⟩⟩⟩
    · have no : ∀ m n, ¬ IsHeadK (joinL [32] [a1, a2, a3, a4]) m n := fun m n h => hni m (inv m n h).2.1
      refine ⟨_, rfl, _, _, _, _, rfl, rfl, SqL.of (E2 _ _ hw), atI_nat (j := 3) rfl, a4, rfl, by omega, fun j H3 hj E3 => ?_, fun hnj H3 E3 => ?_⟩
      all_goals exact ⟨_, rfl, rfl, _, rfl, iteY rfl ⟨sz1, q2 no _ (E1.trans (E2.trans E3))⟩⟩
end
end G
namespace G
open PySem PySem.Spec PyProof.Rows L2 Evl TL
def NameW (n : List Nat) : Prop := ∃ (x : List Nat) (xs : List (List Nat)), n = joinL [47] (x :: xs) ∧ ∀ p ∈ x :: xs, isWord p = true
/-- T is the line of a row -/
def IsRowK (T n : List Nat) (fs : List (Nat × Bool)) : Prop := T = joinL [32] (n :: fs.map pieceL) ∧ NameW n ∧ Apart fs ∧ (expB fs).length ≤ 100000
theorem bitL_inj {a b : Bool} (h : bitL a = bitL b) : a = b := by
  cases a <;> cases b <;> first | rfl | exact absurd h (by decide)
theorem pieceL_inj {p q : Nat × Bool} (h : pieceL p = pieceL q) : p = q := by
  obtain ⟨h1, h2⟩ := piece_cut (numL_free (by decide)) (show numL p.1 ++ 120 :: [bitL p.2] = pieceL q from h)
  injection h2 with h2 _
  exact Prod.ext (numL_inj h1) (bitL_inj h2)
theorem pieces_inj : ∀ {a b : List (Nat × Bool)}, a.map pieceL = b.map pieceL → a = b
  | [], [], _ => rfl
  | [], _ :: _, h => by cases h
  | _ :: _, [], h => by cases h
  | x :: a, y :: b, h => by
    rw [List.map_cons, List.map_cons] at h
    injection h with h1 h2
    rw [pieceL_inj h1, pieces_inj h2]
theorem row_at {xs : List (List Nat)} {k : Nat} {fs fs0 : List (Nat × Bool)} {T1 : List Nat} (hxs : xs = fs0.map pieceL) (h : xs.take k = fs.map pieceL) (hT : xs[k]? = some T1) : ∃ p0, fs0[k]? = some p0 ∧ T1 = pieceL p0 ∧ fs0.take (k + 1) = fs ++ [p0] := by
  rw [hxs, List.getElem?_map] at hT
  obtain ⟨p0, hp, rfl⟩ := Option.map_eq_some_iff.mp hT
  rw [hxs, ← List.map_take] at h
  exact ⟨p0, hp, rfl, by rw [take_snoc1 hp, pieces_inj h]⟩
theorem nameW_free {n : List Nat} (h : NameW n) {s : Nat} (hs : isRun s = false) (h47 : s ≠ 47) : s ∉ n := fun hm => by
  obtain ⟨x, xs, rfl, hw⟩ := h
  rcases joinL_mem _ _ _ _ hm with ⟨p, hp, hc⟩ | z
  · exact word_free (hw p hp) hs hc
  · exact h47 (List.mem_singleton.mp z)
theorem row_words {x : List Nat} {xs : List (List Nat)} {n : List Nat} {fs : List (Nat × Bool)} (hf : ∀ p ∈ x :: xs, 32 ∉ p) (h : IsRowK (joinL [32] (x :: xs)) n fs) : x = n ∧ xs = fs.map pieceL := by
  have e := join_inj k32 hf (fun p hp => by
    rcases List.mem_cons.mp hp with z | z
    · rw [z]; exact nameW_free h.2.1 run_signs.2.1 (by decide)
    · obtain ⟨q, _, rfl⟩ := List.mem_map.mp z
      exact piece_free (by decide) (by decide)) h.1
  injection e with e1 e2
  exact ⟨e1, e2⟩
theorem nameW_words {y : List Nat} {ys : List (List Nat)} (hf : ∀ p ∈ y :: ys, 47 ∉ p) (h : NameW (joinL [47] (y :: ys))) : ∀ p ∈ y :: ys, isWord p = true := by
  obtain ⟨x, xs, e, hw⟩ := h
  have e := join_inj k47 hf (fun p hp => word_free (hw p hp) run_signs.1) e
  rw [e]; exact hw
theorem few_small {n : Nat} (h : n ≤ 100000) : Few (n : Int) := by
  show ((n : Nat) : Int).natAbs < 10 ^ 60
  rw [Int.natAbs_natCast]
  exact Nat.lt_of_le_of_lt h (by decide +kernel)
section
variable {P : Program} {w : World} {K : PySem.W.Frag} {mg : Str → Option Value} {base : Heap}
def spRowK (B : Addr) : Sp := fun vs H Q E => ∃ Y : List Nat, vs = [.str (mk Y)] ∧ Y.length ≤ 15000 ∧ (∀ (n : List Nat) (fs : List (Nat × Bool)) (a : Addr) (H' : Hp), IsRowK Y n fs → Ex H H' → RowAt H' a (n, expB fs) → Q (.ref a) H') ∧ ((∀ n fs, ¬ IsRowK Y n fs) → ∀ H', Ex H H' → E (.ref B) none H')
theorem sc_read_row : FnScope ["line", "name", "pieces", "bits", "piece", "many", "bit", "part"] ["line"] (defScope s_read_row) := ⟨rfl, rfl, rfl, by decide +kernel, rfl, by decide +kernel, by decide +kernel⟩
theorem ok_read_rowK {B : Addr} (D : Dfd K mg "_read_row" s_read_row ["line"]) (UB : ExcT K mg "BadRecord" B) (T : TxtR1 mg) (TB : ∃ t, mg "MOST_BITS" = some (.int 100000 t)) (C1 : HasX P w K mg base 2 "_read_piece" ["piece"] (spPieceG B)) (C2 : Has P w K mg base 1 "is_word" ["token"] spIsWord) : HasX P w K mg base 3 "_read_row" ["line"] (spRowK B) := by
  obtain ⟨f_read_piece, d_read_piece, G_read_piece, g_read_piece, k_read_piece, b_read_piece⟩ := C1
  obtain ⟨f_is_word, d_is_word, G_is_word, g_is_word, k_is_word, b_is_word⟩ := C2
  obtain ⟨f, fd, F, gf, bf⟩ := D
  obtain ⟨tB, g_MOST_BITS⟩ := TB
  refine ⟨f, fd, F.okX sc_read_row (fun vs H Q E h => ?_) (fun cdv A outer s H vs Q E hr h => ?_), gf, F.kp, bf⟩
  · obtain ⟨r, rfl, _⟩ := h
    rfl
  · obtain ⟨Y, rfl, hl, q1, q2⟩ := h
    refine ⟨_, (pss_cons (ps_asg (pe_bm PySem.F.plainAttrs_str PySem.F.slot_str_split PySem.F.type_str_split mt_split (pv 0) (pa_cons pe_str pa_nil)) (pg_star1 rfl (pgs_cons (pg_name (i := 1) sc_read_row.nd rfl (.inl rfl)) (pgs_star (pg_name (i := 2) sc_read_row.nd rfl (.inl rfl)) pgs_nil))))
    (pss_cons (ps_if (pt_val (pe_callB (cr_any rfl) (by rfl) T.any (by decide +kernel) (pa_cons (pe_lc (own := [("part", 7)]) (g := gName 7) (tt := tYes) rfl sc_read_row.nd (pi_list (pe_bm PySem.F.plainAttrs_str PySem.F.slot_str_split PySem.F.type_str_split mt_split (pv 1) (pa_cons pe_str pa_nil))) (blkOk_by (N := ["line", "name", "pieces", "bits", "piece", "many", "bit", "part"]) (sc := defScope s_read_row) (own := [("part", 7)]) (by decide +kernel)) (fun _ _ _ _ _ => (pg_name (i := 7) sc_read_row.nd rfl (.inl rfl))) (fun _ _ _ _ _ => pts_nil) (fun _ _ _ _ _ => (pe_or (pe_cmpR op_eq (pv 7) pe_str (nomark _)) (pe_one (pe_not (pe_call G_is_word (hr.mono (by omega)) (by rfl) g_is_word k_is_word b_is_word .nil pass0 (pa_cons (pv 7) pa_nil))))))) pa_nil)))
      (pss_one (ps_raise rfl (takes_of rfl rfl rfl rfl) (pmk_ownA PySem.F.excBase_ValueError UB.xP UB.gC UB.kC (raises_own UB.bC UB.tC) rfl (pa_cons pe_str pa_nil))))
      pss_nil)
    (pss_cons (ps_set (i := 3) sc_read_row.nd rfl (.inl rfl) (pe_lst pa_nil))
    (pss_cons (ps_for (passes_of rfl) rfl (pi_list (pv 2)) (pg_name (i := 4) sc_read_row.nd rfl (.inl rfl))
      (pss_cons (ps_asg (pe_call G_read_piece (hr.mono (by omega)) (by rfl) g_read_piece k_read_piece b_read_piece .nil (passes_call (takes_of rfl rfl rfl rfl) fun _ _ _ _ h => h) (pa_cons (pv 4) pa_nil)) (pg_tup rfl (pgs_cons (pg_name (i := 5) sc_read_row.nd rfl (.inl rfl)) (pgs_cons (pg_name (i := 6) sc_read_row.nd rfl (.inl rfl)) pgs_nil))))
      (pss_cut (ps_if (PW.pt (pw_and (pt_cmpR op_gt (pe_callB call_len_seq (by rfl) T.len (by decide +kernel) (pa_cons (pv 3) pa_nil)) pe_int (nomark _)) (pw_and1 (pt_cmpR op_eq (pe_ix ix_list (pv 3) (pe_un un_neg pe_int) (fun _ _ => rfl)) (pv 6) (nomark _)))))
        (pss_one (ps_raise rfl (takes_of rfl rfl rfl rfl) (pmk_ownA PySem.F.excBase_ValueError UB.xP UB.gC UB.kC (raises_own UB.bC UB.tC) rfl (pa_cons pe_str pa_nil))))
        pss_nil)
      (pss_cons (ps_if (pt_cmpR op_gt (pe_op op_add (pe_callB call_len_seq (by rfl) T.len (by decide +kernel) (pa_cons (pv 3) pa_nil)) (pv 5)) (gInt rfl g_MOST_BITS) (nomark _))
        (pss_one (ps_raise rfl (takes_of rfl rfl rfl rfl) (pmk_ownA PySem.F.excBase_ValueError UB.xP UB.gC UB.kC (raises_own UB.bC UB.tC) rfl (pa_cons pe_str pa_nil))))
        pss_nil)
      (pss_one (ps_expr (pe_bm PySem.F.plainAttrs_list PySem.F.slot_list_extend PySem.F.type_list_extend mt_extend (pv 3) (pa_cons (pe_op op_rep (pe_lst (pa_cons (pv 6) pa_nil)) (pv 5)) pa_nil))))))))
    (pss_one (ps_ret (pe_tup (pa_cons (pv 1) (pa_cons (pe_callTy call_tuple_of (by rfl) T.tuple (by decide +kernel) (pa_cons (pv 3) pa_nil)) pa_nil))))))))), ?_⟩
    obtain ⟨x, xs, rfl, hf⟩ := split_ex 32 Y
    have sz1 : 1 ≤ sizeLine := by decide
    have hpl := part_len hl
    have hcnt := join_count [32] x xs
    have e32 : ([32] : List Nat).length = 1 := rfl
    rw [e32, Nat.mul_one] at hcnt
    refine ⟨_, rfl, rfl, _, _, rfl, rfl, by decide, sz_of (by rw [mk_len]; omega), ?_⟩
    rw [show Txt.split (mk (joinL [32] (x :: xs))) (" " : Str) = (x :: xs).map mk from split_mk k32 hf]
    intro wd nw
    have inv : ∀ n fs, IsRowK (joinL [32] (x :: xs)) n fs → x = n ∧ xs = fs.map pieceL := fun n fs h => row_words hf h
    have E1 : Ex H (upd H wd (.lst (((x :: xs).map mk).map V.str))) := Ex.new nw
    have hw : upd H wd (.lst (((x :: xs).map mk).map V.str)) wd = some (.lst (.str (mk x) :: strV xs)) := by rw [upd_same, List.map_cons, List.map_cons, List.map_map]; rfl
    generalize upd H wd (.lst (((x :: xs).map mk).map V.str)) = H1 at *
    refine ⟨wd, _, _, rfl, SqL.of hw, by unfold strV; rw [List.length_map]; omega, fun pd np => ?_⟩
    have E2 : Ex H (upd H1 pd (.lst (strV xs))) := E1.trans (Ex.new np)
    have hpd : upd H1 pd (.lst (strV xs)) pd = some (.lst (strV xs)) := upd_same
    generalize upd H1 pd (.lst (strV xs)) = H2 at *
    refine ⟨_, _, rfl, _, _, rfl, rfl, ?_⟩
    have lx := hpl x (by simp)
    obtain ⟨y, ys, hy, hyf⟩ := split_ex 47 x
    have es2 : Txt.split (mk x) ("/" : Str) = (y :: ys).map mk := by rw [hy]; exact split_mk k47 hyf
    have lx' := lx
    rw [hy] at lx'
    have hcnt2 := join_count [47] y ys
    have e47 : ([47] : List Nat).length = 1 := rfl
    rw [e47, Nat.mul_one] at hcnt2
    refine ⟨_, rfl, rfl, _, _, rfl, rfl, by decide, sz_of (by rw [mk_len]; omega), ?_⟩
    rw [es2]
    intro w2 nw2
    have E3 : Ex H (upd H2 w2 (.lst (((y :: ys).map mk).map V.str))) := E2.trans (Ex.new nw2)
    have hw2 : upd H2 w2 (.lst (((y :: ys).map mk).map V.str)) w2 = some (.lst (strV (y :: ys))) := by rw [upd_same, List.map_map]; rfl
    have hpd3 : upd H2 w2 (.lst (((y :: ys).map mk).map V.str)) pd = some (.lst (strV xs)) := (Ex.new nw2) _ _ hpd
    generalize upd H2 w2 (.lst (((y :: ys).map mk).map V.str)) = H3 at *
    refine ⟨w2, rfl, ⟨_, SqL.of hw2⟩, fun L nL => wk_list (K := K) (a := w2) (xs := strV (y :: ys)) (fun k H' => Ex H3 H' ∧ H' L = some (.lst ((((y :: ys).take k).map fun p => !isWord p).map V.bl))) ⟨Ex.new nL, upd_same⟩ (fun k H' _ g => SqL.of (g.1 _ _ hw2)) ?_ ?_⟩
    · rintro k z H4 hz ⟨E4, hL⟩
      unfold strV at hz
      rw [List.getElem?_map] at hz
      obtain ⟨T1, hT, rfl⟩ := Option.map_eq_some_iff.mp hz
      have hTl := joinL_part [47] y ys T1 (List.mem_of_getElem? hT)
      have hd : decide (V.str (mk T1) = V.str (mk [])) = decide (T1 = []) := decV_mk T1 []
      have hsz : ((((y :: ys).take k).map fun p => !isWord p).map V.bl).length < sizeLine := by
        rw [List.length_map, List.length_map, List.length_take, List.length_cons]; exact sz_lt (by omega)
      refine ⟨rfl, tYes_in ?_⟩
      simp only [wipe, _root_.L2.start, List.map_cons, List.map_nil, List.length_cons, List.length_nil, Nat.reduceAdd, Nat.reduceSub, List.replicate_succ, List.replicate_zero, List.cons_append, List.nil_append, List.set_cons_zero, List.set_cons_succ]
      by_cases hne : T1 = []
      · refine ⟨_, rfl, rfl, _, rfl, iteY (hd.trans (decide_eq_true hne)) ⟨_, hL, hsz, E4.mut nL, ?_⟩⟩
        rw [upd_same, take_snoc1 hT, List.map_append, List.map_append, hne]
        rfl
      · refine ⟨_, rfl, rfl, _, rfl, iteN (hd.trans (decide_eq_false hne)) ⟨_, rfl, T1, rfl, hne, by omega, fun H5 E5 => ⟨_, rfl, _, E5 _ _ hL, hsz, (E4.trans E5).mut nL, ?_⟩⟩⟩
        rw [upd_same, take_snoc1 hT, List.map_append, List.map_append]; rfl
    rintro H4 ⟨E4, hL⟩
    have e0 : (strV (y :: ys)).length = (y :: ys).length := by unfold strV; rw [List.length_map]
    rw [e0, List.take_length] at hL
    have E34 := E3.trans E4
    by_cases hall : ∀ p ∈ y :: ys, isWord p = true
    case neg =>
      refine ⟨L, _, rfl, SqL.of hL, _, rfl, iteY ?_ ⟨sz1, q2 (fun n fs h => hall ?_) _ E34⟩⟩
      · obtain ⟨p, hp⟩ := Classical.not_forall.mp hall
        obtain ⟨hp1, hp2⟩ := Classical.not_imp.mp hp
        rw [List.any_map, List.any_eq_true]
        exact ⟨p, hp1, by show (!isWord p) = true; rw [Bool.eq_false_iff.mpr hp2]; rfl⟩
      · have hg := h.2.1
        rw [← (inv n fs h).1, hy] at hg
        exact nameW_words hyf hg
    refine ⟨L, _, rfl, SqL.of hL, _, rfl, iteN ?_ ?_⟩
    · rw [List.any_map, List.any_eq_false]
      intro p hp
      show ¬ (!isWord p) = true
      rw [hall p hp]; decide
    refine ⟨Nat.zero_le _, fun bl nbl => ?_⟩
    have nbl0 : H bl = none := fresh_back E34 nbl
    have hpd5 : upd H4 bl (.lst []) pd = some (.lst (strV xs)) := (Ex.new nbl) _ _ (E4 _ _ hpd3)
    have nbl3 : H3 bl = none := fresh_back E4 nbl
    have bpd : bl ≠ pd := fun z => by rw [z, hpd3] at nbl3; cases nbl3
    refine ⟨_, rfl, pd, rfl, ⟨_, SqL.of hpd5⟩, for_list (K := K) (a := pd) (xs := strV xs)
      (fun k σ H' => Ex H H' ∧ H' pd = some (.lst (strV xs)) ∧ ∃ (fs : List (Nat × Bool)) (y4 y5 y6 : Option V), xs.take k = fs.map pieceL ∧ Apart fs ∧ (expB fs).length ≤ 100000 ∧ H' bl = some (.lst ((expB fs).map V.bl)) ∧ σ = [some (.str (mk (joinL [32] (x :: xs)))), some (.str (mk x)), some (.ref pd), some (.ref bl), y4, y5, y6, none])
      ⟨E34.mut nbl0, hpd5, [], _, _, _, rfl, trivial, Nat.zero_le _, upd_same, rfl⟩ (fun k σ H' _ g => SqL.of g.2.1) ?_ ?_⟩
    · rintro k z σ H5 hz ⟨E5, hpd6, fs, y4, y5, y6, htk, hap, hle, hbl, rfl⟩
      unfold strV at hz
      rw [List.getElem?_map] at hz
      obtain ⟨T1, hT, rfl⟩ := Option.map_eq_some_iff.mp hz
      have hTl := hpl T1 (List.mem_cons_of_mem _ (List.mem_of_getElem? hT))
      refine ⟨_, rfl, T1, rfl, by omega, fun p c H6 hp E6 hc => ⟨c, _, rfl, SqT.of hc, rfl, _, _, rfl, _, _, rfl, rfl, ?_⟩, fun hno H6 E6 => q2 (fun n fs0 h => by
        obtain ⟨p0, hp0, eT, _⟩ := row_at (inv n fs0 h).2 htk hT
        have hm := List.mem_of_getElem? hp0
        have h2 := (exp_len _ h.2.2.1).2 p0 hm
        exact hno p0 ⟨eT, apart_pos h.2.2.1 p0 hm, few_small (Nat.le_trans h2 h.2.2.2)⟩) _ (E5.trans E6)⟩
      have key : ∀ n fs0, IsRowK (joinL [32] (x :: xs)) n fs0 → Apart (fs ++ [p]) ∧ (expB (fs ++ [p])).length ≤ 100000 := fun n fs0 h => by
        obtain ⟨p0, hp0, eT, et⟩ := row_at (inv n fs0 h).2 htk hT
        have : p = p0 := pieceL_inj (by rw [← hp.1, eT])
        subst this
        rw [← et]
        exact ⟨apart_take h.2.2.1 _, Nat.le_trans (exp_take _ _) h.2.2.2⟩
      have hbl6 := E6 _ _ hbl
      have hpd7 := E6 _ _ hpd6
      have hp1 := hp.2.1
      have elen : (expB (fs ++ [p])).length = (expB fs).length + p.1 := by rw [expB_snoc, List.length_append, List.length_replicate]
      refine ⟨fun σ H' => (Apart (fs ++ [p])) ∧ H' = H6 ∧ σ = [some (.str (mk (joinL [32] (x :: xs)))), some (.str (mk x)), some (.ref pd), some (.ref bl), some (.str (mk T1)), some (.int (p.1 : Nat)), some (.bl p.2), none], ?_, ?_⟩
      · rcases snoc_cases fs with rfl | ⟨gs, ⟨n, d⟩, rfl⟩
        · refine ⟨_, rfl, bl, _, rfl, .inl (SqL.of hbl6), _, _, rfl, rfl, _, rfl, iteN (by decide) ⟨hp1, rfl, rfl⟩⟩
        · have hn1 := apart_pos hap (n, d) (by simp)
          have hn1 : 1 ≤ n := hn1
          have ex : (expB (gs ++ [(n, d)])).map V.bl = (expB gs ++ List.replicate (n - 1) d).map V.bl ++ [.bl d] := by
            rw [expB_snoc, ← List.map_singleton, ← List.map_append, List.append_assoc]
            congr 2
            show List.replicate n d = List.replicate (n - 1) d ++ [d]
            rw [← List.replicate_succ', show n - 1 + 1 = n by omega]
          rw [ex] at hbl6
          by_cases hdp : d = p.2
          · refine ⟨_, rfl, bl, _, rfl, .inl (SqL.of hbl6), _, _, rfl, rfl, _, rfl, iteY (by rw [List.length_append, List.length_singleton]; exact decide_eq_true (by omega)) ⟨_, rfl, _, rfl, _, _, _, _, rfl, rfl, SqL.of hbl6, atI_last _ _, _, rfl, rfl, _, rfl, iteY (by rw [bl_eq]; exact decide_eq_true hdp) ⟨sz1, q2 (fun n0 fs0 h => (apart_last (key n0 fs0 h).1).1 hdp) _ (E5.trans E6)⟩⟩⟩
          · refine ⟨_, rfl, bl, _, rfl, .inl (SqL.of hbl6), _, _, rfl, rfl, _, rfl, iteY (by rw [List.length_append, List.length_singleton]; exact decide_eq_true (by omega)) ⟨_, rfl, _, rfl, _, _, _, _, rfl, rfl, SqL.of hbl6, atI_last _ _, _, rfl, rfl, _, rfl, iteN (by rw [bl_eq]; exact decide_eq_false hdp) ⟨apart_snoc hap hdp hp1, rfl, rfl⟩⟩⟩
      rintro σ H7 ⟨hap2, rfl, rfl⟩
      by_cases hbig : (expB fs).length + p.1 ≤ 100000
      case neg =>
        exact ⟨_, rfl, bl, _, rfl, .inl (SqL.of hbl6), _, rfl, _, _, rfl, rfl, _, _, rfl, rfl, _, rfl, iteY (by rw [List.length_map]; exact decide_eq_true (by omega)) ⟨sz1, q2 (fun n0 fs0 h => hbig (by rw [← elen]; exact (key n0 fs0 h).2)) _ (E5.trans E6)⟩⟩
      refine ⟨_, rfl, bl, _, rfl, .inl (SqL.of hbl6), _, rfl, _, _, rfl, rfl, _, _, rfl, rfl, _, rfl, iteN (by rw [List.length_map]; exact decide_eq_false (by omega)) ?_⟩
      refine ⟨_, rfl, .inl ⟨rfl, _, SqL.of hbl6⟩, _, rfl, (by show 1 ≤ sizeLine; decide), fun l1 n1 => ?_⟩
      have E8 : Ex H7 (upd H7 l1 (.lst [.bl p.2])) := Ex.new n1
      have h8 : upd H7 l1 (.lst [.bl p.2]) l1 = some (.lst [.bl p.2]) := upd_same
      generalize upd H7 l1 (.lst [.bl p.2]) = H8 at *
      refine ⟨_, rfl, l1, (p.1 : Nat), _, rfl, rfl, h8, by omega, by omega, sz_of (by rw [List.length_singleton, Int.toNat_natCast]; omega), fun l2 n2 => ?_⟩
      have erep : (List.replicate ((p.1 : Nat) : Int).toNat [V.bl p.2]).flatten = (List.replicate p.1 p.2).map V.bl := by
        rw [Int.toNat_natCast, List.map_replicate]
        generalize p.1 = m
        induction m with
        | zero => rfl
        | succ m ih => rw [List.replicate_succ, List.replicate_succ, List.flatten_cons, ih]; rfl
      rw [erep]
      have E9 : Ex H8 (upd H8 l2 (.lst ((List.replicate p.1 p.2).map V.bl))) := Ex.new n2
      have h9 : upd H8 l2 (.lst ((List.replicate p.1 p.2).map V.bl)) l2 = some (.lst ((List.replicate p.1 p.2).map V.bl)) := upd_same
      generalize upd H8 l2 (.lst ((List.replicate p.1 p.2).map V.bl)) = H9 at *
      have E79 := E8.trans E9
      refine ⟨bl, l2, _, _, rfl, rfl, E79 _ _ hbl6, h9, sz_of (by rw [List.length_map, List.length_map, List.length_replicate]; omega), (E5.trans (E6.trans E79)).mut nbl0, ?_, fs ++ [p], _, _, _, ?_, hap2, by rw [elen]; exact hbig, ?_, rfl⟩
      · rw [upd_ne bpd.symm]; exact E79 _ _ hpd7
      · rw [take_snoc1 hT, htk, List.map_append, hp.1]; rfl
      · rw [upd_same, expB_snoc, List.map_append]
    · rintro σ H5 ⟨E5, hpd6, fs, y4, y5, y6, htk, hap, hle, hbl, rfl⟩
      have e0 : (strV xs).length = xs.length := by unfold strV; rw [List.length_map]
      rw [e0, List.take_length] at htk
      refine ⟨_, rfl, _, rfl, _, _, rfl, .inl ⟨SqL.of hbl, fun t nt => ⟨(by show 2 ≤ sizeLine; decide), fun c nc => ?_⟩⟩⟩
      have E6 : Ex H5 (upd H5 t (.tup ((expB fs).map V.bl))) := Ex.new nt
      exact q1 x fs c _ ⟨by rw [htk], by rw [hy]; exact ⟨y, ys, rfl, hall⟩, hap, hle⟩ ((E5.trans E6).trans (Ex.new nc)) ⟨t, upd_same, (Ex.new nc) _ _ upd_same⟩
end
end G
namespace G
open PySem PySem.Spec PyProof.Rows L2 Evl TL
/-! ## texts of lines -/
def textOf (ls : List (List Nat)) : List Nat := (ls.map (· ++ [10])).flatten
theorem textOf_cons (x : List Nat) (xs : List (List Nat)) : textOf (x :: xs) = joinL [10] (x :: xs) ++ [10] := joinL_end [10] x xs
theorem lines_uniq {Y : List Nat} {ls ks : List (List Nat)} (h : IsLines Y ls) (g : IsLines Y ks) : ls = ks := by
  rcases h with ⟨x, xs, rfl, e, hx⟩ | ⟨rfl, hn⟩
  · rcases g with ⟨y, ys, rfl, e2, hy⟩ | ⟨_, hn⟩
    · rw [e] at e2
      exact join_inj k10 hx hy (List.append_inj' e2 rfl).1
    · exact absurd e (hn _)
  · rcases g with ⟨y, ys, _, e2, _⟩ | ⟨rfl, _⟩
    · exact absurd e2 (hn _)
    · rfl
theorem lines_textOf {ls : List (List Nat)} (hne : ls ≠ []) (hf : ∀ l ∈ ls, 10 ∉ l) : IsLines (textOf ls) ls := by
  obtain ⟨x, xs, rfl⟩ := List.exists_cons_of_ne_nil hne
  exact .inl ⟨x, xs, rfl, textOf_cons x xs, hf⟩
theorem textOf_len : ∀ (ls : List (List Nat)) (m : Nat), (∀ l ∈ ls, l.length ≤ m) → (textOf ls).length ≤ ls.length * (m + 1)
  | [], _, _ => Nat.zero_le _
  | x :: ls, m, h => by
    have h1 := h x List.mem_cons_self
    have h2 := textOf_len ls m fun l hl => h l (List.mem_cons_of_mem _ hl)
    have e : (x :: ls).length * (m + 1) = ls.length * (m + 1) + (m + 1) := by rw [List.length_cons, Nat.succ_mul]
    have e2 : ([10] : List Nat).length = 1 := rfl
    unfold textOf at *
    rw [List.map_cons, List.flatten_cons, List.length_append, List.length_append, e, e2]
    omega
theorem textOf_app (a b : List (List Nat)) : textOf (a ++ b) = textOf a ++ textOf b := by unfold textOf; rw [List.map_append, List.flatten_append]
theorem textOf_mem {l : List Nat} : ∀ {ls : List (List Nat)}, l ∈ ls → l.length ≤ (textOf ls).length
  | x :: ls, h => by
    have e : textOf (x :: ls) = (x ++ [10]) ++ textOf ls := rfl
    rw [e, List.length_append, List.length_append]
    rcases List.mem_cons.mp h with z | z
    · rw [z]; omega
    · have := textOf_mem z; omega
theorem textOf_few : ∀ ls : List (List Nat), ls.length ≤ (textOf ls).length
  | [] => Nat.zero_le _
  | x :: ls => by
    have := textOf_few ls
    have e : textOf (x :: ls) = (x ++ [10]) ++ textOf ls := rfl
    have e2 : ([10] : List Nat).length = 1 := rfl
    rw [e, List.length_append, List.length_append, List.length_cons, e2]; omega
theorem textOf_sum : ∀ ls : List (List Nat), (((ls.map (· ++ [10])).map mk).map fun x => x.length).sum = (textOf ls).length
  | [] => rfl
  | x :: ls => by
    have e : textOf (x :: ls) = (x ++ [10]) ++ textOf ls := rfl
    rw [e, List.length_append, List.map_cons, List.map_cons, List.map_cons, List.sum_cons, textOf_sum ls, mk_len]
/-- a row's line from its pieces -/
def rowF (x : List Nat × List (Nat × Bool)) : List Nat := joinL [32] (x.1 :: x.2.map pieceL)
def RowV (size : Int) (x : List Nat × List (Nat × Bool)) : Prop := NameW x.1 ∧ Apart x.2 ∧ (expB x.2).length ≤ 100000 ∧ ((expB x.2).length : Int) = size
/-- Y is the text of a record -/
def IsRecK (Y : List Nat) (low high : Int) (rws : List (List Nat × List (Nat × Bool))) : Prop := Y = textOf (headL low high :: rws.map rowF) ∧ Few low ∧ Few high ∧ low ≤ high ∧ ∀ x ∈ rws, RowV (high - low + 1) x
theorem free_join {s : Nat} {x : List Nat} {xs : List (List Nat)} (h : ∀ p ∈ x :: xs, s ∉ p) (h2 : s ≠ 32) : s ∉ joinL [32] (x :: xs) := fun hm => by
  rcases joinL_mem _ _ _ _ hm with ⟨p, hp, hc⟩ | z
  · exact h p hp hc
  · exact h2 (List.mem_singleton.mp z)
theorem rowF_free {n : List Nat} {fs : List (Nat × Bool)} (h : NameW n) {s : Nat} (hs : s = 32 ∨ s = 10) : ∀ p ∈ n :: fs.map pieceL, s ∉ p := fun p hp => by
  rcases List.mem_cons.mp hp with z | z
  · rw [z]; rcases hs with q | q <;> rw [q]
    · exact nameW_free h run_signs.2.1 (by decide)
    · exact nameW_free h run_signs.2.2 (by decide)
  · obtain ⟨q, _, rfl⟩ := List.mem_map.mp z
    rcases hs with q | q <;> rw [q] <;> exact piece_free (by decide) (by decide)
theorem rec_lines {Y : List Nat} {low high : Int} {rws : List (List Nat × List (Nat × Bool))} {ls : List (List Nat)} (hl : IsLines Y ls) (h : IsRecK Y low high rws) : ls = headL low high :: rws.map rowF := by
  refine lines_uniq hl ?_
  rw [h.1]
  refine lines_textOf (by simp) fun l hl => ?_
  rcases List.mem_cons.mp hl with z | z
  · rw [z]; exact head_free
  · obtain ⟨x, hx, rfl⟩ := List.mem_map.mp z
    exact free_join (rowF_free (h.2.2.2.2 x hx).1 (.inr rfl)) (by decide)
theorem isHead_inj {Y : List Nat} {a b c d : Int} (h : IsHeadK Y a b) (g : IsHeadK Y c d) : a = c ∧ b = d := by
  have hf : ∀ p ∈ [tl ("from" : Str), intL a, tl ("to" : Str), intL b], 32 ∉ p := fun p hp => by
    simp only [List.mem_cons, List.not_mem_nil, or_false] at hp
    rcases hp with z | z | z | z <;> rw [z]
    · decide +kernel
    · exact intL_free (by decide)
    · decide +kernel
    · exact intL_free (by decide)
  have e := head_words (y := tl ("from" : Str)) (ys := [intL a, tl ("to" : Str), intL b]) hf (low := c) (high := d) ⟨h.1.symm.trans g.1, g.2⟩
  injection e with _ e
  injection e with e2 e
  injection e with _ e
  injection e with e4 _
  have p := int_back h.2.1
  have q := int_back g.2.1
  rw [e2, q] at p
  injection p with p
  have r := int_back h.2.2.1
  have s := int_back g.2.2.1
  rw [e4, s] at r
  injection r with r
  exact ⟨p.symm, r.symm⟩
theorem rowF_inj {x y : List Nat × List (Nat × Bool)} (hx : NameW x.1) (hy : NameW y.1) (e : rowF x = rowF y) : x = y := by
  have e : x.1 :: x.2.map pieceL = y.1 :: y.2.map pieceL := join_inj k32 (rowF_free hx (.inl rfl)) (rowF_free hy (.inl rfl)) e
  injection e with e1 e2
  exact Prod.ext e1 (pieces_inj e2)
theorem rowsF_inj : ∀ {a b : List (List Nat × List (Nat × Bool))}, (∀ x ∈ a, NameW x.1) → (∀ x ∈ b, NameW x.1) → a.map rowF = b.map rowF → a = b
  | [], [], _, _, _ => rfl
  | [], _ :: _, _, _, h => by cases h
  | _ :: _, [], _, _, h => by cases h
  | x :: a, y :: b, ha, hb, h => by
    rw [List.map_cons, List.map_cons] at h
    injection h with h1 h2
    rw [rowF_inj (ha x List.mem_cons_self) (hb y List.mem_cons_self) h1, rowsF_inj (fun z hz => ha z (List.mem_cons_of_mem _ hz)) (fun z hz => hb z (List.mem_cons_of_mem _ hz)) h2]
/-- at a: the record -/
def RecKAt (H : Hp) (a : Addr) (low high : Int) (rws : List (List Nat × List (Nat × Bool))) : Prop := ∃ (rt : Addr) (ra : List Addr), H a = some (.tup [.int low, .int high, .ref rt]) ∧ H rt = some (.tup (ra.map V.ref)) ∧ All2 (fun a x => RowAt H a (x.1, expB x.2)) ra rws
section
variable {P : Program} {w : World} {K : PySem.W.Frag} {mg : Str → Option Value} {base : Heap}
def spRecK (B : Addr) : Sp := fun vs H Q E => ∃ Y : List Nat, vs = [.str (mk Y)] ∧ Y.length ≤ 15000 ∧ (∀ (low high : Int) (rws : List (List Nat × List (Nat × Bool))) (a : Addr) (H' : Hp), IsRecK Y low high rws → Ex H H' → RecKAt H' a low high rws → Q (.ref a) H') ∧ ((∀ low high rws, ¬ IsRecK Y low high rws) → ∀ H', Ex H H' → E (.ref B) none H')
theorem sc_read_record : FnScope ["text", "lines", "low", "high", "rows", "_", "bits", "line"] ["text"] (defScope s_read_record) := ⟨rfl, rfl, rfl, by decide +kernel, rfl, by decide +kernel, by decide +kernel⟩
theorem ok_read_recordK {B : Addr} (D : Dfd K mg "read_record" s_read_record ["text"]) (UB : ExcT K mg "BadRecord" B) (T : TxtR1 mg) (C1 : Has P w K mg base 1 "lines_of" ["text"] spLinesG) (C2 : HasX P w K mg base 2 "_read_head" ["line"] (spHeadK B)) (C3 : HasX P w K mg base 3 "_read_row" ["line"] (spRowK B)) : HasX P w K mg base 4 "read_record" ["text"] (spRecK B) := by
  obtain ⟨f_lines_of, d_lines_of, G_lines_of, g_lines_of, k_lines_of, b_lines_of⟩ := C1
  obtain ⟨f_read_head, d_read_head, G_read_head, g_read_head, k_read_head, b_read_head⟩ := C2
  obtain ⟨f_read_row, d_read_row, G_read_row, g_read_row, k_read_row, b_read_row⟩ := C3
  obtain ⟨f, fd, F, gf, bf⟩ := D
  refine ⟨f, fd, F.okX sc_read_record (fun vs H Q E h => ?_) (fun cdv A outer s H vs Q E hr h => ?_), gf, F.kp, bf⟩
  · obtain ⟨r, rfl, _⟩ := h
    rfl
  · obtain ⟨Y, rfl, hl, q1, q2⟩ := h
    refine ⟨_, (pss_cons (ps_set (i := 1) sc_read_record.nd rfl (.inl rfl) (pe_call G_lines_of (hr.mono (by omega)) (by rfl) g_lines_of k_lines_of b_lines_of .nil pass0 (pa_cons (pv 0) pa_nil)))
    (pss_cons (ps_if (pt_cmpR op_eq (pe_callB call_len_seq (by rfl) T.len (by decide +kernel) (pa_cons (pv 1) pa_nil)) pe_int (nomark _))
      (pss_one (ps_raise rfl (takes_of rfl rfl rfl rfl) (pmk_ownA PySem.F.excBase_ValueError UB.xP UB.gC UB.kC (raises_own UB.bC UB.tC) rfl (pa_cons pe_str pa_nil))))
      pss_nil)
    (pss_cons (ps_asg (pe_call G_read_head (hr.mono (by omega)) (by rfl) g_read_head k_read_head b_read_head .nil (passes_call (takes_of rfl rfl rfl rfl) fun _ _ _ _ h => h) (pa_cons (pe_ix ix_list (pv 1) pe_int (fun _ _ => rfl)) pa_nil)) (pg_tup rfl (pgs_cons (pg_name (i := 2) sc_read_record.nd rfl (.inl rfl)) (pgs_cons (pg_name (i := 3) sc_read_record.nd rfl (.inl rfl)) pgs_nil))))
    (pss_cons (ps_set (i := 4) sc_read_record.nd rfl (.inl rfl) (pe_callTy call_tuple_of (by rfl) T.tuple (by decide +kernel) (pa_cons (LX.pe_lcX (own := [("line", 7)]) (g := gName 7) (tt := tYes) rfl sc_read_record.nd (pi_list (pe_slice sl_list (pv 1) (po_some pe_int) po_none)) (blkOk_by (N := ["text", "lines", "low", "high", "rows", "_", "bits", "line"]) (sc := defScope s_read_record) (own := [("line", 7)]) (by decide +kernel)) (takes_of rfl rfl rfl rfl) rfl rfl (fun _ _ _ _ _ => (pg_name (i := 7) sc_read_record.nd rfl (.inl rfl))) (fun _ _ _ _ _ => pts_nil) (fun _ _ _ _ _ => (pe_call G_read_row (hr.mono (by omega)) (by rfl) g_read_row k_read_row b_read_row .nil LX.passB (pa_cons (pv 7) pa_nil)))) pa_nil)))
    (pss_cons (ps_for (passes_of rfl) rfl (pi_tup (pv 4)) (pg_tup rfl (pgs_cons (pg_name (i := 5) sc_read_record.nd rfl (.inl rfl)) (pgs_cons (pg_name (i := 6) sc_read_record.nd rfl (.inl rfl)) pgs_nil)))
      (pss_one (ps_if (pt_cmpR op_ne (pe_callB call_len_seq (by rfl) T.len (by decide +kernel) (pa_cons (pv 6) pa_nil)) (pe_op op_add (pe_op op_sub (pv 3) (pv 2)) pe_int) (nomark _))
        (pss_one (ps_raise rfl (takes_of rfl rfl rfl rfl) (pmk_ownA PySem.F.excBase_ValueError UB.xP UB.gC UB.kC (raises_own UB.bC UB.tC) rfl (pa_cons pe_str pa_nil))))
        pss_nil)))
    (pss_one (ps_ret (pe_tup (pa_cons (pv 2) (pa_cons (pv 3) (pa_cons (pv 4) pa_nil))))))))))), ?_⟩
    have sz1 : 1 ≤ sizeLine := by decide
    refine ⟨_, rfl, Y, rfl, by omega, fun L H1 ls E1 hL hls => ?_⟩
    have key : ∀ lo hi rws, IsRecK Y lo hi rws → ls = headL lo hi :: rws.map rowF := fun lo hi rws h => rec_lines hls h
    have sl : ∀ ls : List (List Nat), (strV ls).length = ls.length := fun ls => by unfold strV; rw [List.length_map]
    cases ls with
    | nil =>
      exact ⟨_, rfl, L, _, rfl, .inl (SqL.of hL), rfl, _, rfl, iteY rfl ⟨sz1, q2 (fun lo hi rws h => by cases key lo hi rws h) _ E1⟩⟩
    | cons l0 mid =>
    obtain ⟨eY, hpl, hcnt⟩ : Y = joinL [10] (l0 :: mid) ++ [10] ∧ (∀ p ∈ l0 :: mid, p.length ≤ 15000) ∧ mid.length ≤ 15000 := by
      rcases hls with ⟨x, xs, e, eY, _⟩ | ⟨e, _⟩
      · injection e with e1 e2
        subst e1 e2
        rw [eY, List.length_append] at hl
        have h1 := join_count [10] l0 mid
        have e1 : ([10] : List Nat).length = 1 := rfl
        rw [e1] at h1 hl
        exact ⟨eY, part_len (s := 10) (by omega), by omega⟩
      · cases e
    have inv : ∀ lo hi rws, IsRecK Y lo hi rws → l0 = headL lo hi ∧ mid = rws.map rowF := fun lo hi rws h => by
      have e := key lo hi rws h
      injection e with e1 e2
      exact ⟨e1, e2⟩
    have hL : H1 L = some (.lst (.str (mk l0) :: strV mid)) := hL
    refine ⟨_, rfl, L, _, rfl, .inl (SqL.of hL), rfl, _, rfl, iteN ?_ ?_⟩
    · rw [List.length_cons]
      exact decide_eq_false fun z => by have := V.int.inj z; omega
    have l0l := hpl l0 (by simp)
    refine ⟨_, rfl, _, _, _, _, rfl, rfl, SqL.of hL, atI_nat (j := 0) rfl, l0, rfl, by omega, fun low high t H2 hh E2 ht => ⟨t, _, rfl, SqT.of ht, rfl, _, _, rfl, _, _, rfl, rfl, ?_⟩, fun hn H2 E2 => q2 (fun lo hi rws h => hn lo hi ⟨(inv lo hi rws h).1, h.2.1, h.2.2.1, h.2.2.2.1⟩) _ (E1.trans E2)⟩
    have hL2 := E2 _ _ hL
    refine ⟨_, rfl, _, rfl, L, _, rfl, SqL.of hL2, fun c nc => ?_⟩
    have ec : cutV (V.str (mk l0) :: strV mid) (some 1) none = strV mid := by
      have : cutV (V.str (mk l0) :: strV mid) (some ((1 : Nat) : Int)) none = _ := cutV_tail (Nat.succ_le_succ (Nat.zero_le _))
      rw [show (1 : Int) = ((1 : Nat) : Int) from rfl, this]; rfl
    rw [ec]
    have E3 : Ex H (upd H2 c (.lst (strV mid))) := (E1.trans E2).trans (Ex.new nc)
    have hc3 : upd H2 c (.lst (strV mid)) c = some (.lst (strV mid)) := upd_same
    generalize upd H2 c (.lst (strV mid)) = H3 at *
    refine ⟨c, rfl, ⟨_, SqL.of hc3⟩, fun R nR => wk_list (K := K) (a := c) (xs := strV mid) (fun k H' => Ex H3 H' ∧ ∃ (ra : List Addr) (rws : List (List Nat × List (Nat × Bool))), H' R = some (.lst (ra.map V.ref)) ∧ All2 (fun a x => RowAt H' a (x.1, expB x.2)) ra rws ∧ rws.map rowF = mid.take k ∧ ∀ x ∈ rws, NameW x.1 ∧ Apart x.2 ∧ (expB x.2).length ≤ 100000) ⟨Ex.new nR, [], [], upd_same, .nil, rfl, fun _ h => nomatch h⟩ (fun k H' _ g => SqL.of (g.1 _ _ hc3)) ?_ ?_⟩
    · rintro k y H4 hy ⟨E4, ra, rws, hR, hA, hrl, hrok⟩
      unfold strV at hy
      rw [List.getElem?_map] at hy
      obtain ⟨l, hlk, rfl⟩ := Option.map_eq_some_iff.mp hy
      have hlm := List.mem_of_getElem? hlk
      have hk := (List.getElem?_eq_some_iff.mp hlk).1
      have hrlen : rws.length = k := by have := congrArg List.length hrl; rw [List.length_map, List.length_take] at this; omega
      refine ⟨rfl, tYes_in ?_⟩
      simp only [wipe, _root_.L2.start, List.map_cons, List.map_nil, List.length_cons, List.length_nil, Nat.reduceAdd, Nat.reduceSub, List.replicate_succ, List.replicate_zero, List.cons_append, List.nil_append, List.set_cons_zero, List.set_cons_succ]
      refine ⟨_, rfl, l, rfl, hpl l (by simp [hlm]), fun n fs a H5 hx E5 ha => ?_, fun hn H5 E5 => q2 (fun lo hi rws' h => ?_) _ (E3.trans (E4.trans E5))⟩
      · have hR5 := E5 _ _ hR
        refine ⟨_, hR5, sz_lt (by rw [List.length_map, hA.1]; omega), (E4.trans E5).mut nR, ra ++ [a], rws ++ [(n, fs)], by rw [upd_same, List.map_append]; rfl, (hA.imp fun _ _ z => (z.ex E5).put hR5).snoc (ha.put hR5), ?_, fun z hz => ?_⟩
        · rw [List.map_append, hrl, take_snoc1 hlk, hx.1]; rfl
        · rcases List.mem_append.mp hz with q | q
          · exact hrok z q
          · rw [List.mem_singleton.mp q]; exact hx.2
      · rw [(inv lo hi rws' h).2] at hlm
        obtain ⟨x, hx, e⟩ := List.mem_map.mp hlm
        obtain ⟨v1, v2, v3, _⟩ := h.2.2.2.2 x hx
        exact hn x.1 x.2 ⟨e.symm, v1, v2, v3⟩
    rintro H4 ⟨E4, ra, rws, hR, hA, hrl, hrok⟩
    rw [sl, List.take_length] at hrl
    have same : ∀ lo hi rws', IsRecK Y lo hi rws' → lo = low ∧ hi = high ∧ rws' = rws := fun lo hi rws' h => by
      obtain ⟨e1, e2⟩ := inv lo hi rws' h
      obtain ⟨a, b⟩ := isHead_inj (Y := l0) ⟨e1, h.2.1, h.2.2.1, h.2.2.2.1⟩ hh
      exact ⟨a, b, rowsF_inj (fun x hx => (h.2.2.2.2 x hx).1) (fun x hx => (hrok x hx).1) (by rw [← e2, hrl])⟩
    refine ⟨R, _, rfl, .inl ⟨SqL.of hR, fun rt nrt => ?_⟩⟩
    have E5 : Ex H4 (upd H4 rt (.tup (ra.map V.ref))) := Ex.new nrt
    have hrt : upd H4 rt (.tup (ra.map V.ref)) rt = some (.tup (ra.map V.ref)) := upd_same
    generalize upd H4 rt (.tup (ra.map V.ref)) = H5 at *
    have hA5 := hA.imp fun _ _ z => z.ex E5
    have E05 := E3.trans (E4.trans E5)
    refine ⟨_, rfl, rt, rfl, ⟨_, SqT.of hrt⟩, for_tup (K := K) (a := rt) (xs := ra.map V.ref)
      (fun k σ H' => H' = H5 ∧ (∀ x ∈ rws.take k, ((expB x.2).length : Int) = high - low + 1) ∧ ∃ y5 y6 : Option V, σ = [some (.str (mk Y)), some (.ref L), some (.int low), some (.int high), some (.ref rt), y5, y6, none]) ⟨rfl, fun _ h => (by simp at h), _, _, rfl⟩ (fun k σ H' _ g => by rw [g.1]; exact SqT.of hrt) ?_ ?_⟩
    · rintro k z σ H6 hz ⟨rfl, hlen, y5, y6, rfl⟩
      obtain ⟨a, ha, rfl⟩ := refs_get hz
      obtain ⟨row, hrow, bt, ha1, hbt⟩ := hA5.at_ ha
      refine ⟨a, _, rfl, SqT.of ha1, rfl, _, _, rfl, _, _, rfl, rfl, ?_⟩
      have ed : (!decide (V.int (((expB row.2).map V.bl).length : Int) = V.int (high - low + 1))) = !decide (((expB row.2).length : Int) = high - low + 1) := by
        rw [List.length_map]; congr 1
        rw [Bool.eq_iff_iff, decide_eq_true_iff, decide_eq_true_iff]
        exact ⟨fun z => V.int.inj z, fun z => by rw [z]⟩
      by_cases hs : ((expB row.2).length : Int) = high - low + 1
      · refine ⟨_, rfl, bt, _, rfl, .inr (SqT.of hbt), _, rfl, _, rfl, _, _, rfl, rfl, _, _, rfl, rfl, rfl, _, rfl, iteN ?_ ⟨rfl, fun x hx => ?_, _, _, rfl⟩⟩
        · exact ed.trans (by rw [decide_eq_true hs]; rfl)
        · rw [take_snoc1 hrow] at hx
          rcases List.mem_append.mp hx with q | q
          · exact hlen x q
          · rw [List.mem_singleton.mp q]; exact hs
      · refine ⟨_, rfl, bt, _, rfl, .inr (SqT.of hbt), _, rfl, _, rfl, _, _, rfl, rfl, _, _, rfl, rfl, rfl, _, rfl, iteY ?_ ⟨sz1, q2 (fun lo hi rws' h => hs ?_) _ E05⟩⟩
        · exact ed.trans (by rw [decide_eq_false hs]; rfl)
        · obtain ⟨a1, a2, a3⟩ := same lo hi rws' h
          have := (h.2.2.2.2 row (by rw [a3]; exact List.mem_of_getElem? hrow)).2.2.2
          rw [a1, a2] at this
          exact this
    · rintro σ H6 ⟨rfl, hlen, y5, y6, rfl⟩
      rw [List.length_map, hA5.1, List.take_length] at hlen
      refine ⟨_, rfl, _, rfl, _, rfl, (by show 3 ≤ sizeLine; decide), fun a na => ?_⟩
      have E7 : Ex H6 (upd H6 a (.tup [.int low, .int high, .ref rt])) := Ex.new na
      refine q1 low high rws a _ ⟨?_, hh.2.1, hh.2.2.1, hh.2.2.2, fun x hx => ?_⟩ (E05.trans E7) ⟨rt, ra, upd_same, E7 _ _ hrt, hA5.imp fun _ _ z => z.ex E7⟩
      · rw [eY, hrl, textOf_cons, hh.1]
      · obtain ⟨v1, v2, v3⟩ := hrok x hx
        exact ⟨v1, v2, v3, hlen x hx⟩
end
end G
namespace G
open PySem PySem.Spec PyProof.Rows L2 Evl TL
theorem RowAt.te {H H' : Hp} {a : Addr} {r : List Nat × List Bool} (h : RowAt H a r) (t : TupEx H H') : RowAt H' a r := by
  obtain ⟨bt, h1, h2⟩ := h
  exact ⟨bt, t _ _ h1, t _ _ h2⟩
theorem eqv_nilB (l : List Bool) : PyData.eqv (.list (l.map PyData.bool)) (.list []) = decide (l = []) := by
  cases l <;> simp [PyData.eqv, PyData.eqvAll]
theorem shaped_blsL (l : List Bool) : SeqAt.shaped (.list (l.map PyData.bool)) = true := by
  have : PyData.canLayAll0 (l.map PyData.bool) = true ∧ PyData.depthAll (l.map PyData.bool) = 0 := by
    induction l with
    | nil => exact ⟨rfl, rfl⟩
    | cons b bs h => exact ⟨by simp [PyData.canLayAll0, PyData.canLay0, h.1], by simp [PyData.depthAll, PyData.depth, h.2]⟩
  simp [SeqAt.shaped, PyData.canLay0, PyData.depth, this.1, this.2]
theorem dp_blsL {K : PySem.W.Frag} {H : Hp} {a : Addr} {l : List Bool} (h : H a = some (.lst (l.map V.bl))) : Dp K H (.ref a) (.list (l.map PyData.bool)) := .lst (SqL.of h) (dpAll_map (fun x => .bl x) l)
def partsL : List Str := ["reg", "cell", "out", "from", "to"]
theorem parts_word : ∀ k ∈ partsL, isWord (tl k) = true ∧ (tl k).length ≤ 20 := by decide +kernel
section
variable {P : Program} {w : World} {K : PySem.W.Frag} {mg : Str → Option Value} {base : Heap}
def spPart : Sp := fun vs H Q _ => ∃ (p a : Addr), vs = [.ref p] ∧ PoolOk p a H ∧ ∀ (T : List Nat) (H' : Hp), isWord T = true → T.length ≤ 20 → Px p a H H' → Q (.str (mk T)) H'
theorem sc_law_part : FnScope ["pool"] ["pool"] (defScope s_law_part) := ⟨rfl, rfl, rfl, by decide +kernel, rfl, by decide +kernel, by decide +kernel⟩
theorem ok_law_part (D : Dfd K mg "_law_part" s_law_part ["pool"]) (C1 : Has P w K mg base 2 "_law_draw" ["pool", "many"] spDrawX) (C2 : Has P w K mg base 3 "_law_word" ["pool"] spWord) : Has P w K mg base 4 "_law_part" ["pool"] spPart := by
  obtain ⟨f_law_draw, d_law_draw, G_law_draw, g_law_draw, k_law_draw, b_law_draw⟩ := C1
  obtain ⟨f_law_word, d_law_word, G_law_word, g_law_word, k_law_word, b_law_word⟩ := C2
  refine D.has fun f fd F => F.ok sc_law_part (fun vs H Q E h => ?_) (fun cdv A outer s H vs Q E hr h => ?_)
  · obtain ⟨_, _, rfl, _⟩ := h
    rfl
  · obtain ⟨p, a, rfl, hp, q⟩ := h
    refine ⟨_, (pss_cons (ps_if (pt_cmpR op_eq (pe_call G_law_draw (hr.mono (by omega)) (by rfl) g_law_draw k_law_draw b_law_draw .nil pass0 (pa_cons (pv 0) (pa_cons pe_int pa_nil))) pe_int (nomark _))
      (pss_one (ps_ret (pe_ix ix_list (pe_lst (pa_cons pe_str (pa_cons pe_str (pa_cons pe_str (pa_cons pe_str (pa_cons pe_str pa_nil)))))) (pe_call G_law_draw (hr.mono (by omega)) (by rfl) g_law_draw k_law_draw b_law_draw .nil pass0 (pa_cons (pv 0) (pa_cons pe_int pa_nil))) (fun _ _ => rfl))))
      pss_nil)
    (pss_one (ps_ret (pe_call G_law_word (hr.mono (by omega)) (by rfl) g_law_word k_law_word b_law_word .nil pass0 (pa_cons (pv 0) pa_nil))))), ?_⟩
    refine ⟨_, rfl, p, a, 4, rfl, by decide, by decide, hp, fun v H1 hv X1 _ => ⟨rfl, _, rfl, ite2 (fun c1 => ?_) (fun c1 => ?_)⟩⟩
    · refine ⟨(by show 5 ≤ sizeLine; decide), fun l nl => ⟨_, rfl, p, a, 5, rfl, by decide, by decide, (X1.new nl).pool, fun v2 H2 hv2 X2 k2 => ?_⟩⟩
      have hl2 : H2 l = some (.lst (partsL.map V.str)) := by rw [k2 _ (X1.pool.ne nl)]; exact upd_same
      have l5 : partsL.length = 5 := rfl
      obtain ⟨k, hk⟩ : ∃ k, partsL[v2]? = some k := ⟨_, List.getElem?_eq_getElem (by omega)⟩
      obtain ⟨h1, h2⟩ := parts_word k (List.mem_of_getElem? hk)
      refine ⟨_, _, _, _, rfl, rfl, SqL.of hl2, at_of (j := v2) rfl (by rw [List.getElem?_map, hk]; rfl), ?_⟩
      have := q (tl k) H2 h1 h2 ((X1.new nl).trans X2)
      rw [mk_tlS] at this
      exact this
    · exact ⟨_, rfl, p, a, rfl, X1.pool, fun T H2 hT _ hTl X2 => q T H2 hT hTl (X1.trans X2)⟩
def spRecord : Sp := fun vs H Q _ => ∃ (p a : Addr), vs = [.ref p] ∧ PoolOk p a H ∧ ∀ (c : Addr) (r : RecD) (H' : Hp), Px p a H H' → RecOk r → RecAt H' c r → Q (.ref c) H'
theorem sc_law_record : FnScope ["pool", "low", "size", "rows", "k", "j", "name", "bits", "bit"] ["pool"] (defScope s_law_record) := ⟨rfl, rfl, rfl, by decide +kernel, rfl, by decide +kernel, by decide +kernel⟩
theorem ok_law_record (D : Dfd K mg "_law_record" s_law_record ["pool"]) (T : TxtS mg) (C1 : Has P w K mg base 2 "_law_draw" ["pool", "many"] spDrawXL) (C2 : Has P w K mg base 4 "_law_part" ["pool"] spPart) : Has P w K mg base 5 "_law_record" ["pool"] spRecord := by
  obtain ⟨f_law_draw, d_law_draw, G_law_draw, g_law_draw, k_law_draw, b_law_draw⟩ := C1
  obtain ⟨f_law_part, d_law_part, G_law_part, g_law_part, k_law_part, b_law_part⟩ := C2
  refine D.has fun f fd F => F.ok sc_law_record (fun vs H Q E h => ?_) (fun cdv A outer s H vs Q E hr h => ?_)
  · obtain ⟨_, _, rfl, _⟩ := h
    rfl
  · obtain ⟨p, a, rfl, hp, q⟩ := h
    refine ⟨_, (pss_cons (ps_set (i := 1) sc_law_record.nd rfl (.inl rfl) (pe_ix ix_list (pe_lst (pa_cons (pe_op op_sub (pe_call G_law_draw (hr.mono (by omega)) (by rfl) g_law_draw k_law_draw b_law_draw .nil pass0 (pa_cons (pv 0) (pa_cons pe_int pa_nil))) pe_int) (pa_cons (pe_call G_law_draw (hr.mono (by omega)) (by rfl) g_law_draw k_law_draw b_law_draw .nil pass0 (pa_cons (pv 0) (pa_cons (pe_op op_pow pe_int pe_int) pa_nil))) (pa_cons (pe_un un_neg (pe_call G_law_draw (hr.mono (by omega)) (by rfl) g_law_draw k_law_draw b_law_draw .nil pass0 (pa_cons (pv 0) (pa_cons (pe_op op_pow pe_int pe_int) pa_nil)))) pa_nil)))) (pe_call G_law_draw (hr.mono (by omega)) (by rfl) g_law_draw k_law_draw b_law_draw .nil pass0 (pa_cons (pv 0) (pa_cons pe_int pa_nil))) (fun _ _ => rfl)))
    (pss_cons (ps_set (i := 2) sc_law_record.nd rfl (.inl rfl) (pe_op op_add pe_int (pe_ix ix_list (pe_lst (pa_cons (pe_call G_law_draw (hr.mono (by omega)) (by rfl) g_law_draw k_law_draw b_law_draw .nil pass0 (pa_cons (pv 0) (pa_cons pe_int pa_nil))) (pa_cons (pe_call G_law_draw (hr.mono (by omega)) (by rfl) g_law_draw k_law_draw b_law_draw .nil pass0 (pa_cons (pv 0) (pa_cons pe_int pa_nil))) pa_nil))) (pe_call G_law_draw (hr.mono (by omega)) (by rfl) g_law_draw k_law_draw b_law_draw .nil pass0 (pa_cons (pv 0) (pa_cons pe_int pa_nil))) (fun _ _ => rfl))))
    (pss_cons (ps_set (i := 3) sc_law_record.nd rfl (.inl rfl) (pe_lst pa_nil))
    (pss_cons (ps_for PassesOwn.never rfl (pi_range1 rfl T.range (pa_cons (pe_call G_law_draw (hr.mono (by omega)) (by rfl) g_law_draw k_law_draw b_law_draw .nil pass0 (pa_cons (pv 0) (pa_cons pe_int pa_nil))) pa_nil)) (pg_name (i := 4) sc_law_record.nd rfl (.inl rfl))
      (pss_cons (ps_set (i := 6) sc_law_record.nd rfl (.inl rfl) (pe_join pe_str (pe_lc (own := [("j", 5)]) (g := gName 5) (tt := tYes) rfl sc_law_record.nd (pi_range1 rfl T.range (pa_cons (pe_op op_add pe_int (pe_call G_law_draw (hr.mono (by omega)) (by rfl) g_law_draw k_law_draw b_law_draw .nil pass0 (pa_cons (pv 0) (pa_cons pe_int pa_nil)))) pa_nil)) (blkOk_by (N := ["pool", "low", "size", "rows", "k", "j", "name", "bits", "bit"]) (sc := defScope s_law_record) (own := [("j", 5)]) (by decide +kernel)) (fun _ _ _ _ _ => (pg_name (i := 5) sc_law_record.nd rfl (.inl rfl))) (fun _ _ _ _ _ => pts_nil) (fun _ _ _ _ _ => (pe_call G_law_part (hr.mono (by omega)) (by rfl) g_law_part k_law_part b_law_part .nil pass0 (pa_cons (pv 0) pa_nil))))))
      (pss_cons (ps_set (i := 7) sc_law_record.nd rfl (.inl rfl) (pe_lst pa_nil))
      (pss_cons (ps_for PassesOwn.never rfl (pi_range1 rfl T.range (pa_cons (pv 2) pa_nil)) (pg_name (i := 5) sc_law_record.nd rfl (.inl rfl))
        (pss_cons (ps_set (i := 8) sc_law_record.nd rfl (.inl rfl) (pe_cmpR op_eq (pe_call G_law_draw (hr.mono (by omega)) (by rfl) g_law_draw k_law_draw b_law_draw .nil pass0 (pa_cons (pv 0) (pa_cons pe_int pa_nil))) pe_int (nomark _)))
        (pss_cut (ps_if (PW.pt (pw_and (pt_cmpR (op_neD hr.units) (pv 7) (pe_lst pa_nil) (nomark _)) (pw_and1 (pt_cmpR op_gt (pe_call G_law_draw (hr.mono (by omega)) (by rfl) g_law_draw k_law_draw b_law_draw .nil pass0 (pa_cons (pv 0) (pa_cons pe_int pa_nil))) pe_int (nomark _)))))
          (pss_one (ps_set (i := 8) sc_law_record.nd rfl (.inl rfl) (pe_ix ix_list (pv 7) (pe_un un_neg pe_int) (fun _ _ => rfl))))
          pss_nil)
        (pss_one (ps_expr (pe_bm PySem.F.plainAttrs_list PySem.F.slot_list_append PySem.F.type_list_append mt_append (pv 7) (pa_cons (pv 8) pa_nil)))))))
      (pss_one (ps_expr (pe_bm PySem.F.plainAttrs_list PySem.F.slot_list_append PySem.F.type_list_append mt_append (pv 3) (pa_cons (pe_tup (pa_cons (pv 6) (pa_cons (pe_callTy call_tuple_of (by rfl) T.tuple (by decide +kernel) (pa_cons (pv 7) pa_nil)) pa_nil))) pa_nil))))))))
    (pss_one (ps_ret (pe_tup (pa_cons (pv 1) (pa_cons (pe_op op_sub (pe_op op_add (pv 1) (pv 2)) pe_int) (pa_cons (pe_callTy call_tuple_of (by rfl) T.tuple (by decide +kernel) (pa_cons (pv 3) pa_nil)) pa_nil)))))))))), ?_⟩
    refine ⟨_, rfl, p, a, 9, rfl, by decide, by decide, hp, fun v1 H1 h1 X1 _ => ⟨_, _, rfl, rfl, _, rfl, _, _, rfl, rfl, ⟨by decide, by decide, by decide⟩, p, a, _, rfl, by decide +kernel, by decide +kernel, X1.pool, fun v2 H2 h2 X2 _ => ⟨_, rfl, _, _, rfl, rfl, ⟨by decide, by decide, by decide +kernel⟩, p, a, _, rfl, by decide +kernel, by decide +kernel, X2.pool, fun v3 H3 h3 X3 _ => ⟨_, rfl, (by show 3 ≤ sizeLine; decide), fun l nl => ?_⟩⟩⟩⟩
    have X13 := (X1.trans (X2.trans X3)).new (o := .lst [.int ((v1 : Nat) - 4), .int (v2 : Nat), .int (-((v3 : Nat) : Int))]) nl
    refine ⟨_, rfl, p, a, 3, rfl, by decide, by decide, X13.pool, fun v4 H4 hv4 X4 k4 => ?_⟩
    have hl4 : H4 l = some (.lst [.int ((v1 : Nat) - 4), .int (v2 : Nat), .int (-((v3 : Nat) : Int))]) := by rw [k4 _ (X3.pool.ne nl)]; exact upd_same
    have h2' : v2 < 10 ^ 15 := by
      have h2 : (v2 : Int) < (10 : Int) ^ 15 := h2
      have e : (10 : Int) ^ 15 = ((10 ^ 15 : Nat) : Int) := by decide +kernel
      rw [e] at h2
      exact Int.ofNat_lt.mp h2
    have h3' : v3 < 10 ^ 40 := by
      have h3 : (v3 : Int) < (10 : Int) ^ 40 := h3
      have e : (10 : Int) ^ 40 = ((10 ^ 40 : Nat) : Int) := by decide +kernel
      rw [e] at h3
      exact Int.ofNat_lt.mp h3
    have p40 : (10 : Nat) ^ 15 ≤ 10 ^ 40 := by decide +kernel
    have p9 : 9 ≤ (10 : Nat) ^ 40 := by decide +kernel
    obtain ⟨low, hlow, fewl⟩ : ∃ low : Int, ([.int ((v1 : Nat) - 4), .int (v2 : Nat), .int (-((v3 : Nat) : Int))] : List V)[v4]? = some (.int low) ∧ low.natAbs ≤ 10 ^ 40 := by
      generalize (10 : Nat) ^ 40 = Z at *
      match v4, hv4 with
      | 0, _ => exact ⟨_, rfl, by omega⟩
      | 1, _ => exact ⟨_, rfl, by omega⟩
      | 2, _ => exact ⟨_, rfl, by omega⟩
      | n + 3, h => exact absurd h (by omega)
    refine ⟨_, _, _, _, rfl, rfl, SqL.of hl4, at_of (j := v4) rfl hlow, ?_⟩
    have X04 := X13.trans X4
    refine ⟨_, rfl, p, a, 9, rfl, by decide, by decide, X4.pool, fun u1 H5 hu1 X5 _ => ⟨_, rfl, p, a, 40, rfl, by decide, by decide, X5.pool, fun u2 H6 hu2 X6 _ => ⟨(by show 2 ≤ sizeLine; decide), fun l2 nl2 => ⟨_, rfl, p, a, 2, rfl, by decide, by decide, (X6.new nl2).pool, fun u3 H7 hu3 X7 k7 => ?_⟩⟩⟩⟩
    have hl7 : H7 l2 = some (.lst [.int (u1 : Nat), .int (u2 : Nat)]) := by rw [k7 _ (X6.pool.ne nl2)]; exact upd_same
    obtain ⟨u, hu, hu40⟩ : ∃ u : Nat, ([.int (u1 : Nat), .int (u2 : Nat)] : List V)[u3]? = some (.int (u : Nat)) ∧ u < 40 := by
      match u3, hu3 with
      | 0, _ => exact ⟨u1, rfl, by omega⟩
      | 1, _ => exact ⟨u2, rfl, by omega⟩
      | n + 2, h => exact absurd h (by omega)
    have X07 := X04.trans ((X5.trans (X6.new nl2)).trans X7)
    refine ⟨_, _, _, _, rfl, rfl, SqL.of hl7, at_of (j := u3) rfl hu, _, _, rfl, rfl, Nat.zero_le _, fun R nR => ?_⟩
    have XR : Px p a H7 (upd H7 R (.lst [])) := (Px.refl X7.pool).new nR
    have Rp : R ≠ p := X7.pool.ne nR
    refine ⟨_, rfl, p, a, 5, rfl, by decide, by decide, XR.pool, fun m H9 hm X9 k9 => ⟨_, rfl, by omega, by omega, for_range (n := ((m : Nat) : Int).toNat)
      (fun k σ H' => Px p a H7 H' ∧ ∃ (ra : List Addr) (rows : List (List Nat × List Bool)) (y4 y5 y6 y7 y8 : Option V), H' R = some (.lst (ra.map V.ref)) ∧ All2 (RowAt H') ra rows ∧ rows.length = k ∧ (∀ x ∈ rows, NameL x.1 ∧ x.2.length = 1 + u) ∧
        σ = [some (.ref p), some (.int low), some (.int ((1 + u : Nat) : Int)), some (.ref R), y4, y5, y6, y7, y8])
      ⟨XR.trans X9, [], [], _, _, _, _, _, (by rw [k9 _ Rp]; exact upd_same), .nil, rfl, (fun _ h => nomatch h), rfl⟩ ?_ ?_⟩⟩
    · rintro k σ H10 hk ⟨X10, ra, rows, y4, y5, y6, y7, y8, hR, hA, hrl, hrows, rfl⟩
      rw [Int.toNat_natCast] at hk
      refine ⟨⟨_, rfl⟩, _, rfl, p, a, 3, rfl, by decide, by decide, X10.pool, fun n3 H11 hn3 X11 _ => ⟨_, _, rfl, rfl, _, rfl, by omega, by omega, fun L nL => ?_⟩⟩
      have XL : Px p a H11 (upd H11 L (.lst [])) := (Px.refl X11.pool).new nL
      have Lp : L ≠ p := X11.pool.ne nL
      refine lc_range (lo := 0) (n := ((1 : Int) + (n3 : Int)).toNat) (fun j H' => Px p a H11 H' ∧ ∃ parts : List (List Nat), H' L = some (.lst (strV parts)) ∧ parts.length = j ∧ ∀ T ∈ parts, isWord T = true ∧ T.length ≤ 20) ⟨XL, [], upd_same, rfl, (fun _ h => nomatch h)⟩ ?_ ?_
      · rintro j H12 hj ⟨X12, parts, hL, hpl, hpw⟩
        refine ⟨rfl, tYes_in ?_⟩
        simp only [wipe, _root_.L2.start, List.map_cons, List.map_nil, List.length_cons, List.length_nil, Nat.reduceAdd, Nat.reduceSub, List.replicate_succ, List.replicate_zero, List.cons_append, List.nil_append, List.set_cons_zero, List.set_cons_succ]
        refine ⟨_, rfl, p, a, rfl, X12.pool, fun T1 H13 hT1 hT2 X13 => ?_⟩
        have hL13 : H13 L = some (.lst (strV parts)) := X13.at_ (by rw [hid_ne Lp]; exact hL)
        refine ⟨_, hL13, sz_lt (by unfold strV; rw [List.length_map]; omega), (X12.trans X13).mut nL, parts ++ [T1], by rw [upd_same]; unfold strV; rw [List.map_append]; rfl, by rw [List.length_append, hpl]; rfl, fun T hT => ?_⟩
        rcases List.mem_append.mp hT with z | z
        · exact hpw T z
        · rw [List.mem_singleton.mp z]; exact ⟨hT1, hT2⟩
      rintro H12 ⟨X12, parts, hL, hpl, hpw⟩
      have hpl3 : parts.length = 1 + n3 := by omega
      have hL' : H12 L = some (.lst ((parts.map mk).map V.str)) := by rw [hL, List.map_map]; rfl
      refine ⟨_, L, parts.map mk, rfl, rfl, .inl (SqL.of hL'), ?_, ?_⟩
      · have hs := sum_len (m := 20) parts fun p hp => (hpw p hp).2
        have e1 : ("/" : Str).length = 1 := by decide +kernel
        rw [List.length_map, e1, Nat.mul_one]
        omega
      obtain ⟨x, xs, hxs⟩ : ∃ x xs, parts = x :: xs := List.exists_cons_of_ne_nil fun z => by rw [z] at hpl3; simp at hpl3; omega
      have hname : Txt.join ("/" : Str) (parts.map mk) = mk (joinL [47] (x :: xs)) := by rw [hxs]; exact join_mk [47] _ _
      have hN : NameL (joinL [47] (x :: xs)) := ⟨x, xs, rfl, by rw [hxs] at hpl3; rw [List.length_cons] at hpl3; omega, fun p hp => hpw p (by rw [hxs]; exact hp)⟩
      rw [hname]
      generalize joinL [47] (x :: xs) = nm at *
      have X712 := X10.trans (X11.trans X12)
      have hR12 : H12 R = some (.lst (ra.map V.ref)) := (X11.trans X12).at_ (by rw [hid_ne Rp]; exact hR)
      have hA12 := hA.imp fun _ _ z => z.te (X11.trans X12).tup
      refine ⟨Nat.zero_le _, fun Bl nB => ?_⟩
      have XB : Px p a H12 (upd H12 Bl (.lst [])) := (Px.refl X12.pool).new nB
      have Bp : Bl ≠ p := X12.pool.ne nB
      refine ⟨_, rfl, _, rfl, by omega, by omega, for_range (n := (((1 + u : Nat) : Int)).toNat)
        (fun j σ H' => Px p a H12 H' ∧ ∃ (bits : List Bool) (y5 y8 : Option V), H' Bl = some (.lst (bits.map V.bl)) ∧ bits.length = j ∧ σ = [some (.ref p), some (.int low), some (.int ((1 + u : Nat) : Int)), some (.ref R), some (.int (0 + ((k : Nat) : Int))), y5, some (.str (mk nm)), some (.ref Bl), y8])
        ⟨XB, [], _, _, upd_same, rfl, rfl⟩ ?_ ?_⟩
      · rintro j σ H13 hj ⟨X13, bits, y5, y8, hB, hbl, rfl⟩
        rw [Int.toNat_natCast] at hj
        refine ⟨_, rfl, p, a, 2, rfl, by decide, by decide, X13.pool, fun b0 H14 _ X14 _ => ⟨rfl, ?_⟩⟩
        generalize decide (V.int ((b0 : Nat) : Int) = V.int 1) = bt
        have hB14 : H14 Bl = some (.lst (bits.map V.bl)) := X14.at_ (by rw [hid_ne Bp]; exact hB)
        have X1214 := X13.trans X14
        refine ⟨fun σ H' => Px p a H12 H' ∧ H' Bl = some (.lst (bits.map V.bl)) ∧ ∃ bt : Bool, σ = [some (.ref p), some (.int low), some (.int ((1 + u : Nat) : Int)), some (.ref R), some (.int (0 + ((k : Nat) : Int))), some (.int (0 + ((j : Nat) : Int))), some (.str (mk nm)), some (.ref Bl), some (.bl bt)], ?_, ?_⟩
        · refine ⟨_, rfl, Nat.zero_le _, fun e ne => ?_⟩
          have X15 := X1214.new (o := .lst []) ne
          have eB : e ≠ Bl := fun z => by rw [z, hB14] at ne; cases ne
          have hB15 : upd H14 e (.lst []) Bl = some (.lst (bits.map V.bl)) := by rw [upd_ne eB.symm]; exact hB14
          refine ⟨_, _, dp_blsL hB15, dp_blsL (l := []) upd_same, shaped_blsL _, shaped_blsL [], _, rfl, ite2 (fun c1 => ?_) (fun c1 => ⟨X15, hB15, bt, rfl⟩)⟩
          have hne : bits ≠ [] := fun z => by
            rw [z] at c1
            exact absurd c1 (by decide +kernel)
          refine ⟨_, rfl, p, a, 3, rfl, by decide, by decide, X15.pool, fun z H16 _ X16 _ => ⟨_, _, rfl, rfl, _, rfl, ite2 (fun c2 => ?_) (fun c2 => ?_)⟩⟩
          · have hB16 : H16 Bl = some (.lst (bits.map V.bl)) := X16.at_ (by rw [hid_ne Bp]; exact hB15)
            rcases snoc_cases bits with rfl | ⟨bs, b1, rfl⟩
            · exact absurd rfl hne
            have hB17 : H16 Bl = some (.lst (bs.map V.bl ++ [.bl b1])) := by rw [hB16, List.map_append]; rfl
            exact ⟨_, rfl, _, rfl, _, _, _, _, rfl, rfl, SqL.of hB17, atI_last _ _, X15.trans X16, hB16, b1, rfl⟩
          · exact ⟨X15.trans X16, X16.at_ (by rw [hid_ne Bp]; exact hB15), bt, rfl⟩
        · rintro σ H15 ⟨X15, hB15, bt, rfl⟩
          refine ⟨_, rfl, .inl ⟨rfl, _, SqL.of hB15⟩, _, rfl, Bl, _, _, rfl, rfl, hB15, sz_lt (by rw [List.length_map]; omega), X15.mut nB, bits ++ [bt], _, _, by rw [upd_same, List.map_append]; rfl, by rw [List.length_append, hbl]; rfl, rfl⟩
      · rintro σ H13 ⟨X13, bits, y5, y8, hB, hbl, rfl⟩
        rw [Int.toNat_natCast] at hbl
        have hR13 : H13 R = some (.lst (ra.map V.ref)) := X13.at_ (by rw [hid_ne Rp]; exact hR12)
        have hA13 := hA12.imp fun _ _ z => z.te X13.tup
        refine ⟨_, rfl, .inl ⟨rfl, _, SqL.of hR13⟩, _, rfl, _, rfl, _, _, rfl, .inl ⟨SqL.of hB, fun bt nbt => ⟨(by show 2 ≤ sizeLine; decide), fun c nc => ?_⟩⟩⟩
        have E14 : Ex H13 (upd H13 bt (.tup (bits.map V.bl))) := Ex.new nbt
        have E15 := E14.trans (Ex.new nc (o := .tup [.str (mk nm), .ref bt]))
        have hrow : RowAt (upd (upd H13 bt (.tup (bits.map V.bl))) c (.tup [.str (mk nm), .ref bt])) c (nm, bits) := ⟨bt, upd_same, (Ex.new nc) _ _ upd_same⟩
        generalize upd (upd H13 bt (.tup (bits.map V.bl))) c (.tup [.str (mk nm), .ref bt]) = H15 at *
        have hR15 := E15 _ _ hR13
        refine ⟨R, _, _, rfl, rfl, hR15, sz_lt (by rw [List.length_map, hA.1]; omega), ((X712.trans X13).more E15).mut nR, ra ++ [c], rows ++ [(nm, bits)], _, _, _, _, _, by rw [upd_same, List.map_append]; rfl, ?_, by rw [List.length_append, hrl]; rfl, fun x hx => ?_, rfl⟩
        · exact (hA13.imp fun _ _ z => (z.ex E15).put hR15).snoc (hrow.put hR15)
        · rcases List.mem_append.mp hx with z | z
          · exact hrows x z
          · rw [List.mem_singleton.mp z]; exact ⟨hN, hbl⟩
    · rintro σ H10 ⟨X10, ra, rows, y4, y5, y6, y7, y8, hR, hA, hrl, hrows, rfl⟩
      rw [Int.toNat_natCast] at hrl
      refine ⟨_, rfl, _, rfl, _, rfl, _, _, rfl, rfl, _, _, rfl, rfl, _, rfl, _, _, rfl, .inl ⟨SqL.of hR, fun rt nrt => ⟨(by show 3 ≤ sizeLine; decide), fun c nc => ?_⟩⟩⟩
      have E1 : Ex H10 (upd H10 rt (.tup (ra.map V.ref))) := Ex.new nrt
      have E2 := E1.trans (Ex.new nc (o := .tup [.int low, .int (low + ((1 + u : Nat) : Int) - 1), .ref rt]))
      have p60 : (10 : Nat) ^ 40 + 41 < 10 ^ 60 := by decide +kernel
      refine q c ⟨low, 1 + u, rows⟩ _ ((X07.trans X10).more E2) ⟨?_, ?_, by show 1 ≤ 1 + u; omega, by show 1 + u ≤ 41; omega, by show rows.length ≤ 4; omega, hrows⟩ ⟨rt, ra, upd_same, (Ex.new nc) _ _ upd_same, hA.imp fun _ _ z => z.ex E2⟩
      · show low.natAbs < 10 ^ 60
        generalize (10 : Nat) ^ 40 = Z at *
        generalize (10 : Nat) ^ 60 = Y at *
        omega
      · show (low + ((1 + u : Nat) : Int) - 1).natAbs < 10 ^ 60
        generalize (10 : Nat) ^ 40 = Z at *
        generalize (10 : Nat) ^ 60 = Y at *
        omega
end
end G
namespace G
open PySem PySem.Spec PyProof.Rows L2 Evl TL
/-- the runs told (E) and the one that is counted (m) ahead of place k -/
def St (bits : List Bool) (k : Nat) (E : List (Nat × Bool)) (m : Nat) : Prop :=
  (m = 0 ∧ runsB (bits.take k) = E ∧ (E = [] ∨ ∃ E0 n c, E = E0 ++ [(n, c)] ∧ ∀ b, bits[k]? = some b → c ≠ b)) ∨ ∃ c, runsB (bits.take k) = E ++ [(m, c)] ∧ bits[k]? = some c
theorem st_step {bits : List Bool} {k : Nat} {E : List (Nat × Bool)} {m : Nat} {b : Bool} (h : St bits k E m) (hb : bits[k]? = some b) : runsB (bits.take (k + 1)) = E ++ [(m + 1, b)] := by
  rw [take_snoc1 hb, runsB_snoc]
  rcases h with ⟨rfl, e, h⟩ | ⟨c, e, h⟩
  · rw [e]
    rcases h with rfl | ⟨E0, n, c, rfl, hc⟩
    · rfl
    · exact addB_new (hc b hb)
  · rw [hb] at h
    cases h
    rw [e]
    exact addB_same
theorem st_told {bits : List Bool} {k : Nat} {E : List (Nat × Bool)} {m : Nat} {b : Bool} (h : St bits k E m) (hb : bits[k]? = some b) (hn : ∀ b', bits[k + 1]? = some b' → b ≠ b') : St bits (k + 1) (E ++ [(m + 1, b)]) 0 :=
  .inl ⟨rfl, st_step h hb, .inr ⟨E, m + 1, b, rfl, hn⟩⟩
theorem st_more {bits : List Bool} {k : Nat} {E : List (Nat × Bool)} {m : Nat} {b : Bool} (h : St bits k E m) (hb : bits[k]? = some b) (hn : bits[k + 1]? = some b) : St bits (k + 1) E (m + 1) :=
  .inr ⟨b, st_step h hb, hn⟩
theorem st_end {bits : List Bool} {E : List (Nat × Bool)} {m : Nat} (h : St bits bits.length E m) : E = runsB bits := by
  rcases h with ⟨_, e, _⟩ | ⟨c, _, h⟩
  · rw [List.take_length] at e; exact e.symm
  · rw [List.getElem?_eq_none (Nat.le_refl _)] at h; cases h
theorem st_few {bits : List Bool} {k : Nat} {E : List (Nat × Bool)} {m : Nat} (h : St bits k E m) (hk : k ≤ bits.length) : E.length ≤ k ∧ m ≤ k ∧ ∀ p ∈ E, p.1 ≤ k := by
  obtain ⟨h1, h2⟩ := runs_len_le bits k hk
  rcases h with ⟨rfl, e, _⟩ | ⟨c, e, _⟩
  · rw [e] at h1 h2; exact ⟨h1, Nat.zero_le _, h2⟩
  · rw [e] at h1 h2
    rw [List.length_append] at h1
    exact ⟨by have : ([(m, c)] : List (Nat × Bool)).length = 1 := rfl; omega, h2 (m, c) (by simp), fun p hp => h2 p (List.mem_append_left _ hp)⟩
def rowP (name : List Nat) (E : List (Nat × Bool)) : List Nat := name ++ ((E.map pieceL).map ([32] ++ ·)).flatten
theorem rowP_all (r : List Nat × List Bool) : rowL r = rowP r.1 (runsB r.2) := joinL_flat [32] _ _
theorem rowP_snoc (name : List Nat) (E : List (Nat × Bool)) (p : Nat × Bool) : rowP name (E ++ [p]) = rowP name E ++ [32] ++ pieceL p := by
  unfold rowP
  rw [List.map_append, List.map_append, List.flatten_append]
  simp
theorem rowP_len {name : List Nat} (hn : name.length ≤ 62) : ∀ (E : List (Nat × Bool)), (∀ p ∈ E, p.1 < 1000) → (rowP name E).length ≤ 62 + 6 * E.length := by
  intro E h
  have : (((E.map pieceL).map ([32] ++ ·)).flatten).length ≤ 6 * E.length := by
    induction E with
    | nil => exact Nat.le_refl _
    | cons p E ih =>
      have h1 := piece_len (h p List.mem_cons_self)
      have h2 := ih fun q hq => h q (List.mem_cons_of_mem _ hq)
      rw [List.map_cons, List.map_cons, List.flatten_cons, List.length_append, List.length_append]
      have e1 : ([32] : List Nat).length = 1 := rfl
      have e2 : (p :: E).length = E.length + 1 := rfl
      omega
  unfold rowP
  rw [List.length_append]; omega
/-- the text up to the j-th row -/
def txtTo (r : RecD) (j : Nat) : List Nat := headL r.low r.high ++ [10] ++ (((r.rows.take j).map rowL).map (· ++ [10])).flatten
theorem txtTo_snoc {r : RecD} {j : Nat} {row : List Nat × List Bool} (h : r.rows[j]? = some row) : txtTo r (j + 1) = txtTo r j ++ rowL row ++ [10] := by
  unfold txtTo
  rw [take_snoc1 h, List.map_append, List.map_append, List.flatten_append]
  simp
theorem txtTo_all (r : RecD) : txtTo r r.rows.length = r.text := by
  unfold txtTo RecD.text RecD.lines
  rw [List.take_length, List.map_cons, List.flatten_cons]
theorem txtTo_len {r : RecD} (ok : RecOk r) : ∀ j, j ≤ r.rows.length → (txtTo r j).length ≤ 1001 + j * 10001 := by
  intro j
  induction j with
  | zero =>
    intro _
    unfold txtTo
    rw [List.take_zero]
    have := head_len ok.low ok.high
    show (headL r.low r.high ++ [10] ++ []).length ≤ _
    rw [List.append_nil, List.length_append]
    show _ + 1 ≤ _
    omega
  | succ j ih =>
    intro hj
    have h := ih (by omega)
    have hr : r.rows[j]? = some (r.rows[j]'(by omega)) := List.getElem?_eq_getElem (by omega)
    obtain ⟨hn, hb⟩ := ok.row _ (List.mem_of_getElem? hr)
    have := row_len hn (by rw [hb]; exact ok.size)
    rw [txtTo_snoc hr, List.length_append, List.length_append]
    show _ + _ + 1 ≤ _
    omega
theorem bit_str (b : Bool) : Str.ofString (toString (if b = true then (1 : Int) else 0)) = mk [bitL b] := by
  rw [str_int]
  cases b <;> decide +kernel
section
variable {P : Program} {w : World} {K : PySem.W.Frag} {mg : Str → Option Value} {base : Heap}
def spText : Sp := fun vs H Q _ => ∃ (c : Addr) (r : RecD), vs = [.ref c] ∧ RecAt H c r ∧ RecOk r ∧ Q (.str (mk r.text)) H
theorem sc_law_text : FnScope ["record", "text", "row", "many", "k"] ["record"] (defScope s_law_text) := ⟨rfl, rfl, rfl, by decide +kernel, rfl, by decide +kernel, by decide +kernel⟩
theorem ok_law_text (D : Dfd K mg "_law_text" s_law_text ["record"]) (T : TxtS mg) : Has P w K mg base 1 "_law_text" ["record"] spText := by
  refine D.has fun f fd F => F.ok sc_law_text (fun vs H Q E h => ?_) (fun cdv A outer s H vs Q E hr h => ?_)
  · obtain ⟨_, _, rfl, _⟩ := h
    rfl
  · obtain ⟨c, r, rfl, ⟨rt, ra, hc, hrt, hA⟩, ok, q⟩ := h
    refine ⟨_, (pss_cons (ps_set (i := 1) sc_law_text.nd rfl (.inl rfl) (pe_op op_add_str (pe_op op_add_str (pe_op op_add_str (pe_op op_add_str pe_str (pe_callTy call_str_int (by rfl) T.str (by decide +kernel) (pa_cons (pe_ix ix_tup (pv 0) pe_int (fun _ _ => rfl)) pa_nil))) pe_str) (pe_callTy call_str_int (by rfl) T.str (by decide +kernel) (pa_cons (pe_ix ix_tup (pv 0) pe_int (fun _ _ => rfl)) pa_nil))) pe_str))
    (pss_cons (ps_for PassesOwn.never rfl (pi_tup (pe_ix ix_tup (pv 0) pe_int (fun _ _ => rfl))) (pg_name (i := 2) sc_law_text.nd rfl (.inl rfl))
      (pss_cons (ps_set (i := 1) sc_law_text.nd rfl (.inl rfl) (pe_op op_add_str (pv 1) (pe_ix ix_tup (pv 2) pe_int (fun _ _ => rfl))))
      (pss_cons (ps_set (i := 3) sc_law_text.nd rfl (.inl rfl) pe_int)
      (pss_cons (ps_for PassesOwn.never rfl (pi_range1 rfl T.range (pa_cons (pe_callB call_len_seq (by rfl) T.len (by decide +kernel) (pa_cons (pe_ix ix_tup (pv 2) pe_int (fun _ _ => rfl)) pa_nil)) pa_nil)) (pg_name (i := 4) sc_law_text.nd rfl (.inl rfl))
        (pss_cons (ps_set (i := 3) sc_law_text.nd rfl (.inl rfl) (pe_op op_add (pv 3) pe_int))
        (pss_one (ps_if (PW.pt (pw_or (pt_cmpR op_eq (pv 4) (pe_op op_sub (pe_callB call_len_seq (by rfl) T.len (by decide +kernel) (pa_cons (pe_ix ix_tup (pv 2) pe_int (fun _ _ => rfl)) pa_nil)) pe_int) (nomark _)) (pw_or1 (pt_cmpR op_ne (pe_ix ix_tup (pe_ix ix_tup (pv 2) pe_int (fun _ _ => rfl)) (pe_op op_add (pv 4) pe_int) (fun _ _ => rfl)) (pe_ix ix_tup (pe_ix ix_tup (pv 2) pe_int (fun _ _ => rfl)) (pv 4) (fun _ _ => rfl)) (nomark _)))))
          (pss_cons (ps_set (i := 1) sc_law_text.nd rfl (.inl rfl) (pe_op op_add_str (pe_op op_add_str (pe_op op_add_str (pe_op op_add_str (pv 1) pe_str) (pe_callTy call_str_int (by rfl) T.str (by decide +kernel) (pa_cons (pv 3) pa_nil))) pe_str) (pe_callTy call_str_int (by rfl) T.str (by decide +kernel) (pa_cons (pe_callTy call_int1 (by rfl) T.int (by decide +kernel) (pa_cons (pe_ix ix_tup (pe_ix ix_tup (pv 2) pe_int (fun _ _ => rfl)) (pv 4) (fun _ _ => rfl)) pa_nil)) pa_nil))))
          (pss_one (ps_set (i := 3) sc_law_text.nd rfl (.inl rfl) pe_int)))
          pss_nil))))
      (pss_one (ps_set (i := 1) sc_law_text.nd rfl (.inl rfl) (pe_op op_add_str (pv 1) pe_str)))))))
    (pss_one (ps_ret (pv 1))))), ?_⟩
    have l1 := few_len ok.low
    have l2 := few_len ok.high
    have i1 : (Str.ofString (toString r.low)).length ≤ 61 := by rw [len_tl, tl_int]; exact l1
    have i2 : (Str.ofString (toString r.high)).length ≤ 61 := by rw [len_tl, tl_int]; exact l2
    have nl : ("\n" : Str).length = 1 := by decide +kernel
    refine ⟨_, rfl, _, _, _, _, rfl, rfl, SqT.of hc, atI_nat (j := 0) rfl, _, rfl, few_log ok.low, _, _, rfl, rfl, ?_, _, _, rfl, rfl, ?_, ?_⟩
    · rw [l_from]; exact sz_of (by omega)
    · rw [str_len_app, l_from, l_to]; exact sz_of (by omega)
    refine ⟨_, rfl, _, _, _, _, rfl, rfl, SqT.of hc, atI_nat (j := 1) rfl, _, rfl, few_log ok.high, _, _, rfl, rfl, ?_, _, _, rfl, rfl, ?_, ?_⟩
    · rw [str_len_app, str_len_app, l_from, l_to]; exact sz_of (by omega)
    · rw [str_len_app, str_len_app, str_len_app, l_from, l_to, nl]; exact sz_of (by omega)
    have hh : ((((("from " : Str)) ++ Str.ofString (toString r.low)) ++ (" to " : Str)) ++ Str.ofString (toString r.high)) ++ ("\n" : Str) = mk (txtTo r 0) := ext_tl (by
      rw [tl_append, tl_append, tl_append, tl_append, tl_int, tl_int, tl_mkS]
      unfold txtTo headL
      rw [joinL_flat, List.take_zero]
      have e1 : tl ("from " : Str) = tl ("from" : Str) ++ [32] := by decide +kernel
      have e2 : tl (" to " : Str) = [32] ++ tl ("to" : Str) ++ [32] := by decide +kernel
      have e3 : tl ("\n" : Str) = [10] := by decide +kernel
      rw [e1, e2, e3]
      simp)
    rw [hh]
    refine ⟨_, rfl, _, _, _, _, rfl, rfl, SqT.of hc, atI_nat (j := 2) rfl, rt, rfl, ⟨_, SqT.of hrt⟩, for_tup (K := K) (a := rt) (xs := ra.map V.ref)
      (fun j σ H' => H' = H ∧ ∃ y2 y3 y4 : Option V, σ = [some (.ref c), some (.str (mk (txtTo r j))), y2, y3, y4]) ⟨rfl, _, _, _, rfl⟩ (fun j σ H' _ g => by rw [g.1]; exact SqT.of hrt) ?_ ?_⟩
    · rintro j z σ H1 hz ⟨rfl, y2, y3, y4, rfl⟩
      obtain ⟨b, hb, rfl⟩ := refs_get hz
      obtain ⟨row, hrow, bt, hb1, hbt⟩ := hA.at_ hb
      obtain ⟨hn, hbl⟩ := ok.row row (List.mem_of_getElem? hrow)
      have hj := (List.getElem?_eq_some_iff.mp hrow).1
      have h4 := ok.rows
      have h41 := ok.size
      have hTl := txtTo_len ok j (by omega)
      have : j * 10001 ≤ 4 * 10001 := Nat.mul_le_mul_right _ (by omega)
      have hnl := name_len hn
      have eT := txtTo_snoc hrow
      generalize txtTo r j = Tx at *
      refine ⟨_, rfl, _, rfl, _, _, _, _, rfl, rfl, SqT.of hb1, atI_nat (j := 0) rfl, _, _, rfl, rfl, ?_, ?_⟩
      · rw [mk_len, mk_len]; exact sz_of (by omega)
      rw [mk_app]
      have e0 : Tx ++ row.1 = Tx ++ rowP row.1 [] := by unfold rowP; simp
      rw [e0]
      have hlb : (row.2.map V.bl).length = row.2.length := List.length_map _
      refine ⟨_, rfl, _, _, _, _, rfl, rfl, SqT.of hb1, atI_nat (j := 1) rfl, bt, _, rfl, .inr (SqT.of hbt), _, rfl, by omega, by omega, for_range (n := (((row.2.map V.bl).length : Nat) : Int).toNat)
        (fun k σ H' => H' = H1 ∧ ∃ (E : List (Nat × Bool)) (m : Nat) (y4 : Option V), St row.2 k E m ∧ σ = [some (.ref c), some (.str (mk (Tx ++ rowP row.1 E))), some (.ref b), some (.int (m : Nat)), y4])
        ⟨rfl, [], 0, _, .inl ⟨rfl, rfl, .inl rfl⟩, rfl⟩ ?_ ?_⟩
      · rintro k σ H2 hk ⟨rfl, E, m, y4', hS, rfl⟩
        rw [Int.toNat_natCast, hlb] at hk
        rw [Int.zero_add]
        obtain ⟨hE1, hE2, hE3⟩ := st_few hS (by omega)
        obtain ⟨bk, hbk⟩ : ∃ bk, row.2[k]? = some bk := ⟨_, List.getElem?_eq_getElem hk⟩
        have hv : ∀ {i : Nat} {x : Bool}, row.2[i]? = some x → (row.2.map V.bl)[i]? = some (.bl x) := fun {i x} h => by rw [List.getElem?_map, h]; rfl
        have hPl := rowP_len (E := E) hnl fun p hp => by have := hE3 p hp; omega
        have em : ((m : Nat) : Int) + 1 = ((m + 1 : Nat) : Int) := by omega
        have sp1 : (" " : Str).length = 1 := by decide +kernel
        have hfm : Few (((m : Nat) : Int) + 1) := by
          rw [em]
          show (((m + 1 : Nat) : Int)).natAbs < 10 ^ 60
          rw [Int.natAbs_natCast]
          have p60 : 1000 < (10 : Nat) ^ 60 := by decide +kernel
          exact Nat.lt_trans (by omega) p60
        have im : (Str.ofString (toString (((m : Nat) : Int) + 1))).length ≤ 61 := by rw [len_tl, tl_int]; exact few_len hfm
        have etold : (((mk (Tx ++ rowP row.1 E) ++ (" " : Str)) ++ Str.ofString (toString (((m : Nat) : Int) + 1))) ++ ("x" : Str)) ++ Str.ofString (toString (if bk = true then (1 : Int) else 0)) = mk (Tx ++ rowP row.1 (E ++ [(m + 1, bk)])) := by
          rw [bit_str]
          refine ext_tl ?_
          rw [tl_append, tl_append, tl_append, tl_append, tl_int, tl_mkS, tl_mkS, tl_mkS, em, intL_nat, rowP_snoc]
          have e1 : tl (" " : Str) = [32] := by decide +kernel
          have e2 : tl ("x" : Str) = [120] := by decide +kernel
          rw [e1, e2]
          unfold pieceL
          simp
        refine ⟨_, rfl, _, _, rfl, rfl, _, rfl, _, rfl, _, _, _, _, rfl, rfl, SqT.of hb1, atI_nat (j := 1) rfl, bt, _, rfl, .inr (SqT.of hbt), _, _, rfl, rfl, rfl, _, rfl, ite2 (fun c1 => iteT ?_) (fun c1 => ?_)⟩
        · have hn2 : ∀ b', row.2[k + 1]? = some b' → bk ≠ b' := fun b' hb' => by
            have c1 := V.int.inj (of_decide_eq_true c1)
            rw [hlb] at c1
            have := (List.getElem?_eq_some_iff.mp hb').1
            exact absurd this (by omega)
          refine ⟨_, rfl, _, _, rfl, rfl, ?_, _, rfl, _, rfl, few_log hfm, _, _, rfl, rfl, ?_, _, _, rfl, rfl, ?_, _, rfl, _, _, _, _, rfl, rfl, SqT.of hb1, atI_nat (j := 1) rfl, _, rfl, _, _, _, _, rfl, rfl, SqT.of hbt, at_of (j := k) rfl (hv hbk), .inr ⟨_, rfl, _, rfl, ?_, _, _, rfl, rfl, ?_, rfl, E ++ [(m + 1, bk)], 0, some (.int (k : Nat)), st_told hS hbk hn2, ?_⟩⟩
          · rw [mk_len, List.length_append, sp1]; exact sz_of (by omega)
          · rw [str_len_app, mk_len, List.length_append, sp1]; exact sz_of (by omega)
          · rw [str_len_app, str_len_app, mk_len, List.length_append, sp1, l_x]; exact sz_of (by omega)
          · cases bk <;> decide +kernel
          · rw [bit_str, str_len_app, str_len_app, str_len_app, mk_len, mk_len, List.length_append, sp1, l_x]; exact sz_of (by show _ + 1 ≤ _; omega)
          · rw [← etold]; rfl
        · have hk1 : k + 1 < row.2.length := by
            refine Decidable.byContradiction fun z => c1 (decide_eq_true ?_)
            rw [hlb]
            exact congrArg V.int (by omega)
          obtain ⟨bn, hbn⟩ : ∃ bn, row.2[k + 1]? = some bn := ⟨_, List.getElem?_eq_getElem hk1⟩
          refine ⟨_, rfl, _, _, _, _, rfl, rfl, SqT.of hb1, atI_nat (j := 1) rfl, _, rfl, _, _, rfl, rfl, _, _, _, _, rfl, rfl, SqT.of hbt, at_of (j := k + 1) rfl (hv hbn), _, rfl, _, _, _, _, rfl, rfl, SqT.of hb1, atI_nat (j := 1) rfl, _, rfl, _, _, _, _, rfl, rfl, SqT.of hbt, at_of (j := k) rfl (hv hbk), rfl, _, rfl, ite2 (fun c2 => ?_) (fun c2 => ?_)⟩
          · have hn2 : ∀ b', row.2[k + 1]? = some b' → bk ≠ b' := fun b' hb' e => by
              rw [hbn] at hb'
              cases hb'
              rw [e, decide_eq_true rfl] at c2
              cases c2
            refine ⟨_, rfl, _, _, rfl, rfl, ?_, _, rfl, _, rfl, few_log hfm, _, _, rfl, rfl, ?_, _, _, rfl, rfl, ?_, _, rfl, _, _, _, _, rfl, rfl, SqT.of hb1, atI_nat (j := 1) rfl, _, rfl, _, _, _, _, rfl, rfl, SqT.of hbt, at_of (j := k) rfl (hv hbk), .inr ⟨_, rfl, _, rfl, ?_, _, _, rfl, rfl, ?_, rfl, E ++ [(m + 1, bk)], 0, some (.int (k : Nat)), st_told hS hbk hn2, ?_⟩⟩
            · rw [mk_len, List.length_append, sp1]; exact sz_of (by omega)
            · rw [str_len_app, mk_len, List.length_append, sp1]; exact sz_of (by omega)
            · rw [str_len_app, str_len_app, mk_len, List.length_append, sp1, l_x]; exact sz_of (by omega)
            · cases bk <;> decide +kernel
            · rw [bit_str, str_len_app, str_len_app, str_len_app, mk_len, mk_len, List.length_append, sp1, l_x]; exact sz_of (by show _ + 1 ≤ _; omega)
            · rw [← etold]; rfl
          · have e : bk = bn := by
              refine Decidable.byContradiction fun z => c2 ?_
              rw [bl_eq, decide_eq_false fun e => z e.symm]; rfl
            subst e
            refine ⟨rfl, E, m + 1, some (.int (k : Nat)), st_more hS hbk hbn, ?_⟩
            rw [← em]; rfl
      · rintro σ H2 ⟨rfl, E, m, y4', hS, rfl⟩
        rw [Int.toNat_natCast, hlb] at hS
        have eE := st_end hS
        subst eE
        have e1 : mk (Tx ++ rowP row.1 (runsB row.2)) ++ ("\n" : Str) = mk (Tx ++ rowL row ++ [10]) := by
          rw [← rowP_all]; exact mk_app _ [10]
        refine ⟨_, rfl, _, _, rfl, rfl, ?_, rfl, some (.ref b), some (.int (m : Nat)), y4', ?_⟩
        · have := row_len hn (by rw [hbl]; exact h41)
          rw [mk_len, List.length_append, ← rowP_all, nl]; exact sz_of (by omega)
        · rw [eT, ← e1]; rfl
    · rintro σ H1 ⟨rfl, y2, y3, y4, rfl⟩
      rw [List.length_map, hA.1, txtTo_all]
      exact ⟨_, rfl, q⟩
end
end G
namespace G
open PySem PySem.Spec PyProof.Rows L2 Evl TL
def rowD (x : List Nat × List Bool) : D := .tup [.str (mk x.1), .tup (x.2.map D.bl)]
def recD (r : RecD) : D := .tup [.int r.low, .int r.high, .tup (r.rows.map rowD)]
theorem rep_row {H : Hp} {a : Addr} {x : List Nat × List Bool} (h : RowAt H a x) : Rep H (.ref a) (rowD x) := by
  obtain ⟨bt, h1, h2⟩ := h
  refine .tup h1 rfl fun i y d hy hd => ?_
  match i with
  | 0 => cases hy; cases hd; exact .str _
  | 1 => cases hy; cases hd; exact rep_bls h2
  | n + 2 => cases hy
theorem rep_rec {H : Hp} {a : Addr} {r : RecD} (h : RecAt H a r) : Rep H (.ref a) (recD r) := by
  obtain ⟨rt, ra, h1, h2, hA⟩ := h
  refine .tup h1 rfl fun i y d hy hd => ?_
  match i with
  | 0 => cases hy; cases hd; exact .int _
  | 1 => cases hy; cases hd; exact .int _
  | 2 =>
    cases hy; cases hd
    refine .tup h2 (by rw [List.length_map, List.length_map]; exact hA.1) fun j y d hy hd => ?_
    obtain ⟨b, hb, rfl⟩ := refs_get hy
    rw [List.getElem?_map] at hd
    obtain ⟨x, hx, rfl⟩ := Option.map_eq_some_iff.mp hd
    exact rep_row (hA.2 j b x hb hx)
  | n + 3 => cases hy
theorem okD_str {n : Nat} (s : Str) : okD n (.str s) := by cases n <;> trivial
theorem okD_int {n : Nat} (i : Int) : okD n (.int i) := by cases n <;> trivial
theorem okD_rec {r : RecD} (ok : RecOk r) : okD 4 (recD r) := by
  refine ⟨by show 3 < 2 ^ 61; decide, fun d hd => ?_⟩
  simp only [List.mem_cons, List.not_mem_nil, or_false] at hd
  rcases hd with e | e | e <;> rw [e]
  · exact okD_int _
  · exact okD_int _
  refine ⟨by rw [List.length_map]; have := ok.rows; omega, fun d hd => ?_⟩
  obtain ⟨x, hx, rfl⟩ := List.mem_map.mp hd
  obtain ⟨_, hb⟩ := ok.row x hx
  refine ⟨by show 2 < 2 ^ 61; decide, fun d hd => ?_⟩
  simp only [List.mem_cons, List.not_mem_nil, or_false] at hd
  rcases hd with e | e <;> rw [e]
  · exact okD_str _
  refine ⟨by rw [List.length_map, hb]; have := ok.size; omega, fun d hd => ?_⟩
  obtain ⟨b, _, rfl⟩ := List.mem_map.mp hd
  trivial
theorem RecAt.ex {H H' : Hp} {a : Addr} {r : RecD} (h : RecAt H a r) (e : Ex H H') : RecAt H' a r := by
  obtain ⟨rt, ra, h1, h2, hA⟩ := h
  exact ⟨rt, ra, e _ _ h1, e _ _ h2, hA.imp fun _ _ z => z.ex e⟩
end G
namespace G
open PySem PySem.Spec PyProof.Rows L2 Evl TL
/-- a text that may be read, and is no record's -/
structure NoRec (Y : List Nat) : Prop where
  len : Y.length ≤ 15000
  no : ∀ lo hi rws, ¬ IsRecK Y lo hi rws
section
variable {P : Program} {w : World} {K : PySem.W.Frag} {mg : Str → Option Value} {base : Heap}
def spRefusedK : Sp := fun vs H Q _ => ∃ Y : List Nat, vs = [.str (mk Y)] ∧ NoRec Y ∧ ∀ H', Ex H H' → Q (.bl true) H'
theorem sc_law_refused : FnScope ["text", "e"] ["text"] (defScope s_law_refused) := ⟨rfl, rfl, rfl, by decide +kernel, rfl, by decide +kernel, by decide +kernel⟩
theorem ok_law_refusedK {B R S : Addr} (D : Dfd K mg "_law_refused" s_law_refused ["text"]) (T : TxtS mg) (g_BadRecord : mg "BadRecord" = some (.ref B)) (g_BadReport : mg "BadReport" = some (.ref R)) (g_SignoffError : mg "SignoffError" = some (.ref S))
    (iB : ExcC K B) (bb : PySem.W.kitOne K (.ref B) (.ref B) = some true) (br : PySem.W.kitOne K (.ref B) (.ref R) = some false) (hitB : PySem.W.exmOne K (.ref B) (.ref S) = some true)
    (C1 : HasX P w K mg base 4 "read_record" ["text"] (spRecK B)) : Has P w K mg base 5 "_law_refused" ["text"] spRefusedK := by
  obtain ⟨f_read_record, d_read_record, G_read_record, g_read_record, k_read_record, b_read_record⟩ := C1
  refine D.has fun f fd F => F.ok sc_law_refused (fun vs H Q E h => ?_) (fun cdv A outer s H vs Q E hr h => ?_)
  · obtain ⟨Y, rfl, _⟩ := h
    rfl
  · obtain ⟨Y, rfl, hn, q⟩ := h
    refine ⟨_, (pss_cons (ps_try_as (c := .ref S) (i := 1) rfl rfl sc_law_refused.nd rfl rfl ⟨rfl, by decide, .inl g_SignoffError⟩ takes0
      (fun W pn xe tk hp => (pss_one (ps_expr (pe_callS G_read_record (hr.mono (by omega)) rfl g_read_record k_read_record b_read_record (fun σ => passAt tk σ) (pa_cons (pv 0) pa_nil)))))
      (fun a oe cls dd pn hz hf => (pss_one (ps_ret (pe_and (pe_isE hz hf (fun D hz1 ic => pe_callB (call_isE ic hz1 hf) (by rfl) T.isinstance (by decide +kernel) (pa_cons (pv 1) (pa_cons (gRef rfl g_BadRecord) pa_nil)))) (pe_one (pe_not (pe_isE hz hf (fun D hz1 ic => pe_callB (call_isE ic hz1 hf) (by rfl) T.isinstance (by decide +kernel) (pa_cons (pv 1) (pa_cons (gRef rfl g_BadReport) pa_nil)))))))))))
    (pss_one (ps_ret pe_bl))), ?_⟩
    refine ⟨_, rfl, Y, rfl, hn.len, fun lo hi r a H1 h => (hn.no lo hi r h).elim, fun _ H1 E1 => ⟨true, hitB, fun _ a na => ?_, fun q => nomatch q⟩⟩
    refine ⟨B, ⟨rfl, rfl, iB⟩, _, rfl, .ref B, .ref B, true, rfl, (fun u hu => hu), bb, _, rfl, iteT ⟨B, ⟨rfl, rfl, iB⟩, _, rfl, .ref R, .ref R, false, rfl, (fun u hu => hu), br, _, rfl, ?_⟩⟩
    exact q _ E1
end
end G
namespace G
open PySem PySem.Spec PyProof.Rows L2 Evl TL
/-! ## what is no record's text -/
theorem intL_inj {i j : Int} (h : intL i = intL j) : i = j := by
  unfold intL at h
  split at h <;> split at h
  · injection h with _ h
    have := numL_inj h
    omega
  · exact absurd (h ▸ List.mem_cons_self) (numL_free (n := j.toNat) (s := 45) (.inl (by decide)))
  · exact absurd (h.symm ▸ List.mem_cons_self) (numL_free (n := i.toNat) (s := 45) (.inl (by decide)))
  · have := numL_inj h
    omega
theorem norec_of {ls : List (List Nat)} (hne : ls ≠ []) (hl : (textOf ls).length ≤ 15000) (h1 : ∀ l ∈ ls, 10 ∉ l)
    (h : ∀ (lo hi : Int) (rws : List (List Nat × List (Nat × Bool))), ls = headL lo hi :: rws.map rowF → Few lo → Few hi → lo ≤ hi → (∀ x ∈ rws, RowV (hi - lo + 1) x) → False) : NoRec (textOf ls) :=
  ⟨hl, fun lo hi rws g => h lo hi rws (rec_lines (lines_textOf hne h1) g) g.2.1 g.2.2.1 g.2.2.2.1 g.2.2.2.2⟩
theorem words_of {w0 : List Nat} {ws : List (List Nat)} {y : List Nat × List (Nat × Bool)} (hf : ∀ p ∈ w0 :: ws, 32 ∉ p) (hn : NameW y.1) (e : joinL [32] (w0 :: ws) = rowF y) : w0 = y.1 ∧ ws = y.2.map pieceL := by
  have e : w0 :: ws = y.1 :: y.2.map pieceL := join_inj k32 hf (rowF_free hn (.inl rfl)) e
  injection e with e1 e2
  exact ⟨e1, e2⟩
theorem exp_sum : ∀ fs : List (Nat × Bool), (expB fs).length = (fs.map (·.1)).sum
  | [] => rfl
  | p :: fs => by
    have e : expB (p :: fs) = List.replicate p.1 p.2 ++ expB fs := rfl
    rw [e, List.length_append, List.length_replicate, exp_sum fs, List.map_cons, List.sum_cons]
theorem join_two (s : List Nat) (u v : List Nat) (B : List (List Nat)) : ∀ A : List (List Nat), joinL s (A ++ (u ++ s ++ v) :: B) = joinL s (A ++ u :: v :: B)
  | [] => by
    cases B with
    | nil => show u ++ s ++ v = u ++ (s ++ v); rw [List.append_assoc]
    | cons b B => show u ++ s ++ v ++ (s ++ joinL s (b :: B)) = u ++ (s ++ (v ++ (s ++ joinL s (b :: B)))); simp
  | a :: A => by
    have h := join_two s u v B A
    cases A with
    | nil => exact congrArg (fun l : List Nat => a ++ (s ++ l)) h
    | cons c A => exact congrArg (fun l : List Nat => a ++ (s ++ l)) h
def headWk (r : RecD) : List (List Nat) := [tl ("from" : Str), intL r.low, tl ("to" : Str), intL r.high]
def rowWk (x : List Nat × List Bool) : List (List Nat) := x.1 :: (runsB x.2).map pieceL
theorem nameL_W {n : List Nat} (h : NameL n) : NameW n := by
  obtain ⟨x, xs, e, _, hw⟩ := h
  exact ⟨x, xs, e, fun p hp => (hw p hp).1⟩
/-- a line of few short words -/
theorem line_len {x : List Nat} {xs : List (List Nat)} (hl : xs.length ≤ 42) (h : ∀ p ∈ x :: xs, p.length ≤ 64) : (joinL [32] (x :: xs)).length ≤ 2900 := by
  have := joinL_len [32] 64 x xs h
  have e : ([32] : List Nat).length = 1 := rfl
  rw [e] at this
  have : xs.length * (64 + 1) ≤ 42 * 65 := Nat.mul_le_mul_right _ hl
  omega
section
variable {r : RecD}
theorem headWk_ok (ok : RecOk r) : ∀ p ∈ headWk r, 32 ∉ p ∧ 10 ∉ p ∧ p.length ≤ 62 := fun p hp => by
  unfold headWk at hp
  simp only [List.mem_cons, List.not_mem_nil, or_false] at hp
  have h1 := few_len ok.low
  have h2 := few_len ok.high
  rcases hp with z | z | z | z <;> rw [z]
  · exact ⟨by decide +kernel, by decide +kernel, by decide +kernel⟩
  · exact ⟨intL_free (by decide), intL_free (by decide), by omega⟩
  · exact ⟨by decide +kernel, by decide +kernel, by decide +kernel⟩
  · exact ⟨intL_free (by decide), intL_free (by decide), by omega⟩
theorem rowWk_ok (ok : RecOk r) {x : List Nat × List Bool} (hx : x ∈ r.rows) : (runsB x.2).length ≤ 41 ∧ (∀ p ∈ runsB x.2, 1 ≤ p.1 ∧ p.1 ≤ 41) ∧ Apart (runsB x.2) ∧ expB (runsB x.2) = x.2 ∧ ∀ p ∈ rowWk x, 32 ∉ p ∧ 10 ∉ p ∧ p.length ≤ 62 := by
  obtain ⟨h1, h2⟩ := ok.row x hx
  have hs := ok.size
  have hrl := runs_len_le x.2 x.2.length (Nat.le_refl _)
  rw [List.take_length] at hrl
  obtain ⟨hexp, hap⟩ := runs_all x.2
  refine ⟨by omega, fun p hp => ⟨apart_pos hap p hp, by have := hrl.2 p hp; omega⟩, hap, hexp, fun p hp => ?_⟩
  rcases List.mem_cons.mp hp with z | z
  · rw [z]; exact ⟨name_free h1 run_signs.2.1 (by decide), name_free h1 run_signs.2.2 (by decide), name_len h1⟩
  · obtain ⟨q, hq, rfl⟩ := List.mem_map.mp z
    have := piece_len (p := q) (by have := hrl.2 q hq; omega)
    exact ⟨piece_free (by decide) (by decide), piece_free (by decide) (by decide), by omega⟩
theorem rowL_ok (ok : RecOk r) {x : List Nat × List Bool} (hx : x ∈ r.rows) : 10 ∉ rowL x ∧ (rowL x).length ≤ 2900 := by
  obtain ⟨h1, _, _, _, h5⟩ := rowWk_ok ok hx
  exact ⟨row_free (ok.row x hx).1, line_len (by rw [List.length_map]; omega) fun p hp => by have := (h5 p hp).2.2; omega⟩
theorem size_eq : r.high - r.low + 1 = (r.size : Int) := by unfold RecD.high; omega
/-- a row's line replaced by one that is none -/
theorem norec_row (ok : RecOk r) {k : Nat} (hk : k < r.rows.length) {x : List Nat} {xs : List (List Nat)} (hl : xs.length ≤ 42) (hw : ∀ p ∈ x :: xs, 10 ∉ p ∧ p.length ≤ 64)
    (no : ∀ y, RowV (r.size : Int) y → joinL [32] (x :: xs) = rowF y → False) : NoRec (textOf (headL r.low r.high :: (r.rows.map rowL).set k (joinL [32] (x :: xs)))) := by
  have hL := line_len hl fun p hp => (hw p hp).2
  have hrows := ok.rows
  have hmem : ∀ l ∈ headL r.low r.high :: (r.rows.map rowL).set k (joinL [32] (x :: xs)), 10 ∉ l ∧ l.length ≤ 2900 := fun l hl => by
    rcases List.mem_cons.mp hl with z | z
    · rw [z]; exact ⟨head_free, Nat.le_trans (head_len ok.low ok.high) (by decide)⟩
    · rcases List.mem_or_eq_of_mem_set z with z | z
      · obtain ⟨q, hq, rfl⟩ := List.mem_map.mp z
        exact rowL_ok ok hq
      · rw [z]; exact ⟨free_join (fun p hp => (hw p hp).1) (by decide), hL⟩
  refine norec_of (by simp) ?_ (fun l hl => (hmem l hl).1) fun lo hi rws e f1 f2 f3 hv => ?_
  · have := textOf_len _ 2900 fun l hl => (hmem l hl).2
    rw [List.length_cons, List.length_set, List.length_map] at this
    have : (r.rows.length + 1) * (2900 + 1) ≤ 5 * 2901 := Nat.mul_le_mul_right _ (by omega)
    omega
  · injection e with e1 e2
    obtain ⟨a, b⟩ := isHead_inj (Y := headL r.low r.high) ⟨rfl, ok.low, ok.high, by have := ok.one; unfold RecD.high; omega⟩ ⟨e1, f1, f2, f3⟩
    have e3 := congrArg (fun l => l[k]?) e2
    rw [List.getElem?_set_self (by rw [List.length_map]; exact hk), List.getElem?_map] at e3
    obtain ⟨y, hy, e4⟩ := Option.map_eq_some_iff.mp e3.symm
    have := hv y (List.mem_of_getElem? hy)
    rw [← a, ← b, size_eq] at this
    exact no y this e4.symm
/-- the first line replaced by one that is none -/
theorem norec_head (ok : RecOk r) {x : List Nat} {xs : List (List Nat)} (hl : xs.length ≤ 42) (hw : ∀ p ∈ x :: xs, 10 ∉ p ∧ p.length ≤ 64)
    (no : ∀ lo hi, Few lo → Few hi → lo ≤ hi → joinL [32] (x :: xs) = headL lo hi → False) : NoRec (textOf (joinL [32] (x :: xs) :: r.rows.map rowL)) := by
  have hL := line_len hl fun p hp => (hw p hp).2
  have hrows := ok.rows
  have hmem : ∀ l ∈ joinL [32] (x :: xs) :: r.rows.map rowL, 10 ∉ l ∧ l.length ≤ 2900 := fun l hl => by
    rcases List.mem_cons.mp hl with z | z
    · rw [z]; exact ⟨free_join (fun p hp => (hw p hp).1) (by decide), hL⟩
    · obtain ⟨q, hq, rfl⟩ := List.mem_map.mp z
      exact rowL_ok ok hq
  refine norec_of (by simp) ?_ (fun l hl => (hmem l hl).1) fun lo hi rws e f1 f2 f3 hv => ?_
  · have := textOf_len _ 2900 fun l hl => (hmem l hl).2
    rw [List.length_cons, List.length_map] at this
    have : (r.rows.length + 1) * (2900 + 1) ≤ 5 * 2901 := Nat.mul_le_mul_right _ (by omega)
    omega
  · injection e with e1 _
    exact no lo hi f1 f2 f3 e1
theorem head_wordsK {w0 : List Nat} {ws : List (List Nat)} {lo hi : Int} (hf : ∀ p ∈ w0 :: ws, 32 ∉ p) (f1 : Few lo) (f2 : Few hi) (f3 : lo ≤ hi) (e : joinL [32] (w0 :: ws) = headL lo hi) : w0 :: ws = [tl ("from" : Str), intL lo, tl ("to" : Str), intL hi] := head_words hf ⟨e, f1, f2, f3⟩
/-! ### the forms -/
def badH : List (List Nat) := [tl ("Fromo" : Str), tl ("o" : Str), tl ("too" : Str), tl ("tillo" : Str)]
theorem badH_ok : ∀ o ∈ badH, 32 ∉ o ∧ 10 ∉ o ∧ o.length ≤ 64 ∧ o ≠ tl ("from" : Str) ∧ o ≠ tl ("to" : Str) := by decide +kernel
theorem formK0 (ok : RecOk r) {o : List Nat} (ho : o ∈ badH) {j : Nat} (hj : j = 0 ∨ j = 2) : NoRec (textOf (joinL [32] ((headWk r).set j o) :: r.rows.map rowL)) := by
  obtain ⟨b1, b2, b3, b4, b5⟩ := badH_ok o ho
  have hw : ∀ p ∈ (headWk r).set j o, 32 ∉ p ∧ 10 ∉ p ∧ p.length ≤ 64 := fun p hp => by
    rcases List.mem_or_eq_of_mem_set hp with z | z
    · obtain ⟨q1, q2, q3⟩ := headWk_ok ok p z
      exact ⟨q1, q2, by omega⟩
    · rw [z]; exact ⟨b1, b2, b3⟩
  rcases hj with rfl | rfl
  · exact norec_head ok (x := o) (xs := [intL r.low, tl ("to" : Str), intL r.high]) (by show 3 ≤ 42; decide) (fun p hp => (hw p hp).2) fun lo hi f1 f2 f3 e => by
      have := head_wordsK (fun p hp => (hw p hp).1) f1 f2 f3 e
      injection this with h
      exact b4 h
  · exact norec_head ok (x := tl ("from" : Str)) (xs := [intL r.low, o, intL r.high]) (by show 3 ≤ 42; decide) (fun p hp => (hw p hp).2) fun lo hi f1 f2 f3 e => by
      have := head_wordsK (fun p hp => (hw p hp).1) f1 f2 f3 e
      injection this with _ h
      injection h with _ h
      injection h with h
      exact b5 h
def bad7 : List (List Nat) := [tl ("007" : Str), tl ("+7" : Str), [], tl ("-0" : Str), List.replicate 61 49, tl ("x" : Str), tl ("7.0" : Str)]
theorem bad7_ok : ∀ o ∈ bad7, 32 ∉ o ∧ 10 ∉ o ∧ o.length ≤ 61 := by decide +kernel
theorem bad7_no {o : List Nat} (ho : o ∈ bad7) : ∀ i, ¬ IsInt o i := fun i h => by
  have hb := int_back h.1
  rw [← h.2] at hb
  have hd := h.2
  have one : ∀ j, PySem.intText? (mk o) = some j → o ≠ intL j → False := fun j hj hne => by
    rw [hb] at hj
    injection hj with hj
    exact hne (by rw [← hj]; exact hd)
  have nope : PySem.intText? (mk o) = none → False := fun hj => by rw [hb] at hj; cases hj
  simp only [bad7, List.mem_cons, List.not_mem_nil, or_false] at ho
  rcases ho with z | z | z | z | z | z | z
  · exact one 7 (by rw [z]; decide +kernel) (by rw [z]; decide +kernel)
  · exact one 7 (by rw [z]; decide +kernel) (by rw [z]; decide +kernel)
  · exact nope (by rw [z]; decide +kernel)
  · exact one 0 (by rw [z]; decide +kernel) (by rw [z]; decide +kernel)
  · have hl := few_digits h.1
    have hu := undash_int i
    rw [← hd, z] at hu
    have := congrArg List.length hu
    have e : (undash (List.replicate 61 49)).length = 61 := by decide +kernel
    omega
  · exact nope (by rw [z]; decide +kernel)
  · exact nope (by rw [z]; decide +kernel)
theorem formK1 (ok : RecOk r) {o : List Nat} (ho : o ∈ bad7) {j : Nat} (hj : j = 1 ∨ j = 3) : NoRec (textOf (joinL [32] ((headWk r).set j o) :: r.rows.map rowL)) := by
  obtain ⟨b1, b2, b3⟩ := bad7_ok o ho
  have hw : ∀ p ∈ (headWk r).set j o, 32 ∉ p ∧ 10 ∉ p ∧ p.length ≤ 64 := fun p hp => by
    rcases List.mem_or_eq_of_mem_set hp with z | z
    · obtain ⟨q1, q2, q3⟩ := headWk_ok ok p z
      exact ⟨q1, q2, by omega⟩
    · rw [z]; exact ⟨b1, b2, by omega⟩
  rcases hj with rfl | rfl
  · exact norec_head ok (x := tl ("from" : Str)) (xs := [o, tl ("to" : Str), intL r.high]) (by show 3 ≤ 42; decide) (fun p hp => (hw p hp).2) fun lo hi f1 f2 f3 e => by
      have := head_wordsK (fun p hp => (hw p hp).1) f1 f2 f3 e
      injection this with _ h
      injection h with h
      exact bad7_no ho lo ⟨f1, h⟩
  · exact norec_head ok (x := tl ("from" : Str)) (xs := [intL r.low, tl ("to" : Str), o]) (by show 3 ≤ 42; decide) (fun p hp => (hw p hp).2) fun lo hi f1 f2 f3 e => by
      have := head_wordsK (fun p hp => (hw p hp).1) f1 f2 f3 e
      injection this with _ h
      injection h with _ h
      injection h with _ h
      injection h with h
      exact bad7_no ho hi ⟨f2, h⟩
theorem formK2 (ok : RecOk r) (hlen : (intL (r.low - 1)).length ≤ 64) : NoRec (textOf (joinL [32] ((headWk r).set 3 (intL (r.low - 1))) :: r.rows.map rowL)) := by
  have hw : ∀ p ∈ (headWk r).set 3 (intL (r.low - 1)), 32 ∉ p ∧ 10 ∉ p ∧ p.length ≤ 64 := fun p hp => by
    rcases List.mem_or_eq_of_mem_set hp with z | z
    · obtain ⟨q1, q2, q3⟩ := headWk_ok ok p z
      exact ⟨q1, q2, by omega⟩
    · rw [z]; exact ⟨intL_free (by decide), intL_free (by decide), hlen⟩
  exact norec_head ok (x := tl ("from" : Str)) (xs := [intL r.low, tl ("to" : Str), intL (r.low - 1)]) (by show 3 ≤ 42; decide) (fun p hp => (hw p hp).2) fun lo hi f1 f2 f3 e => by
    have := head_wordsK (fun p hp => (hw p hp).1) f1 f2 f3 e
    injection this with _ h
    injection h with h1 h
    injection h with _ h
    injection h with h3
    have := intL_inj h1
    have := intL_inj h3
    omega
def badNm : List (List Nat) := [tl ("7a" : Str), tl ("A" : Str), [], tl ("a/" : Str), tl ("/a" : Str), tl ("a//b" : Str), tl ("_a" : Str), tl ("a-b" : Str)]
theorem badNm_ok : ∀ o ∈ badNm, 32 ∉ o ∧ 10 ∉ o ∧ o.length ≤ 64 := by decide +kernel
theorem badNm_no {o : List Nat} (ho : o ∈ badNm) : ¬ NameW o := fun h => by
  have go : ∀ (y : List Nat) (ys : List (List Nat)), o = joinL [47] (y :: ys) → (∀ p ∈ y :: ys, 47 ∉ p) → (∃ p ∈ y :: ys, isWord p = false) → False := fun y ys e hf ⟨p, hp, hn⟩ => by
    subst e
    have := nameW_words hf h p hp
    rw [hn] at this; cases this
  unfold badNm at ho
  simp only [List.mem_cons, List.not_mem_nil, or_false] at ho
  rcases ho with z | z | z | z | z | z | z | z
  · exact go (tl ("7a" : Str)) [] z (by decide +kernel) ⟨_, List.mem_cons_self, by decide +kernel⟩
  · exact go (tl ("A" : Str)) [] z (by decide +kernel) ⟨_, List.mem_cons_self, by decide +kernel⟩
  · exact go [] [] z (by decide +kernel) ⟨_, List.mem_cons_self, by decide +kernel⟩
  · exact go (tl ("a" : Str)) [[]] (by rw [z]; decide +kernel) (by decide +kernel) ⟨[], by simp, by decide +kernel⟩
  · exact go [] [tl ("a" : Str)] (by rw [z]; decide +kernel) (by decide +kernel) ⟨_, List.mem_cons_self, by decide +kernel⟩
  · exact go (tl ("a" : Str)) [[], tl ("b" : Str)] (by rw [z]; decide +kernel) (by decide +kernel) ⟨[], by simp, by decide +kernel⟩
  · exact go (tl ("_a" : Str)) [] z (by decide +kernel) ⟨_, List.mem_cons_self, by decide +kernel⟩
  · exact go (tl ("a-b" : Str)) [] z (by decide +kernel) ⟨_, List.mem_cons_self, by decide +kernel⟩
end
end G
namespace G
open PySem PySem.Spec PyProof.Rows L2 Evl TL
theorem piece_at {fs y2 : List (Nat × Bool)} {j : Nat} {L : List Nat} (h : (fs.map pieceL).set j L = y2.map pieceL) (hj : j < fs.length) : ∃ q ∈ y2, L = pieceL q := by
  have e := congrArg (fun l => l[j]?) h
  rw [List.getElem?_set_self (by rw [List.length_map]; exact hj), List.getElem?_map] at e
  obtain ⟨q, hq, e2⟩ := Option.map_eq_some_iff.mp e.symm
  exact ⟨q, List.mem_of_getElem? hq, e2.symm⟩
theorem sum_set : ∀ {fs : List (Nat × Bool)} {j m : Nat} {b c : Bool} {n : Nat}, fs[j]? = some (m, b) → ((fs.set j (n, c)).map (·.1)).sum + m = (fs.map (·.1)).sum + n
  | p :: fs, 0, m, b, c, n, h => by
    have h : some p = some (m, b) := h
    injection h with h
    subst h
    show n + (fs.map (·.1)).sum + m = m + (fs.map (·.1)).sum + n
    omega
  | p :: fs, j + 1, m, b, c, n, h => by
    have := sum_set (fs := fs) (j := j) (c := c) (n := n) h
    show p.1 + ((fs.set j (n, c)).map (·.1)).sum + m = p.1 + (fs.map (·.1)).sum + n
    omega
section
variable {r : RecD} {k : Nat} {x : List Nat × List Bool}
theorem exp_size (ok : RecOk r) (hx : x ∈ r.rows) : ((runsB x.2).map (·.1)).sum = r.size := by
  obtain ⟨_, _, _, h4, _⟩ := rowWk_ok ok hx
  rw [← exp_sum, h4]
  exact (ok.row x hx).2
/-- any words in place of a row's -/
theorem words_row (ok : RecOk r) (hx : r.rows[k]? = some x) {w : List Nat} {ws : List (List Nat)} (hl : ws.length ≤ 42) (hw : ∀ p ∈ w :: ws, 32 ∉ p ∧ 10 ∉ p ∧ p.length ≤ 64)
    (no : ∀ y1 y2, NameW y1 → Apart y2 → (expB y2).length = r.size → w = y1 → ws = y2.map pieceL → False) : NoRec (textOf (headL r.low r.high :: (r.rows.map rowL).set k (joinL [32] (w :: ws)))) :=
  norec_row ok (List.getElem?_eq_some_iff.mp hx).1 hl (fun p hp => (hw p hp).2) fun y hy e => by
    obtain ⟨e1, e2⟩ := words_of (fun p hp => (hw p hp).1) hy.1 e
    exact no y.1 y.2 hy.1 hy.2.1 (by have := hy.2.2.2; omega) e1 e2
theorem set_eq {x : List Nat × List Bool} {j : Nat} {L : List Nat} : (rowWk x).set (1 + j) L = x.1 :: ((runsB x.2).map pieceL).set j L := by
  rw [Nat.add_comm]; rfl
theorem set_row (ok : RecOk r) (hx : r.rows[k]? = some x) {j : Nat} {L : List Nat} (hL : 32 ∉ L ∧ 10 ∉ L ∧ L.length ≤ 64)
    (no : ∀ y2, Apart y2 → (expB y2).length = r.size → ((runsB x.2).map pieceL).set j L = y2.map pieceL → False) : NoRec (textOf (headL r.low r.high :: (r.rows.map rowL).set k (joinL [32] ((rowWk x).set (1 + j) L)))) := by
  obtain ⟨h1, _, _, _, h5⟩ := rowWk_ok ok (List.mem_of_getElem? hx)
  rw [set_eq]
  refine words_row ok hx (by rw [List.length_set, List.length_map]; omega) (fun p hp => ?_) fun y1 y2 _ a b _ e => no y2 a b e
  rw [← set_eq] at hp
  rcases List.mem_or_eq_of_mem_set hp with z | z
  · obtain ⟨q1, q2, q3⟩ := h5 p z
    exact ⟨q1, q2, by omega⟩
  · rw [z]; exact hL
theorem formK3 (ok : RecOk r) (hx : r.rows[k]? = some x) {o : List Nat} (ho : o ∈ badNm) : NoRec (textOf (headL r.low r.high :: (r.rows.map rowL).set k (joinL [32] ((rowWk x).set 0 o)))) := by
  obtain ⟨h1, _, _, _, h5⟩ := rowWk_ok ok (List.mem_of_getElem? hx)
  refine words_row ok hx (w := o) (ws := (runsB x.2).map pieceL) (by rw [List.length_map]; omega) (fun p hp => ?_) fun y1 y2 a _ _ e _ => badNm_no ho (e ▸ a)
  rcases List.mem_cons.mp hp with z | z
  · rw [z]; exact badNm_ok o ho
  · obtain ⟨q1, q2, q3⟩ := h5 p (List.mem_cons_of_mem _ z)
    exact ⟨q1, q2, by omega⟩
theorem bit_free (b : Bool) {s : Nat} (h : s = 32 ∨ s = 10 ∨ s = 120) : s ∉ [bitL b] := by
  rcases h with z | z | z <;> rw [z] <;> cases b <;> decide
variable {j m : Nat} {b : Bool}
theorem numL_few {n : Nat} (h : n < 1000) : (numL n).length ≤ 3 := numL_len (k := 3) (by decide) h
theorem piece_ok (n : Nat) (b : Bool) (h : n < 1000) : 32 ∉ pieceL (n, b) ∧ 10 ∉ pieceL (n, b) ∧ (pieceL (n, b)).length ≤ 64 := ⟨piece_free (by decide) (by decide), piece_free (by decide) (by decide), by have := piece_len (p := (n, b)) h; omega⟩
theorem formK4 (ok : RecOk r) (hx : r.rows[k]? = some x) (hj : (runsB x.2)[j]? = some (m, b)) : NoRec (textOf (headL r.low r.high :: (r.rows.map rowL).set k (joinL [32] ((rowWk x).set (1 + j) (pieceL (m + 1, b)))))) := by
  have hm := (rowWk_ok ok (List.mem_of_getElem? hx)).2.1 _ (List.mem_of_getElem? hj)
  have hm2 : m ≤ 41 := hm.2
  refine set_row ok hx (piece_ok _ _ (by omega)) fun y2 _ hs e => ?_
  rw [← List.map_set] at e
  have e := pieces_inj e
  have h1 := exp_size ok (List.mem_of_getElem? hx)
  have h2 := sum_set (n := m + 1) (c := b) hj
  rw [e, ← exp_sum, hs] at h2
  omega
theorem insert_ok (ok : RecOk r) (hx : r.rows[k]? = some x) {L : List Nat} {A B : List (List Nat)} (hAB : (runsB x.2).map pieceL = A ++ B) (hL : 32 ∉ L ∧ 10 ∉ L ∧ L.length ≤ 64)
    (no : ∀ y2, Apart y2 → (expB y2).length = r.size → A ++ L :: B = y2.map pieceL → False) : NoRec (textOf (headL r.low r.high :: (r.rows.map rowL).set k (joinL [32] (x.1 :: (A ++ L :: B))))) := by
  obtain ⟨h1, _, _, _, h5⟩ := rowWk_ok ok (List.mem_of_getElem? hx)
  have hl := congrArg List.length hAB
  rw [List.length_map, List.length_append] at hl
  refine words_row ok hx (by rw [List.length_append, List.length_cons]; omega) (fun p hp => ?_) fun y1 y2 _ a b _ e => no y2 a b e
  have old : p ∈ x.1 :: (A ++ B) → 32 ∉ p ∧ 10 ∉ p ∧ p.length ≤ 64 := fun z => by
    rw [← hAB] at z
    obtain ⟨q1, q2, q3⟩ := h5 p z
    exact ⟨q1, q2, by omega⟩
  rcases List.mem_cons.mp hp with z | z
  · exact old (by rw [z]; exact List.mem_cons_self)
  · rcases List.mem_append.mp z with z | z
    · exact old (List.mem_cons_of_mem _ (List.mem_append_left _ z))
    · rcases List.mem_cons.mp z with z | z
      · rw [z]; exact hL
      · exact old (List.mem_cons_of_mem _ (List.mem_append_right _ z))
theorem formK5 (ok : RecOk r) (hx : r.rows[k]? = some x) (j : Nat) (c : Bool) : NoRec (textOf (headL r.low r.high :: (r.rows.map rowL).set k (joinL [32] ((rowWk x).take (1 + j) ++ [pieceL (0, c)] ++ (rowWk x).drop (1 + j))))) := by
  have e : (rowWk x).take (1 + j) ++ [pieceL (0, c)] ++ (rowWk x).drop (1 + j) = x.1 :: (((runsB x.2).map pieceL).take j ++ pieceL (0, c) :: ((runsB x.2).map pieceL).drop j) := by
    rw [Nat.add_comm]; unfold rowWk; rw [List.take_succ_cons, List.drop_succ_cons]; simp
  rw [e]
  refine insert_ok ok hx (List.take_append_drop _ _).symm (piece_ok _ _ (by decide)) fun y2 ha _ e => ?_
  have hm : pieceL (0, c) ∈ y2.map pieceL := by rw [← e]; simp
  obtain ⟨q, hq, e2⟩ := List.mem_map.mp hm
  have := pieceL_inj e2
  have := apart_pos ha q hq
  subst q
  have : 1 ≤ 0 := this
  omega
def bad6 : List (List Nat) := [tl ("2" : Str), [], tl ("01" : Str), tl ("x1" : Str)]
theorem bad6_ok : ∀ o ∈ bad6, 32 ∉ o ∧ 10 ∉ o ∧ o.length ≤ 10 ∧ ∀ b, o ≠ [bitL b] := by decide +kernel
theorem formK6 (ok : RecOk r) (hx : r.rows[k]? = some x) (hj : (runsB x.2)[j]? = some (m, b)) {o : List Nat} (ho : o ∈ bad6) : NoRec (textOf (headL r.low r.high :: (r.rows.map rowL).set k (joinL [32] ((rowWk x).set (1 + j) (numL m ++ 120 :: o))))) := by
  have hm := (rowWk_ok ok (List.mem_of_getElem? hx)).2.1 _ (List.mem_of_getElem? hj)
  have hm2 : m ≤ 41 := hm.2
  obtain ⟨b1, b2, b3, b4⟩ := bad6_ok o ho
  have hl := numL_few (n := m) (by omega)
  refine set_row ok hx ⟨fun z => ?_, fun z => ?_, by rw [List.length_append, List.length_cons]; omega⟩ fun y2 _ _ e => ?_
  · rcases List.mem_append.mp z with z | z
    · exact numL_free (by decide) z
    · rcases List.mem_cons.mp z with z | z
      · exact absurd z (by decide)
      · exact b1 z
  · rcases List.mem_append.mp z with z | z
    · exact numL_free (by decide) z
    · rcases List.mem_cons.mp z with z | z
      · exact absurd z (by decide)
      · exact b2 z
  · obtain ⟨q, _, e2⟩ := piece_at e (List.getElem?_eq_some_iff.mp hj).1
    exact b4 q.2 (piece_cut (numL_free (by decide)) e2).2
theorem bad7_num : ∀ n < 42, numL n ∉ bad7 := by decide +kernel
theorem formK7 (ok : RecOk r) (hx : r.rows[k]? = some x) (hj : (runsB x.2)[j]? = some (m, b)) {o : List Nat} (ho : o ∈ bad7) : NoRec (textOf (headL r.low r.high :: (r.rows.map rowL).set k (joinL [32] ((rowWk x).set (1 + j) (o ++ [120, bitL b]))))) := by
  obtain ⟨b1, b2, b3⟩ := bad7_ok o ho
  have hsz := ok.size
  refine set_row ok hx ⟨fun z => ?_, fun z => ?_, by rw [List.length_append]; show _ + 2 ≤ 64; omega⟩ fun y2 ha hs e => ?_
  · rcases List.mem_append.mp z with z | z
    · exact b1 z
    · revert z; cases b <;> decide
  · rcases List.mem_append.mp z with z | z
    · exact b2 z
    · revert z; cases b <;> decide
  · obtain ⟨q, hq, e2⟩ := piece_at e (List.getElem?_eq_some_iff.mp hj).1
    have hq2 := (exp_len _ ha).2 q hq
    by_cases hox : o = tl ("x" : Str)
    · have : ([] : List Nat) ++ 120 :: [120, bitL b] = pieceL q := by rw [← e2, hox]; rfl
      exact numL_ne q.1 (piece_cut (by simp) this).1.symm
    · have h120 : 120 ∉ o := (by decide +kernel : ∀ o ∈ bad7, o ≠ tl ("x" : Str) → 120 ∉ o) o ho hox
      have := (piece_cut h120 e2).1
      exact bad7_num q.1 (by omega) (this ▸ ho)
theorem formK8 (ok : RecOk r) (hx : r.rows[k]? = some x) : NoRec (textOf (headL r.low r.high :: (r.rows.map rowL).set k (joinL [32] ((rowWk x).take 1)))) := by
  obtain ⟨_, _, _, _, h5⟩ := rowWk_ok ok (List.mem_of_getElem? hx)
  have ho := ok.one
  refine words_row ok hx (w := x.1) (ws := []) (Nat.zero_le _) (fun p hp => ?_) fun y1 y2 _ a b _ e => ?_
  · obtain ⟨q1, q2, q3⟩ := h5 p (by rw [List.mem_singleton.mp hp]; exact List.mem_cons_self)
    exact ⟨q1, q2, by omega⟩
  · cases y2 with
    | nil =>
      have b : 0 = r.size := b
      omega
    | cons p l => cases e
theorem formK9 (ok : RecOk r) (hx : r.rows[k]? = some x) (c : Bool) : NoRec (textOf (headL r.low r.high :: (r.rows.map rowL).set k (joinL [32] (rowWk x ++ [pieceL (1, c)])))) := by
  refine insert_ok ok hx (L := pieceL (1, c)) (A := (runsB x.2).map pieceL) (B := []) (List.append_nil _).symm (piece_ok _ _ (by decide)) fun y2 ha hs e => ?_
  have e3 : (runsB x.2 ++ [(1, c)]).map pieceL = y2.map pieceL := by rw [← e, List.map_append]; rfl
  have e4 := pieces_inj e3
  have h1 := exp_size ok (List.mem_of_getElem? hx)
  rw [← e4, exp_sum, List.map_append, List.sum_append] at hs
  have hs : _ + (1 + 0) = r.size := hs
  omega
theorem no_x {N : List Nat} {q : Nat × Bool} (h : 120 ∉ N) (e : N = pieceL q) : False := h (e ▸ piece_x q)
theorem formK10 (ok : RecOk r) (hx : r.rows[k]? = some x) (hj : (runsB x.2)[j]? = some (m, b)) {o : List Nat} (ho : o = [] ∨ o = [32] ∨ o = [121]) : NoRec (textOf (headL r.low r.high :: (r.rows.map rowL).set k (joinL [32] ((rowWk x).set (1 + j) (numL m ++ o ++ [bitL b]))))) := by
  have hm := (rowWk_ok ok (List.mem_of_getElem? hx)).2.1 _ (List.mem_of_getElem? hj)
  have hm2 : m ≤ 41 := hm.2
  have hl := numL_few (n := m) (by omega)
  have hjl := (List.getElem?_eq_some_iff.mp hj).1
  have n32 : 32 ∉ numL m := numL_free (by decide)
  have n10 : 10 ∉ numL m := numL_free (by decide)
  have n120 : 120 ∉ numL m := numL_free (by decide)
  by_cases h32 : o = [32]
  · subst h32
    obtain ⟨h1, _, _, _, h5⟩ := rowWk_ok ok (List.mem_of_getElem? hx)
    have es : (rowWk x).set (1 + j) (numL m ++ [32] ++ [bitL b]) = (x.1 :: ((runsB x.2).map pieceL).take j) ++ (numL m ++ [32] ++ [bitL b]) :: ((runsB x.2).map pieceL).drop (j + 1) := by
      rw [set_eq, List.set_eq_take_append_cons_drop, if_pos (by rw [List.length_map]; exact hjl)]; rfl
    rw [es, join_two]
    have hAB := (List.take_append_drop j ((runsB x.2).map pieceL))
    refine words_row ok hx (w := x.1) (ws := ((runsB x.2).map pieceL).take j ++ numL m :: [bitL b] :: ((runsB x.2).map pieceL).drop (j + 1)) ?_ (fun p hp => ?_) fun y1 y2 _ _ _ _ e => ?_
    · rw [List.length_append, List.length_cons, List.length_cons, List.length_take, List.length_drop, List.length_map]; omega
    · have old : p ∈ rowWk x → 32 ∉ p ∧ 10 ∉ p ∧ p.length ≤ 64 := fun z => by
        obtain ⟨q1, q2, q3⟩ := h5 p z
        exact ⟨q1, q2, by omega⟩
      rcases List.mem_cons.mp hp with z | z
      · exact old (by rw [z]; exact List.mem_cons_self)
      · rcases List.mem_append.mp z with z | z
        · exact old (List.mem_cons_of_mem _ (List.mem_of_mem_take z))
        · rcases List.mem_cons.mp z with z | z
          · rw [z]; exact ⟨n32, n10, by omega⟩
          · rcases List.mem_cons.mp z with z | z
            · rw [z]; exact ⟨bit_free b (by decide), bit_free b (by decide), by show 1 ≤ 64; decide⟩
            · exact old (List.mem_cons_of_mem _ (List.mem_of_mem_drop z))
    · have hm : numL m ∈ y2.map pieceL := by rw [← e]; simp
      obtain ⟨q, _, e2⟩ := List.mem_map.mp hm
      exact no_x n120 e2.symm
  · have hfree : ∀ s, s = 32 ∨ s = 10 ∨ s = 120 → s ∉ numL m ++ o ++ [bitL b] := fun s hs z => by
      rcases List.mem_append.mp z with z | z
      · rcases List.mem_append.mp z with z | z
        · rcases hs with q | q | q <;> rw [q] at z
          · exact n32 z
          · exact n10 z
          · exact n120 z
        · rcases ho with q | q | q
          · rw [q] at z; cases z
          · exact h32 q
          · rw [q] at z
            have := List.mem_singleton.mp z
            rcases hs with w | w | w <;> omega
      · exact bit_free b hs z
    have hol : o.length ≤ 1 := by rcases ho with z | z | z <;> rw [z] <;> decide
    refine set_row ok hx ⟨hfree 32 (by decide), hfree 10 (by decide), by rw [List.length_append, List.length_append]; show _ + 1 ≤ 64; omega⟩ fun y2 _ _ e => ?_
    obtain ⟨q, _, e2⟩ := piece_at e hjl
    exact no_x (hfree 120 (by decide)) e2
theorem formK11 (ok : RecOk r) (hx : r.rows[k]? = some x) : NoRec (textOf (headL r.low r.high :: (r.rows.map rowL).set k (joinL [32] ((rowWk x).set 0 (x.1 ++ [32]))))) := by
  obtain ⟨h1, _, _, _, h5⟩ := rowWk_ok ok (List.mem_of_getElem? hx)
  have es : (rowWk x).set 0 (x.1 ++ [32]) = [] ++ (x.1 ++ [32] ++ []) :: (runsB x.2).map pieceL := by rw [List.append_nil]; rfl
  rw [es, join_two]
  refine words_row ok hx (w := x.1) (ws := [] :: (runsB x.2).map pieceL) (by rw [List.length_cons, List.length_map]; omega) (fun p hp => ?_) fun y1 y2 _ _ _ _ e => ?_
  · have old : p ∈ rowWk x → 32 ∉ p ∧ 10 ∉ p ∧ p.length ≤ 64 := fun z => by
      obtain ⟨q1, q2, q3⟩ := h5 p z
      exact ⟨q1, q2, by omega⟩
    rcases List.mem_cons.mp hp with z | z
    · exact old (by rw [z]; exact List.mem_cons_self)
    · rcases List.mem_cons.mp z with z | z
      · rw [z]; exact ⟨by simp, by simp, by decide⟩
      · exact old (List.mem_cons_of_mem _ z)
  · have hm : ([] : List Nat) ∈ y2.map pieceL := by rw [← e]; simp
    obtain ⟨q, _, e2⟩ := List.mem_map.mp hm
    exact no_x (by simp) e2.symm
/-- the first piece of the first row in two -/
theorem formKD (ok : RecOk r) (hx : r.rows[k]? = some x) {fs : List (Nat × Bool)} (hr : runsB x.2 = (m, b) :: fs) (h2 : 2 ≤ m) : NoRec (textOf (headL r.low r.high :: (r.rows.map rowL).set k (joinL [32] ([x.1] ++ [pieceL (1, b), pieceL (m - 1, b)] ++ fs.map pieceL)))) := by
  obtain ⟨h1, hq, _, _, h5⟩ := rowWk_ok ok (List.mem_of_getElem? hx)
  have hm : m ≤ 41 := (hq (m, b) (by rw [hr]; exact List.mem_cons_self)).2
  have hl := congrArg List.length hr
  rw [List.length_cons] at hl
  refine words_row ok hx (w := x.1) (ws := pieceL (1, b) :: pieceL (m - 1, b) :: fs.map pieceL) (by rw [List.length_cons, List.length_cons, List.length_map]; omega) (fun p hp => ?_) fun y1 y2 _ ha _ _ e => ?_
  · have old : p ∈ rowWk x → 32 ∉ p ∧ 10 ∉ p ∧ p.length ≤ 64 := fun z => by
      obtain ⟨q1, q2, q3⟩ := h5 p z
      exact ⟨q1, q2, by omega⟩
    rcases List.mem_cons.mp hp with z | z
    · exact old (by rw [z]; exact List.mem_cons_self)
    · rcases List.mem_cons.mp z with z | z
      · rw [z]; exact piece_ok _ _ (by decide)
      · rcases List.mem_cons.mp z with z | z
        · rw [z]; exact piece_ok _ _ (by omega)
        · exact old (List.mem_cons_of_mem _ (by rw [hr]; exact List.mem_cons_of_mem _ z))
  · have e3 : ((1, b) :: (m - 1, b) :: fs).map pieceL = y2.map pieceL := e
    have e4 := pieces_inj e3
    rw [← e4] at ha
    exact ha.2.1 rfl
/-! ### whole texts -/
theorem text_end (r : RecD) : ∃ X, r.text = X ++ [10] := by
  have e : r.text = joinL [10] (headL r.low r.high :: r.rows.map rowL) ++ [10] := joinL_end [10] _ _
  exact ⟨_, e⟩
theorem lines_ok (ok : RecOk r) : ∀ l ∈ r.lines, 10 ∉ l ∧ l.length ≤ 2900 := fun l hl => by
  unfold RecD.lines at hl
  rcases List.mem_cons.mp hl with z | z
  · rw [z]; exact ⟨head_free, Nat.le_trans (head_len ok.low ok.high) (by decide)⟩
  · obtain ⟨q, hq, rfl⟩ := List.mem_map.mp z
    exact rowL_ok ok hq
theorem text_len (ok : RecOk r) : r.text.length ≤ 14505 := by
  have h := textOf_len r.lines 2900 fun l hl => (lines_ok ok l hl).2
  have hr := ok.rows
  have hl : r.lines.length ≤ 5 := by unfold RecD.lines; rw [List.length_cons, List.length_map]; omega
  have : r.lines.length * (2900 + 1) ≤ 5 * 2901 := Nat.mul_le_mul_right _ hl
  have e : r.text = textOf r.lines := rfl
  rw [e]; omega
theorem rec_of (ok : RecOk r) : IsRecK r.text r.low r.high (r.rows.map fun x => (x.1, runsB x.2)) := by
  refine ⟨?_, ok.low, ok.high, by have := ok.one; unfold RecD.high; omega, fun x hx => ?_⟩
  · show textOf (headL r.low r.high :: r.rows.map rowL) = _
    rw [List.map_map]; rfl
  · obtain ⟨q, hq, rfl⟩ := List.mem_map.mp hx
    obtain ⟨_, _, h3, h4, _⟩ := rowWk_ok ok hq
    obtain ⟨n1, n2⟩ := ok.row q hq
    have hs := ok.size
    refine ⟨nameL_W n1, h3, ?_, ?_⟩
    · show (expB (runsB q.2)).length ≤ 100000
      rw [h4]; omega
    · show ((expB (runsB q.2)).length : Int) = _
      rw [h4, n2, size_eq]
theorem rec_ends {Y : List Nat} {lo hi : Int} {rws : List (List Nat × List (Nat × Bool))} (h : IsRecK Y lo hi rws) : ∃ X, Y = X ++ [10] := ⟨_, h.1.trans (textOf_cons _ _)⟩
theorem norec_less (ok : RecOk r) {X : List Nat} (e : r.text = X ++ [10]) : NoRec X := by
  have hl := text_len ok
  rw [e, List.length_append] at hl
  have e2 : ([10] : List Nat).length = 1 := rfl
  refine ⟨by omega, fun lo hi rws h => ?_⟩
  obtain ⟨Z, hZ⟩ := rec_ends h
  have e3 : X = joinL [10] (headL r.low r.high :: r.rows.map rowL) := by
    have : r.text = joinL [10] (headL r.low r.high :: r.rows.map rowL) ++ [10] := joinL_end [10] _ _
    exact (List.append_inj' (e.symm.trans this) rfl).1
  -- the last line has a last sign, and that is no line feed
  have key : ∀ (a : List Nat) (ls : List (List Nat)), (∀ l ∈ a :: ls, 10 ∉ l ∧ l ≠ []) → ∀ W, joinL [10] (a :: ls) ≠ W ++ [10] := by
    intro a ls
    induction ls generalizing a with
    | nil =>
      intro h W q
      have q : a = W ++ [10] := q
      exact (h a List.mem_cons_self).1 (by rw [q]; simp)
    | cons c ls ih =>
      intro h W q
      have q : a ++ ([10] ++ joinL [10] (c :: ls)) = W ++ [10] := q
      rcases snoc_cases (joinL [10] (c :: ls)) with z | ⟨V, d, z⟩
      · have := joinL_part [10] c ls c List.mem_cons_self
        rw [z] at this
        exact (h c (by simp)).2 (List.eq_nil_of_length_eq_zero (by simpa using this))
      · rw [z, ← List.append_assoc, ← List.append_assoc] at q
        obtain ⟨_, q2⟩ := List.append_inj' q rfl
        exact ih c (fun l hl => h l (List.mem_cons_of_mem _ hl)) V (by rw [z, q2])
  refine key _ _ (fun l hl => ⟨(lines_ok ok l hl).1, fun z => ?_⟩) Z (by rw [← e3]; exact hZ)
  rcases List.mem_cons.mp hl with q | q
  · rw [z] at q
    exact absurd (congrArg List.length q) (by
      unfold headL
      have := joinL_part [32] (tl ("from" : Str)) [intL r.low, tl ("to" : Str), intL r.high] (tl ("from" : Str)) List.mem_cons_self
      have h4 : (tl ("from" : Str)).length = 4 := by decide +kernel
      show ¬ 0 = _
      omega)
  · obtain ⟨y, hy, e4⟩ := List.mem_map.mp q
    obtain ⟨n1, n2⟩ := ok.row y hy
    have := joinL_part [32] y.1 ((runsB y.2).map pieceL) y.1 List.mem_cons_self
    have e5 : rowL y = joinL [32] (y.1 :: (runsB y.2).map pieceL) := rfl
    rw [← e5, e4, z] at this
    have hn : y.1 = [] := List.eq_nil_of_length_eq_zero (by simpa using this)
    exact badNm_no (o := y.1) (by rw [hn]; decide +kernel) (nameL_W n1)
theorem norec_more (ok : RecOk r) : NoRec (r.text ++ [10]) := by
  have e : r.text ++ [10] = textOf (r.lines ++ [[]]) := by rw [textOf_app]; rfl
  have hl := text_len ok
  rw [e]
  refine norec_of (by simp) (by rw [← e, List.length_append]; show _ + 1 ≤ _; omega) (fun l hl => ?_) fun lo hi rws e2 _ _ _ hv => ?_
  · rcases List.mem_append.mp hl with z | z
    · exact (lines_ok ok l z).1
    · rw [List.mem_singleton.mp z]; simp
  · injection e2 with _ e3
    have hm : ([] : List Nat) ∈ rws.map rowF := by
      have e3 : r.rows.map rowL ++ [[]] = rws.map rowF := e3
      rw [← e3]; simp
    obtain ⟨y, hy, e4⟩ := List.mem_map.mp hm
    have := joinL_part [32] y.1 (y.2.map pieceL) y.1 List.mem_cons_self
    have e5 : rowF y = joinL [32] (y.1 :: y.2.map pieceL) := rfl
    rw [← e5, e4] at this
    have hn : y.1 = [] := List.eq_nil_of_length_eq_zero (by simpa using this)
    exact badNm_no (o := y.1) (by rw [hn]; decide +kernel) (hv y hy).1
theorem norec_first (ok : RecOk r) : NoRec (10 :: r.text) := by
  have e : 10 :: r.text = textOf ([] :: r.lines) := rfl
  have hl := text_len ok
  rw [e]
  refine norec_of (by simp) (by rw [← e, List.length_cons]; omega) (fun l hl => ?_) fun lo hi rws e2 _ _ _ hv => ?_
  · rcases List.mem_cons.mp hl with z | z
    · rw [z]; simp
    · exact (lines_ok ok l z).1
  · injection e2 with e3 _
    have := joinL_part [32] (tl ("from" : Str)) [intL lo, tl ("to" : Str), intL hi] (tl ("from" : Str)) List.mem_cons_self
    have h4 : (tl ("from" : Str)).length = 4 := by decide +kernel
    have e5 : headL lo hi = joinL [32] (tl ("from" : Str) :: [intL lo, tl ("to" : Str), intL hi]) := rfl
    rw [← e5, ← e3, h4] at this
    exact absurd this (by decide)
theorem norec_nil : NoRec [] := ⟨Nat.zero_le _, fun lo hi rws h => by
  obtain ⟨X, hX⟩ := rec_ends h
  have := congrArg List.length hX
  rw [List.length_append] at this
  have : 0 = X.length + 1 := this
  omega⟩
theorem norec_long : NoRec (tl ("from 0 to 100000\na 100001x1\n" : Str)) := by
  have e : tl ("from 0 to 100000\na 100001x1\n" : Str) = textOf [headL 0 100000, joinL [32] [tl ("a" : Str), pieceL (100001, true)]] := by decide +kernel
  rw [e]
  have hp : 32 ∉ pieceL (100001, true) ∧ 10 ∉ pieceL (100001, true) := ⟨piece_free (by decide) (by decide), piece_free (by decide) (by decide)⟩
  refine norec_of (by simp) (by rw [← e]; decide +kernel) (fun l hl => ?_) fun lo hi rws e2 _ _ _ hv => ?_
  · rcases List.mem_cons.mp hl with z | z
    · rw [z]; exact head_free
    · rw [List.mem_singleton.mp z]
      refine free_join (fun p hp2 => ?_) (by decide)
      rcases List.mem_cons.mp hp2 with q | q
      · rw [q]; decide +kernel
      · rw [List.mem_singleton.mp q]; exact hp.2
  · injection e2 with _ e3
    match rws, e3, hv with
    | [], e3, _ => cases e3
    | y :: l, e3, hv =>
      injection e3 with e3 _
      have hy := hv y List.mem_cons_self
      obtain ⟨_, e5⟩ := words_of (fun p hp2 => by
        rcases List.mem_cons.mp hp2 with q | q
        · rw [q]; decide +kernel
        · rw [List.mem_singleton.mp q]; exact hp.1) hy.1 e3
      have e6 : [(100001, true)].map pieceL = y.2.map pieceL := e5
      have := hy.2.2.1
      rw [← pieces_inj e6, exp_sum] at this
      have this : 100001 + 0 ≤ 100000 := this
      omega
end
end G
namespace G
open PySem PySem.Spec PyProof.Rows L2 Evl TL
theorem cutV_both {xs : List V} {i j : Nat} (h : i ≤ xs.length) (h2 : j ≤ xs.length) : cutV xs (some (i : Int)) (some (j : Int)) = (xs.drop i).take (j - i) := by
  unfold cutV
  rw [HT.sIx_nat, HT.sIx_nat, Nat.min_eq_left h, Nat.min_eq_left h2]
theorem strV_app (a b : List (List Nat)) : strV (a ++ b) = strV a ++ strV b := by unfold strV; rw [List.map_append]
theorem strV_len (a : List (List Nat)) : (strV a).length = a.length := by unfold strV; rw [List.length_map]
theorem strV_get {a : List (List Nat)} {k : Nat} {l : List Nat} (h : a[k]? = some l) : (strV a)[k]? = some (.str (mk l)) := by unfold strV; rw [List.getElem?_map, h]; rfl
theorem strV_take (a : List (List Nat)) (k : Nat) : (strV a).take k = strV (a.take k) := by unfold strV; rw [List.map_take]
theorem strV_drop (a : List (List Nat)) (k : Nat) : (strV a).drop k = strV (a.drop k) := by unfold strV; rw [List.map_drop]
theorem strV_set (a : List (List Nat)) (k : Nat) (o : List Nat) : (strV a).set k (.str (mk o)) = strV (a.set k o) := by unfold strV; rw [List.map_set]
theorem itemL {α : Type} {L : List α} {v : Nat} (h : v < L.length) : ∃ c, L[v]? = some c ∧ c ∈ L := ⟨L[v], List.getElem?_eq_getElem h, List.getElem_mem h⟩
theorem set_same {α : Type} {l : List α} {k : Nat} {x : α} (h : l[k]? = some x) : l.set k x = l := by
  refine List.ext_getElem? fun i => ?_
  by_cases e : i = k
  · subst e
    rw [List.getElem?_set_self (List.getElem?_eq_some_iff.mp h).1, h]
  · rw [List.getElem?_set_ne fun z => e z.symm]
theorem dv (v k : Nat) : decide (V.int (v : Int) = V.int (k : Int)) = decide (v = k) := by
  rw [Bool.eq_iff_iff, decide_eq_true_iff, decide_eq_true_iff]
  exact ⟨fun z => by have := V.int.inj z; omega, fun z => by rw [z]⟩
theorem k120 : (mk [120]).cps.all (· < 256) = true := by decide +kernel
theorem few_less {i : Int} (h : Few i) : (i - 1).natAbs.log2 < 1920 ∧ (intL (i - 1)).length ≤ 64 := by
  have h : i.natAbs < 10 ^ 60 := h
  constructor
  · have h1 : (i - 1).natAbs < 2 ^ 211 := Nat.lt_of_le_of_lt (by omega : (i - 1).natAbs ≤ i.natAbs + 1) (Nat.lt_of_le_of_lt h (by decide +kernel))
    have := PySem.Flt.log2_lt_of (by decide : 0 < 211) h1
    omega
  · have h2 : (i - 1).natAbs < 10 ^ 61 := Nat.lt_of_le_of_lt (by omega : (i - 1).natAbs ≤ i.natAbs + 1) (Nat.lt_of_le_of_lt h (by decide +kernel))
    unfold intL
    split
    · have := numL_len (n := (-(i - 1)).toNat) (k := 61) (by decide) (by rw [show (-(i - 1)).toNat = (i - 1).natAbs by omega]; exact h2)
      rw [List.length_cons]; omega
    · have := numL_len (n := (i - 1).toNat) (k := 61) (by decide) (by rw [show (i - 1).toNat = (i - 1).natAbs by omega]; exact h2)
      omega
/-- words of a line, few and short -/
def Bd (ww : List (List Nat)) : Prop := ∃ y ys, ww = y :: ys ∧ ys.length ≤ 60 ∧ ∀ p ∈ y :: ys, p.length ≤ 70
theorem Bd.set {ww : List (List Nat)} {j : Nat} {o : List Nat} (h : Bd ww) (ho : o.length ≤ 70) : Bd (ww.set j o) := by
  obtain ⟨y, ys, rfl, h1, h2⟩ := h
  cases j with
  | zero =>
    refine ⟨o, ys, rfl, h1, fun p hp => ?_⟩
    rcases List.mem_cons.mp hp with z | z
    · rw [z]; exact ho
    · exact h2 p (List.mem_cons_of_mem _ z)
  | succ j =>
    refine ⟨y, ys.set j o, rfl, by rw [List.length_set]; exact h1, fun p hp => ?_⟩
    rcases List.mem_cons.mp hp with z | z
    · rw [z]; exact h2 y List.mem_cons_self
    · rcases List.mem_or_eq_of_mem_set z with q | q
      · exact h2 p (List.mem_cons_of_mem _ q)
      · rw [q]; exact ho
theorem Bd.join {ww : List (List Nat)} (h : Bd ww) : Txt.join (" " : Str) (ww.map mk) = mk (joinL [32] ww) ∧ ((ww.map mk).map fun x => x.length).sum + ww.length ≤ 5000 := by
  obtain ⟨y, ys, rfl, h1, h2⟩ := h
  refine ⟨join_mk [32] y ys, ?_⟩
  have hs := sum_len (m := 70) (y :: ys) h2
  rw [List.length_cons] at hs ⊢
  have : (ys.length + 1) * 70 ≤ 61 * 70 := Nat.mul_le_mul_right _ (by omega)
  omega
structure Sts (r : RecD) (c hd wa pc : Addr) (hw ww pw : List (List Nat)) (H : Hp) : Prop where
  c : H c = some (.lst (strV r.lines))
  h : H hd = some (.lst (strV hw))
  w : H wa = some (.lst (strV ww))
  p : H pc = some (.lst (strV pw))
section
variable {r : RecD} {c hd wa pc p a : Addr} {hw ww pw : List (List Nat)} {H H' : Hp}
theorem Sts.ex (s : Sts r c hd wa pc hw ww pw H) (e : Ex H H') : Sts r c hd wa pc hw ww pw H' := ⟨e _ _ s.c, e _ _ s.h, e _ _ s.w, e _ _ s.p⟩
theorem lst_ne {q : Addr} {l : List (List Nat)} (hp : PoolOk p a H) (h : H q = some (.lst (strV l))) : q ≠ p := fun z => by
  obtain ⟨_, _, _, _, _, e, _⟩ := hp
  rw [z, e] at h
  cases l with
  | nil => cases h
  | cons x l => cases h
theorem Sts.px (s : Sts r c hd wa pc hw ww pw H) (x : Px p a H H') : Sts r c hd wa pc hw ww pw H' :=
  ⟨x.at_ (by rw [hid_ne (lst_ne x.was s.c)]; exact s.c), x.at_ (by rw [hid_ne (lst_ne x.was s.h)]; exact s.h), x.at_ (by rw [hid_ne (lst_ne x.was s.w)]; exact s.w), x.at_ (by rw [hid_ne (lst_ne x.was s.p)]; exact s.p)⟩
end
abbrev slK (p c hd wa pc : Addr) (v k' j : Nat) (o7 : List Nat) : L2.St := [some (.ref p), some (.ref c), some (.int (v : Nat)), some (.ref hd), some (.int (1 + (k' : Nat))), some (.ref wa), some (.int (1 + (j : Nat))), some (.ref pc), some (.str (mk o7))]
theorem slK_inj {p c hd wa wb pc : Addr} {v k' j : Nat} {o7 : List Nat} (h : slK p c hd wa pc v k' j o7 = slK p c hd wb pc v k' j o7) : wa = wb := by
  have e := congrArg (fun l : L2.St => l[5]?) h
  have e : some (some (V.ref wa)) = some (some (V.ref wb)) := e
  injection e with e
  injection e with e
  injection e
theorem Sts.seth {r : RecD} {c hd wa pc : Addr} {hw hw' ww pw : List (List Nat)} {H : Hp} (s : Sts r c hd wa pc hw ww pw H) (h1 : c ≠ hd) (h2 : hd ≠ wa) (h3 : hd ≠ pc) : Sts r c hd wa pc hw' ww pw (upd H hd (.lst (strV hw'))) :=
  ⟨by rw [upd_ne h1]; exact s.c, upd_same, by rw [upd_ne h2.symm]; exact s.w, by rw [upd_ne h3.symm]; exact s.p⟩
theorem Sts.setw {r : RecD} {c hd wa pc : Addr} {hw ww ww' pw : List (List Nat)} {H : Hp} (s : Sts r c hd wa pc hw ww pw H) (h1 : c ≠ wa) (h2 : hd ≠ wa) (h3 : wa ≠ pc) : Sts r c hd wa pc hw ww' pw (upd H wa (.lst (strV ww'))) :=
  ⟨by rw [upd_ne h1]; exact s.c, by rw [upd_ne h2]; exact s.h, upd_same, by rw [upd_ne h3.symm]; exact s.p⟩
/-- what stands behind the first k forms -/
def Mid (p a c hd wd pc : Addr) (r : RecD) (x : List Nat × List Bool) (k' j v : Nat) (pw : List (List Nat)) (o7 : List Nat) (H0 : Hp) (k : Nat) (σ : L2.St) (H' : Hp) : Prop :=
  ∃ (wa : Addr) (hw ww : List (List Nat)), Px p a H0 H' ∧ Sts r c hd wa pc hw ww pw H' ∧ Bd hw ∧ Bd ww ∧ σ = slK p c hd wa pc v k' j o7 ∧
    ((k ≤ v ∧ wa = wd ∧ hw = headWk r ∧ ww = rowWk x) ∨ (v < k ∧ NoRec (textOf (joinL [32] hw :: (r.rows.map rowL).set k' (joinL [32] ww)))))
section
variable {P : Program} {w : World} {K : PySem.W.Frag} {mg : Str → Option Value} {base : Heap}
def spSpoiltK : Sp := fun vs H Q _ => ∃ (p a c : Addr) (r : RecD), vs = [.ref p, .ref c] ∧ PoolOk p a H ∧ H c = some (.lst (strV r.lines)) ∧ RecOk r ∧ r.rows ≠ [] ∧ ∀ (d : Addr) (ls : List (List Nat)) (H' : Hp), Px p a H H' → H' d = some (.lst (strV ls)) → NoRec (textOf ls) → Q (.ref d) H'
theorem sc_law_spoilt : FnScope ["pool", "lines", "form", "head", "at", "words", "place", "piece", "bad"] ["pool", "lines"] (defScope s_law_spoilt) := ⟨rfl, rfl, rfl, by decide +kernel, rfl, by decide +kernel, by decide +kernel⟩
theorem ok_law_spoiltK (D : Dfd K mg "_law_spoilt" s_law_spoilt ["pool", "lines"]) (T : TxtS mg) (C1 : Has P w K mg base 2 "_law_draw" ["pool", "many"] spDrawX) : Has P w K mg base 3 "_law_spoilt" ["pool", "lines"] spSpoiltK := by
  obtain ⟨f_law_draw, d_law_draw, G_law_draw, g_law_draw, k_law_draw, b_law_draw⟩ := C1
  refine D.has fun f fd F => F.ok sc_law_spoilt (fun vs H Q E h => ?_) (fun cdv A outer s H vs Q E hr h => ?_)
  · obtain ⟨_, _, _, _, rfl, _⟩ := h
    rfl
  · obtain ⟨p, a, c, r, rfl, hp, hc, ok, hne, q⟩ := h
    refine ⟨_, (pss_cons (ps_set (i := 2) sc_law_spoilt.nd rfl (.inl rfl) (pe_call G_law_draw (hr.mono (by omega)) (by rfl) g_law_draw k_law_draw b_law_draw .nil pass0 (pa_cons (pv 0) (pa_cons pe_int pa_nil))))
    (pss_cons (ps_set (i := 3) sc_law_spoilt.nd rfl (.inl rfl) (pe_bm PySem.F.plainAttrs_str PySem.F.slot_str_split PySem.F.type_str_split mt_split (pe_ix ix_list (pv 1) pe_int (fun _ _ => rfl)) (pa_cons pe_str pa_nil)))
    (pss_cons (ps_set (i := 4) sc_law_spoilt.nd rfl (.inl rfl) (pe_op op_add pe_int (pe_call G_law_draw (hr.mono (by omega)) (by rfl) g_law_draw k_law_draw b_law_draw .nil pass0 (pa_cons (pv 0) (pa_cons (pe_op op_sub (pe_callB call_len_seq (by rfl) T.len (by decide +kernel) (pa_cons (pv 1) pa_nil)) pe_int) pa_nil)))))
    (pss_cons (ps_set (i := 5) sc_law_spoilt.nd rfl (.inl rfl) (pe_bm PySem.F.plainAttrs_str PySem.F.slot_str_split PySem.F.type_str_split mt_split (pe_ix ix_list (pv 1) (pv 4) (fun _ _ => rfl)) (pa_cons pe_str pa_nil)))
    (pss_cons (ps_set (i := 6) sc_law_spoilt.nd rfl (.inl rfl) (pe_op op_add pe_int (pe_call G_law_draw (hr.mono (by omega)) (by rfl) g_law_draw k_law_draw b_law_draw .nil pass0 (pa_cons (pv 0) (pa_cons (pe_op op_sub (pe_callB call_len_seq (by rfl) T.len (by decide +kernel) (pa_cons (pv 5) pa_nil)) pe_int) pa_nil)))))
    (pss_cons (ps_set (i := 7) sc_law_spoilt.nd rfl (.inl rfl) (pe_bm PySem.F.plainAttrs_str PySem.F.slot_str_split PySem.F.type_str_split mt_split (pe_ix ix_list (pv 5) (pv 6) (fun _ _ => rfl)) (pa_cons pe_str pa_nil)))
    (pss_cons (ps_set (i := 8) sc_law_spoilt.nd rfl (.inl rfl) (pe_ix ix_list (pe_lst (pa_cons pe_str (pa_cons pe_str (pa_cons pe_str (pa_cons pe_str (pa_cons (pe_op op_mulS pe_str pe_int) (pa_cons pe_str (pa_cons pe_str pa_nil)))))))) (pe_call G_law_draw (hr.mono (by omega)) (by rfl) g_law_draw k_law_draw b_law_draw .nil pass0 (pa_cons (pv 0) (pa_cons pe_int pa_nil))) (fun _ _ => rfl)))
    (pss_cut (ps_if (pt_cmpR op_eq (pv 2) pe_int (nomark _))
      (pss_one (ps_asg (pe_op op_add_str (pe_ix ix_list (pe_lst (pa_cons pe_str (pa_cons pe_str (pa_cons pe_str (pa_cons pe_str pa_nil))))) (pe_call G_law_draw (hr.mono (by omega)) (by rfl) g_law_draw k_law_draw b_law_draw .nil pass0 (pa_cons (pv 0) (pa_cons pe_int pa_nil))) (fun _ _ => rfl)) pe_str) (pg_sub (pv 3) (pe_ix ix_list (pe_lst (pa_cons pe_int (pa_cons pe_int pa_nil))) (pe_call G_law_draw (hr.mono (by omega)) (by rfl) g_law_draw k_law_draw b_law_draw .nil pass0 (pa_cons (pv 0) (pa_cons pe_int pa_nil))) (fun _ _ => rfl)) set_list)))
      pss_nil)
    (pss_cut (ps_if (pt_cmpR op_eq (pv 2) pe_int (nomark _))
      (pss_one (ps_asg (pv 8) (pg_sub (pv 3) (pe_ix ix_list (pe_lst (pa_cons pe_int (pa_cons pe_int pa_nil))) (pe_call G_law_draw (hr.mono (by omega)) (by rfl) g_law_draw k_law_draw b_law_draw .nil pass0 (pa_cons (pv 0) (pa_cons pe_int pa_nil))) (fun _ _ => rfl)) set_list)))
      pss_nil)
    (pss_cut (ps_if (pt_cmpR op_eq (pv 2) pe_int (nomark _))
      (pss_one (ps_asg (pe_callTy call_str_int (by rfl) T.str (by decide +kernel) (pa_cons (pe_op op_sub (pe_callTy call_int_str (by rfl) T.int (by decide +kernel) (pa_cons (pe_ix ix_list (pv 3) pe_int (fun _ _ => rfl)) pa_nil)) pe_int) pa_nil)) (pg_sub (pv 3) pe_int set_list)))
      pss_nil)
    (pss_cut (ps_if (pt_cmpR op_eq (pv 2) pe_int (nomark _))
      (pss_one (ps_asg (pe_ix ix_list (pe_lst (pa_cons pe_str (pa_cons pe_str (pa_cons pe_str (pa_cons pe_str (pa_cons pe_str (pa_cons pe_str (pa_cons pe_str (pa_cons pe_str pa_nil))))))))) (pe_call G_law_draw (hr.mono (by omega)) (by rfl) g_law_draw k_law_draw b_law_draw .nil pass0 (pa_cons (pv 0) (pa_cons pe_int pa_nil))) (fun _ _ => rfl)) (pg_sub (pv 5) pe_int set_list)))
      pss_nil)
    (pss_cut (ps_if (pt_cmpR op_eq (pv 2) pe_int (nomark _))
      (pss_one (ps_asg (pe_op op_add_str (pe_op op_add_str (pe_callTy call_str_int (by rfl) T.str (by decide +kernel) (pa_cons (pe_op op_add (pe_callTy call_int_str (by rfl) T.int (by decide +kernel) (pa_cons (pe_ix ix_list (pv 7) pe_int (fun _ _ => rfl)) pa_nil)) pe_int) pa_nil)) pe_str) (pe_ix ix_list (pv 7) pe_int (fun _ _ => rfl))) (pg_sub (pv 5) (pv 6) set_list)))
      pss_nil)
    (pss_cut (ps_if (pt_cmpR op_eq (pv 2) pe_int (nomark _))
      (pss_one (ps_set (i := 5) sc_law_spoilt.nd rfl (.inl rfl) (pe_op op_cat (pe_op op_cat (pe_slice sl_list (pv 5) po_none (po_some (pv 6))) (pe_lst (pa_cons (pe_op op_add_str pe_str (pe_callTy call_str_int (by rfl) T.str (by decide +kernel) (pa_cons (pe_op op_sub pe_int (pe_callTy call_int_str (by rfl) T.int (by decide +kernel) (pa_cons (pe_ix ix_list (pv 7) pe_int (fun _ _ => rfl)) pa_nil))) pa_nil))) pa_nil))) (pe_slice sl_list (pv 5) (po_some (pv 6)) po_none))))
      pss_nil)
    (pss_cut (ps_if (pt_cmpR op_eq (pv 2) pe_int (nomark _))
      (pss_one (ps_asg (pe_op op_add_str (pe_op op_add_str (pe_ix ix_list (pv 7) pe_int (fun _ _ => rfl)) pe_str) (pe_ix ix_list (pe_lst (pa_cons pe_str (pa_cons pe_str (pa_cons pe_str (pa_cons pe_str pa_nil))))) (pe_call G_law_draw (hr.mono (by omega)) (by rfl) g_law_draw k_law_draw b_law_draw .nil pass0 (pa_cons (pv 0) (pa_cons pe_int pa_nil))) (fun _ _ => rfl))) (pg_sub (pv 5) (pv 6) set_list)))
      pss_nil)
    (pss_cut (ps_if (pt_cmpR op_eq (pv 2) pe_int (nomark _))
      (pss_one (ps_asg (pe_op op_add_str (pe_op op_add_str (pv 8) pe_str) (pe_ix ix_list (pv 7) pe_int (fun _ _ => rfl))) (pg_sub (pv 5) (pv 6) set_list)))
      pss_nil)
    (pss_cut (ps_if (pt_cmpR op_eq (pv 2) pe_int (nomark _))
      (pss_one (ps_set (i := 5) sc_law_spoilt.nd rfl (.inl rfl) (pe_slice sl_list (pv 5) po_none (po_some pe_int))))
      pss_nil)
    (pss_cut (ps_if (pt_cmpR op_eq (pv 2) pe_int (nomark _))
      (pss_one (ps_set (i := 5) sc_law_spoilt.nd rfl (.inl rfl) (pe_op op_cat (pv 5) (pe_lst (pa_cons (pe_op op_add_str pe_str (pe_callTy call_str_int (by rfl) T.str (by decide +kernel) (pa_cons (pe_op op_sub pe_int (pe_callTy call_int_str (by rfl) T.int (by decide +kernel) (pa_cons (pe_ix ix_list (pe_bm PySem.F.plainAttrs_str PySem.F.slot_str_split PySem.F.type_str_split mt_split (pe_ix ix_list (pv 5) (pe_un un_neg pe_int) (fun _ _ => rfl)) (pa_cons pe_str pa_nil)) pe_int (fun _ _ => rfl)) pa_nil))) pa_nil))) pa_nil)))))
      pss_nil)
    (pss_cut (ps_if (pt_cmpR op_eq (pv 2) pe_int (nomark _))
      (pss_one (ps_asg (pe_op op_add_str (pe_op op_add_str (pe_ix ix_list (pv 7) pe_int (fun _ _ => rfl)) (pe_ix ix_list (pe_lst (pa_cons pe_str (pa_cons pe_str (pa_cons pe_str pa_nil)))) (pe_call G_law_draw (hr.mono (by omega)) (by rfl) g_law_draw k_law_draw b_law_draw .nil pass0 (pa_cons (pv 0) (pa_cons pe_int pa_nil))) (fun _ _ => rfl))) (pe_ix ix_list (pv 7) pe_int (fun _ _ => rfl))) (pg_sub (pv 5) (pv 6) set_list)))
      pss_nil)
    (pss_cut (ps_if (pt_cmpR op_eq (pv 2) pe_int (nomark _))
      (pss_one (ps_asg (pe_op op_add_str (pe_ix ix_list (pv 5) pe_int (fun _ _ => rfl)) pe_str) (pg_sub (pv 5) pe_int set_list)))
      pss_nil)
    (pss_one (ps_ret (pe_op op_cat (pe_op op_cat (pe_op op_cat (pe_lst (pa_cons (pe_join pe_str (pv 3)) pa_nil)) (pe_slice sl_list (pv 1) (po_some pe_int) (po_some (pv 4)))) (pe_lst (pa_cons (pe_join pe_str (pv 5)) pa_nil))) (pe_slice sl_list (pv 1) (po_some (pe_op op_add (pv 4) pe_int)) po_none))))))))))))))))))))))), ?_⟩
    have hrows := ok.rows
    have hsz := ok.size
    have hone := ok.one
    have hpos : 0 < r.rows.length := List.length_pos_iff.mpr hne
    have eL : r.lines = headL r.low r.high :: r.rows.map rowL := rfl
    have hLl : (strV r.lines).length = r.rows.length + 1 := by rw [strV_len, eL, List.length_cons, List.length_map]
    refine ⟨_, rfl, p, a, 12, rfl, by decide, by decide, hp, fun v H1 hv1 X1 k1 => ?_⟩
    have hc1 : H1 c = some (.lst (strV r.lines)) := by rw [k1 _ (lst_ne hp hc)]; exact hc
    have hhl := head_len ok.low ok.high
    refine ⟨_, rfl, _, _, _, _, rfl, rfl, SqL.of hc1, atI_nat (j := 0) rfl, rfl, _, _, rfl, rfl, by decide, sz_of (by rw [mk_len]; omega), ?_⟩
    rw [show Txt.split (mk (headL r.low r.high)) (" " : Str) = (headWk r).map mk from split_mk k32 fun l hl => (headWk_ok ok l hl).1]
    intro hd nhd
    have e2 : ((headWk r).map mk).map V.str = strV (headWk r) := by rw [List.map_map]; rfl
    rw [e2]
    have X2 : Px p a H1 (upd H1 hd (.lst (strV (headWk r)))) := (Px.refl X1.pool).new nhd
    have hh2 : upd H1 hd (.lst (strV (headWk r))) hd = some (.lst (strV (headWk r))) := upd_same
    have hc2 := (Ex.new (o := .lst (strV (headWk r))) nhd) _ _ hc1
    have chd : c ≠ hd := fun z => by rw [z, nhd] at hc1; cases hc1
    dsimp only [gName, tSeq, tAsg]
    generalize upd H1 hd (.lst (strV (headWk r))) = H2 at *
    refine ⟨_, rfl, _, rfl, c, _, rfl, .inl (SqL.of hc2), _, _, rfl, rfl, p, a, ((strV r.lines).length : Int) - 1, rfl, by omega, by omega, X2.pool, fun k' H3 hk' X3 k3 => ⟨_, _, rfl, rfl, ?_⟩⟩
    have hk : k' < r.rows.length := by omega
    obtain ⟨x, hx, hxm⟩ := itemL hk
    obtain ⟨w1, w2, w3, w4, w5⟩ := rowWk_ok ok hxm
    have hrl := rowL_ok ok hxm
    have hc3 : H3 c = some (.lst (strV r.lines)) := by rw [k3 _ (lst_ne X2.pool hc2)]; exact hc2
    have hh3 : H3 hd = some (.lst (strV (headWk r))) := by rw [k3 _ (lst_ne X2.pool hh2)]; exact hh2
    have hlk : (strV r.lines)[1 + k']? = some (.str (mk (rowL x))) := strV_get (by rw [eL, Nat.add_comm, List.getElem?_cons_succ, List.getElem?_map, hx]; rfl)
    refine ⟨_, rfl, _, rfl, _, _, _, _, rfl, rfl, SqL.of hc3, at_of (j := 1 + k') (by omega) hlk, rfl, _, _, rfl, rfl, by decide, sz_of (by rw [mk_len]; omega), ?_⟩
    rw [show Txt.split (mk (rowL x)) (" " : Str) = (rowWk x).map mk from split_mk k32 fun l hl => (w5 l hl).1]
    intro wd nwd
    have e4 : ((rowWk x).map mk).map V.str = strV (rowWk x) := by rw [List.map_map]; rfl
    rw [e4]
    have X4 : Px p a H3 (upd H3 wd (.lst (strV (rowWk x)))) := (Px.refl X3.pool).new nwd
    have hw4 : upd H3 wd (.lst (strV (rowWk x))) wd = some (.lst (strV (rowWk x))) := upd_same
    have hc4 := (Ex.new (o := .lst (strV (rowWk x))) nwd) _ _ hc3
    have hh4 := (Ex.new (o := .lst (strV (rowWk x))) nwd) _ _ hh3
    have cwd : c ≠ wd := fun z => by rw [z, nwd] at hc3; cases hc3
    have hwd : hd ≠ wd := fun z => by rw [z, nwd] at hh3; cases hh3
    dsimp only [gName, tSeq, tAsg]
    generalize upd H3 wd (.lst (strV (rowWk x))) = H4 at *
    have hfs : 0 < (runsB x.2).length := by
      rcases Nat.eq_zero_or_pos (runsB x.2).length with z | z
      · have := exp_size ok hxm
        rw [List.eq_nil_of_length_eq_zero z] at this
        have this : 0 = r.size := this
        omega
      · exact z
    have hwl : (strV (rowWk x)).length = (runsB x.2).length + 1 := by rw [strV_len]; unfold rowWk; rw [List.length_cons, List.length_map]
    refine ⟨_, rfl, _, rfl, wd, _, rfl, .inl (SqL.of hw4), _, _, rfl, rfl, p, a, ((strV (rowWk x)).length : Int) - 1, rfl, by omega, by omega, X4.pool, fun j H5 hj X5 k5 => ⟨_, _, rfl, rfl, ?_⟩⟩
    obtain ⟨⟨m, b⟩, hmb, hmbm⟩ := itemL (L := runsB x.2) (v := j) (by omega)
    have hm41 : 1 ≤ m ∧ m ≤ 41 := w2 _ hmbm
    have hpl := piece_len (p := (m, b)) (by show m < 1000; omega)
    have hc5 : H5 c = some (.lst (strV r.lines)) := by rw [k5 _ (lst_ne X4.pool hc4)]; exact hc4
    have hh5 : H5 hd = some (.lst (strV (headWk r))) := by rw [k5 _ (lst_ne X4.pool hh4)]; exact hh4
    have hw5 : H5 wd = some (.lst (strV (rowWk x))) := by rw [k5 _ (lst_ne X4.pool hw4)]; exact hw4
    have hlj : (strV (rowWk x))[1 + j]? = some (.str (mk (pieceL (m, b)))) := strV_get (by unfold rowWk; rw [Nat.add_comm, List.getElem?_cons_succ, List.getElem?_map, hmb]; rfl)
    refine ⟨_, rfl, _, rfl, _, _, _, _, rfl, rfl, SqL.of hw5, at_of (j := 1 + j) (by omega) hlj, rfl, _, _, rfl, rfl, by decide, sz_of (by rw [mk_len]; omega), ?_⟩
    have ejp : pieceL (m, b) = joinL [120] [numL m, [bitL b]] := rfl
    have es3 : Txt.split (mk (pieceL (m, b))) ("x" : Str) = [numL m, [bitL b]].map mk := by
      rw [ejp]
      refine split_mk k120 fun l hl => ?_
      rcases List.mem_cons.mp hl with z | z
      · rw [z]; exact numL_free (by decide)
      · rw [List.mem_singleton.mp z]; exact bit_free b (by decide)
    rw [es3]
    intro pc npc
    have e6 : ([numL m, [bitL b]].map mk).map V.str = strV [numL m, [bitL b]] := rfl
    rw [e6]
    have X6 : Px p a H5 (upd H5 pc (.lst (strV [numL m, [bitL b]]))) := (Px.refl X5.pool).new npc
    have hpc6 : upd H5 pc (.lst (strV [numL m, [bitL b]])) pc = some (.lst (strV [numL m, [bitL b]])) := upd_same
    have E6 : Ex H5 (upd H5 pc (.lst (strV [numL m, [bitL b]]))) := Ex.new npc
    have cpc : c ≠ pc := fun z => by rw [z, npc] at hc5; cases hc5
    have hdpc : hd ≠ pc := fun z => by rw [z, npc] at hh5; cases hh5
    have wdpc : wd ≠ pc := fun z => by rw [z, npc] at hw5; cases hw5
    have S6 : Sts r c hd wd pc (headWk r) (rowWk x) [numL m, [bitL b]] (upd H5 pc (.lst (strV [numL m, [bitL b]]))) := ⟨E6 _ _ hc5, E6 _ _ hh5, E6 _ _ hw5, hpc6⟩
    dsimp only [gName, tSeq, tAsg]
    generalize upd H5 pc (.lst (strV [numL m, [bitL b]])) = H6 at *
    refine ⟨_, _, rfl, rfl, (by decide +kernel : ("1" : Str).length ≤ 16), (by decide : 61 ≤ 1000000), (by show 7 ≤ sizeLine; decide), fun l nl => ?_⟩
    have em : Txt.mul ("1" : Str) ((61 : Nat) : Int) = mk (List.replicate 61 49) := by decide +kernel
    rw [em]
    have X7 := (Px.refl X6.pool).new (o := .lst (bad7.map fun n => V.str (mk n))) nl
    refine ⟨_, rfl, p, a, 7, rfl, by decide, by decide, X7.pool, fun u H8 hu X8 k8 => ?_⟩
    have hl8 : H8 l = some (.lst (bad7.map fun n => V.str (mk n))) := by rw [k8 _ (X6.pool.ne nl)]; exact upd_same
    obtain ⟨o7, ho7, ho7m⟩ := itemL (L := bad7) (v := u) (by show u < 7; omega)
    refine ⟨_, _, _, _, rfl, rfl, SqL.of hl8, at_of (j := u) rfl (by rw [List.getElem?_map, ho7]; rfl), ?_⟩
    have X08 : Px p a H H8 := X1.trans (X2.trans (X3.trans (X4.trans (X5.trans (X6.trans (X7.trans X8))))))
    have S8 : Sts r c hd wd pc (headWk r) (rowWk x) [numL m, [bitL b]] H8 := S6.px (X7.trans X8)
    have bh : Bd (headWk r) := ⟨_, _, rfl, (by show 3 ≤ 60; decide), fun p hp => by have := (headWk_ok ok p hp).2.2; omega⟩
    have bw : Bd (rowWk x) := ⟨_, _, rfl, by rw [List.length_map]; omega, fun p hp => by have := (w5 p hp).2.2; omega⟩
    have esame : (r.rows.map rowL).set k' (joinL [32] (rowWk x)) = r.rows.map rowL := set_same (by rw [List.getElem?_map, hx]; rfl)
    have ehead : joinL [32] (headWk r) = headL r.low r.high := rfl
    have start : Mid p a c hd wd pc r x k' j v [numL m, [bitL b]] o7 H 0 (slK p c hd wd pc v k' j o7) H8 := ⟨wd, _, _, X08, S8, bh, bw, rfl, .inl ⟨Nat.zero_le _, rfl, rfl, rfl⟩⟩
    generalize hM : Mid p a c hd wd pc r x k' j v [numL m, [bitL b]] o7 H = M at start
    have skip : ∀ {k : Nat} {σ : L2.St} {H' : Hp}, v ≠ k → M k σ H' → M (k + 1) σ H' := fun {k σ H'} hvk h => by
      rw [← hM] at h ⊢
      obtain ⟨wa, hw, ww, h1, h2, h3, h4, h5, h6⟩ := h
      exact ⟨wa, hw, ww, h1, h2, h3, h4, h5, h6.imp (fun z => ⟨by omega, z.2⟩) (fun z => ⟨by omega, z.2⟩)⟩
    have shape : ∀ {k : Nat} {σ : L2.St} {H' : Hp}, M k σ H' → ∃ wa, σ = slK p c hd wa pc v k' j o7 := fun {k σ H'} h => by
      rw [← hM] at h
      obtain ⟨wa, hw, ww, h1, h2, h3, h4, h5, h6⟩ := h
      exact ⟨wa, h5⟩
    have hit : ∀ {k : Nat} {wa : Addr} {H' : Hp}, v = k → M k (slK p c hd wa pc v k' j o7) H' → wa = wd ∧ Px p a H H' ∧ Sts r c hd wd pc (headWk r) (rowWk x) [numL m, [bitL b]] H' := fun {k wa H'} hvk h => by
      rw [← hM] at h
      obtain ⟨wa', hw, ww, h1, h2, h3, h4, h5, h6⟩ := h
      rcases h6 with ⟨_, rfl, rfl, rfl⟩ | ⟨z, _⟩
      · exact ⟨slK_inj h5, h1, h2⟩
      · omega
    have put : ∀ {k : Nat} {wa : Addr} {hw ww : List (List Nat)} {H' : Hp}, v = k → Px p a H H' → Sts r c hd wa pc hw ww [numL m, [bitL b]] H' → Bd hw → Bd ww → NoRec (textOf (joinL [32] hw :: (r.rows.map rowL).set k' (joinL [32] ww))) → M (k + 1) (slK p c hd wa pc v k' j o7) H' := fun {k wa hw ww H'} hvk h1 h2 h3 h4 h5 => by
      rw [← hM]
      exact ⟨wa, hw, ww, h1, h2, h3, h4, rfl, .inr ⟨by omega, h5⟩⟩
    have nhd0 : H hd = none := X1.free nhd
    have nwd0 : H wd = none := (X1.trans (X2.trans X3)).free nwd
    have hwdl : (strV (headWk r)).length = 4 := rfl
    have ej : (1 + (j : Int)) = ((1 + j : Nat) : Int) := by omega
    have hjw : 1 + j < (strV (rowWk x)).length := by rw [hwl]; omega
    have ixj : ixN (strV (rowWk x)).length (1 + (j : Int)) = some (1 + j) := by rw [ej]; exact ixN_nat hjw
    have ix0 : ixN (strV (rowWk x)).length 0 = some 0 := (ixN_nat (by rw [hwl]; omega) : ixN (strV (rowWk x)).length ((0 : Nat) : Int) = some 0)
    have fm : Few ((m : Nat) : Int) := few_small (by omega)
    have im : PySem.intText? (mk (numL m)) = some ((m : Nat) : Int) := by rw [← intL_nat]; exact int_back fm
    have lm := numL_few (n := m) (by omega)
    have ib : PySem.intText? (mk [bitL b]) = some (if b = true then (1 : Int) else 0) := by cases b <;> decide +kernel
    have nb : Str.ofString (toString ((1 : Int) - (if b = true then (1 : Int) else 0))) = mk [bitL (!b)] := by cases b <;> decide +kernel
    have lb : ((1 : Int) - (if b = true then (1 : Int) else 0)).natAbs.log2 < 1920 := by cases b <;> decide +kernel
    have ux : ("x" : Str).length = 1 := by decide +kernel
    have lo7 : o7.length ≤ 61 := (bad7_ok o7 ho7m).2.2
    have pl64 : ∀ (n : Nat) (d : Bool), n < 1000 → (pieceL (n, d)).length ≤ 70 := fun n d h => by have := (piece_ok n d h).2.2; omega
    refine ⟨M 1, ?_, ?_⟩
    · by_cases hvk : v = 0
      · obtain ⟨_, X, S⟩ := hit hvk start
        refine ⟨_, rfl, rfl, _, rfl, iteY ((dv v 0).trans (decide_eq_true hvk)) ⟨(by show 4 ≤ sizeLine; decide), fun l1 n1 => ?_⟩⟩
        have Xa := (Px.refl X.pool).new (o := .lst ([tl ("From" : Str), [], tl ("to" : Str), tl ("till" : Str)].map fun n => V.str (mk n))) n1
        refine ⟨_, rfl, p, a, 4, rfl, by decide, by decide, Xa.pool, fun u1 H9 hu1 X9 k9 => ?_⟩
        have hl9 : H9 l1 = some (.lst ([tl ("From" : Str), [], tl ("to" : Str), tl ("till" : Str)].map fun n => V.str (mk n))) := by rw [k9 _ (X.pool.ne n1)]; exact upd_same
        obtain ⟨o, ho, hom⟩ := itemL (L := [tl ("From" : Str), [], tl ("to" : Str), tl ("till" : Str)]) (v := u1) (by show u1 < 4; omega)
        have ho2 : o ++ [111] ∈ badH ∧ o.length ≤ 5 := (by decide +kernel : ∀ o ∈ [tl ("From" : Str), [], tl ("to" : Str), tl ("till" : Str)], o ++ [111] ∈ badH ∧ o.length ≤ 5) o hom
        have uo : ("o" : Str).length = 1 := by decide +kernel
        refine ⟨_, _, _, _, rfl, rfl, SqL.of hl9, at_of (j := u1) rfl (by rw [List.getElem?_map, ho]; rfl), _, _, rfl, rfl, sz_of (by rw [mk_len, uo]; omega), ?_⟩
        rw [show mk o ++ ("o" : Str) = mk (o ++ [111]) from mk_app o [111]]
        refine ⟨_, rfl, (by show 2 ≤ sizeLine; decide), fun l2 n2 => ?_⟩
        have Xb := (Xa.trans X9).new (o := .lst [.int 0, .int 2]) n2
        refine ⟨_, rfl, p, a, 2, rfl, by decide, by decide, Xb.pool, fun u2 H10 hu2 X10 k10 => ?_⟩
        have hl10 : H10 l2 = some (.lst [.int 0, .int 2]) := by rw [k10 _ (X9.pool.ne n2)]; exact upd_same
        obtain ⟨jj, hjj, hj2⟩ : ∃ jj : Nat, ([.int 0, .int 2] : List V)[u2]? = some (.int (jj : Nat)) ∧ (jj = 0 ∨ jj = 2) := by
          match u2, hu2 with
          | 0, _ => exact ⟨0, rfl, .inl rfl⟩
          | 1, _ => exact ⟨2, rfl, .inr rfl⟩
          | n + 2, h => exact absurd h (by omega)
        have S10 := S.px (Xb.trans X10)
        refine ⟨_, _, _, _, rfl, rfl, SqL.of hl10, at_of (j := u2) rfl hjj, hd, strV (headWk r), (jj : Nat), jj, rfl, rfl, S10.h, ixN_nat (by rw [hwdl]; omega), ?_⟩
        rw [strV_set]
        exact put hvk ((X.trans (Xb.trans X10)).mut nhd0) (S10.seth chd hwd hdpc) (bh.set (by rw [List.length_append]; show _ + 1 ≤ 70; omega)) bw (by rw [esame]; exact formK0 ok ho2.1 hj2)
      · exact ⟨_, rfl, rfl, _, rfl, iteN ((dv v 0).trans (decide_eq_false hvk)) (skip hvk start)⟩
    rintro σ1 G1 hM1
    obtain ⟨wa, rfl⟩ := shape hM1
    refine ⟨M 2, ?_, ?_⟩
    · by_cases hvk : v = 1
      · obtain ⟨rfl, X, S⟩ := hit hvk hM1
        refine ⟨_, rfl, rfl, _, rfl, iteY ((dv v 1).trans (decide_eq_true hvk)) ⟨_, rfl, _, rfl, (by show 2 ≤ sizeLine; decide), fun l2 n2 => ?_⟩⟩
        have Xb := (Px.refl X.pool).new (o := .lst [.int 1, .int 3]) n2
        refine ⟨_, rfl, p, a, 2, rfl, by decide, by decide, Xb.pool, fun u2 H10 hu2 X10 k10 => ?_⟩
        have hl10 : H10 l2 = some (.lst [.int 1, .int 3]) := by rw [k10 _ (X.pool.ne n2)]; exact upd_same
        obtain ⟨jj, hjj, hj2⟩ : ∃ jj : Nat, ([.int 1, .int 3] : List V)[u2]? = some (.int (jj : Nat)) ∧ (jj = 1 ∨ jj = 3) := by
          match u2, hu2 with
          | 0, _ => exact ⟨1, rfl, .inl rfl⟩
          | 1, _ => exact ⟨3, rfl, .inr rfl⟩
          | n + 2, h => exact absurd h (by omega)
        have S10 := S.px (Xb.trans X10)
        refine ⟨_, _, _, _, rfl, rfl, SqL.of hl10, at_of (j := u2) rfl hjj, hd, strV (headWk r), (jj : Nat), jj, rfl, rfl, S10.h, ixN_nat (by rw [hwdl]; omega), ?_⟩
        rw [strV_set]
        exact put hvk ((X.trans (Xb.trans X10)).mut nhd0) (S10.seth chd hwd hdpc) (bh.set (by omega)) bw (by rw [esame]; exact formK1 ok ho7m hj2)
      · exact ⟨_, rfl, rfl, _, rfl, iteN ((dv v 1).trans (decide_eq_false hvk)) (skip hvk hM1)⟩
    rintro σ2 G2 hM2
    obtain ⟨wa, rfl⟩ := shape hM2
    refine ⟨M 3, ?_, ?_⟩
    · by_cases hvk : v = 2
      · obtain ⟨rfl, X, S⟩ := hit hvk hM2
        obtain ⟨fl1, fl2⟩ := few_less ok.low
        have lln := few_len ok.low
        refine ⟨_, rfl, rfl, _, rfl, iteY ((dv v 2).trans (decide_eq_true hvk)) ⟨_, rfl, _, _, _, _, rfl, rfl, SqL.of S.h, atI_nat (j := 1) rfl, _, r.low, rfl, int_back ok.low, by rw [mk_len]; omega, _, _, rfl, rfl, _, rfl, fl1, ?_⟩⟩
        refine ⟨_, rfl, hd, strV (headWk r), ((3 : Nat) : Int), 3, rfl, rfl, S.h, ixN_nat (by rw [hwdl]; decide), ?_⟩
        rw [str_int, strV_set]
        exact put hvk (X.mut nhd0) (S.seth chd hwd hdpc) (bh.set (by omega)) bw (by rw [esame]; exact formK2 ok fl2)
      · exact ⟨_, rfl, rfl, _, rfl, iteN ((dv v 2).trans (decide_eq_false hvk)) (skip hvk hM2)⟩
    rintro σ3 G3 hM3
    obtain ⟨wa, rfl⟩ := shape hM3
    refine ⟨M 4, ?_, ?_⟩
    · by_cases hvk : v = 3
      · obtain ⟨rfl, X, S⟩ := hit hvk hM3
        refine ⟨_, rfl, rfl, _, rfl, iteY ((dv v 3).trans (decide_eq_true hvk)) ⟨(by show 8 ≤ sizeLine; decide), fun l1 n1 => ?_⟩⟩
        have Xa := (Px.refl X.pool).new (o := .lst (badNm.map fun n => V.str (mk n))) n1
        refine ⟨_, rfl, p, a, 8, rfl, by decide, by decide, Xa.pool, fun u1 H9 hu1 X9 k9 => ?_⟩
        have hl9 : H9 l1 = some (.lst (badNm.map fun n => V.str (mk n))) := by rw [k9 _ (X.pool.ne n1)]; exact upd_same
        obtain ⟨o, ho, hom⟩ := itemL (L := badNm) (v := u1) (by show u1 < 8; omega)
        have S9 := S.px (Xa.trans X9)
        refine ⟨_, _, _, _, rfl, rfl, SqL.of hl9, at_of (j := u1) rfl (by rw [List.getElem?_map, ho]; rfl), _, rfl, wa, strV (rowWk x), 0, 0, rfl, rfl, S9.w, ix0, ?_⟩
        rw [strV_set]
        exact put hvk ((X.trans (Xa.trans X9)).mut nwd0) (S9.setw cwd hwd wdpc) bh (bw.set (by have := (badNm_ok o hom).2.2; omega)) (formK3 ok hx hom)
      · exact ⟨_, rfl, rfl, _, rfl, iteN ((dv v 3).trans (decide_eq_false hvk)) (skip hvk hM3)⟩
    rintro σ4 G4 hM4
    obtain ⟨wa, rfl⟩ := shape hM4
    refine ⟨M 5, ?_, ?_⟩
    · by_cases hvk : v = 4
      · obtain ⟨rfl, X, S⟩ := hit hvk hM4
        have fm1 : Few ((m : Int) + 1) := few_small (n := m + 1) (by omega)
        have lm1 := few_len fm1
        have es : (Str.ofString (toString ((m : Int) + 1)) ++ ("x" : Str)) ++ mk [bitL b] = mk (pieceL (m + 1, b)) := by
          rw [str_int, show (m : Int) + 1 = ((m + 1 : Nat) : Int) from rfl, intL_nat]
          show (mk (numL (m + 1)) ++ mk [120]) ++ mk [bitL b] = _
          rw [mk_app, mk_app, List.append_assoc]; rfl
        have l1 : (Str.ofString (toString ((m : Int) + 1))).length ≤ 61 := by rw [str_int, mk_len]; exact lm1
        refine ⟨_, rfl, rfl, _, rfl, iteY ((dv v 4).trans (decide_eq_true hvk)) ⟨_, rfl, _, _, _, _, rfl, rfl, SqL.of S.p, atI_nat (j := 0) rfl, _, (m : Nat), rfl, im, by rw [mk_len]; omega, _, _, rfl, rfl, _, rfl, few_log fm1, _, _, rfl, rfl, sz_of (by rw [ux]; omega), _, rfl, _, _, _, _, rfl, rfl, SqL.of S.p, atI_nat (j := 1) rfl, _, _, rfl, rfl, ?_, ?_⟩⟩
        · exact sz_of (by rw [str_len_app, ux, mk_len]; show _ + 1 + 1 ≤ _; omega)
        refine ⟨_, rfl, _, rfl, wa, strV (rowWk x), _, 1 + j, rfl, rfl, S.w, ixj, ?_⟩
        rw [es, strV_set]
        exact put hvk (X.mut nwd0) (S.setw cwd hwd wdpc) bh (bw.set (pl64 _ _ (by omega))) (formK4 ok hx hmb)
      · exact ⟨_, rfl, rfl, _, rfl, iteN ((dv v 4).trans (decide_eq_false hvk)) (skip hvk hM4)⟩
    rintro σ5 G5 hM5
    obtain ⟨wa, rfl⟩ := shape hM5
    refine ⟨M 6, ?_, ?_⟩
    · by_cases hvk : v = 5
      · obtain ⟨rfl, X, S⟩ := hit hvk hM5
        have et : cutV (strV (rowWk x)) none (some (1 + (j : Int))) = strV ((rowWk x).take (1 + j)) := by rw [ej, cutV_head (by omega), strV_take]
        have ed : cutV (strV (rowWk x)) (some (1 + (j : Int))) none = strV ((rowWk x).drop (1 + j)) := by rw [ej, cutV_tail (by omega), strV_drop]
        refine ⟨_, rfl, rfl, _, rfl, iteY ((dv v 5).trans (decide_eq_true hvk)) ⟨_, rfl, _, rfl, _, rfl, wa, _, rfl, SqL.of S.w, fun c1 n1 => ?_⟩⟩
        rw [et]
        have Ea : Ex G5 (upd G5 c1 (.lst (strV ((rowWk x).take (1 + j))))) := Ex.new n1
        have h1 : upd G5 c1 (.lst (strV ((rowWk x).take (1 + j)))) c1 = some (.lst (strV ((rowWk x).take (1 + j)))) := upd_same
        generalize upd G5 c1 (.lst (strV ((rowWk x).take (1 + j)))) = G6 at *
        have S1 := S.ex Ea
        have u0 : ("0x" : Str).length = 2 := by decide +kernel
        have es : ("0x" : Str) ++ Str.ofString (toString ((1 : Int) - (if b = true then (1 : Int) else 0))) = mk (pieceL (0, !b)) := by rw [nb]; cases b <;> decide +kernel
        refine ⟨_, rfl, _, _, _, _, rfl, rfl, SqL.of S1.p, atI_nat (j := 1) rfl, _, _, rfl, ib, (by rw [mk_len]; show 1 ≤ _; decide), _, _, rfl, rfl, _, rfl, lb, _, _, rfl, rfl, ?_, (by show 1 ≤ sizeLine; decide), fun l2 n2 => ?_⟩
        · rw [nb]; exact sz_of (by rw [u0, mk_len]; show 2 + 1 ≤ _; decide)
        rw [es]
        have Eb : Ex G6 (upd G6 l2 (.lst (strV [pieceL (0, !b)]))) := Ex.new n2
        have h2 : upd G6 l2 (.lst (strV [pieceL (0, !b)])) l2 = some (.lst (strV [pieceL (0, !b)])) := upd_same
        refine ⟨c1, l2, _, _, rfl, rfl, Eb _ _ h1, h2, sz_of (by rw [strV_len, List.length_take]; show min _ _ + 1 ≤ _; omega), fun c3 n3 => ?_⟩
        rw [← strV_app ((rowWk x).take (1 + j)) [pieceL (0, !b)]]
        have Ec : Ex (upd G6 l2 (.lst (strV [pieceL (0, !b)]))) (upd (upd G6 l2 (.lst (strV [pieceL (0, !b)]))) c3 (.lst (strV ((rowWk x).take (1 + j) ++ [pieceL (0, !b)])))) := Ex.new n3
        have h3 : upd (upd G6 l2 (.lst (strV [pieceL (0, !b)]))) c3 (.lst (strV ((rowWk x).take (1 + j) ++ [pieceL (0, !b)]))) c3 = some (.lst (strV ((rowWk x).take (1 + j) ++ [pieceL (0, !b)]))) := upd_same
        have E6c := Eb.trans Ec
        have S2 := S1.ex E6c
        refine ⟨_, rfl, _, rfl, _, rfl, wa, _, rfl, SqL.of S2.w, fun c4 n4 => ?_⟩
        rw [ed]
        refine ⟨c3, c4, _, _, rfl, rfl, (Ex.new n4) _ _ h3, upd_same, sz_of (by rw [strV_len, strV_len, List.length_append, List.length_take, List.length_drop]; show min _ _ + 1 + _ ≤ _; rw [← strV_len (rowWk x)]; omega), fun c5 n5 => ?_⟩
        rw [← strV_app]
        have S3 := S2.ex ((Ex.new n4).trans (Ex.new (o := .lst (strV ((rowWk x).take (1 + j) ++ [pieceL (0, !b)] ++ (rowWk x).drop (1 + j)))) n5))
        refine put hvk (X.more (Ea.trans (E6c.trans ((Ex.new n4).trans (Ex.new n5))))) ⟨S3.c, S3.h, upd_same, S3.p⟩ bh ?_ (formK5 ok hx j (!b))
        refine ⟨x.1, ((runsB x.2).map pieceL).take j ++ [pieceL (0, !b)] ++ ((runsB x.2).map pieceL).drop j, by rw [Nat.add_comm]; unfold rowWk; rw [List.take_succ_cons, List.drop_succ_cons]; rfl, ?_, fun q hq => ?_⟩
        · rw [List.length_append, List.length_append, List.length_take, List.length_drop, List.length_map]; show min _ _ + 1 + _ ≤ 60; omega
        · have old : q ∈ rowWk x → q.length ≤ 70 := fun z => by have := (w5 q z).2.2; omega
          rcases List.mem_cons.mp hq with z | z
          · exact old (by rw [z]; exact List.mem_cons_self)
          · rcases List.mem_append.mp z with z | z
            · rcases List.mem_append.mp z with z | z
              · exact old (List.mem_cons_of_mem _ (List.mem_of_mem_take z))
              · rw [List.mem_singleton.mp z]; exact pl64 _ _ (by decide)
            · exact old (List.mem_cons_of_mem _ (List.mem_of_mem_drop z))
      · exact ⟨_, rfl, rfl, _, rfl, iteN ((dv v 5).trans (decide_eq_false hvk)) (skip hvk hM5)⟩
    rintro σ6 G6 hM6
    obtain ⟨wa, rfl⟩ := shape hM6
    refine ⟨M 7, ?_, ?_⟩
    · by_cases hvk : v = 6
      · obtain ⟨rfl, X, S⟩ := hit hvk hM6
        refine ⟨_, rfl, rfl, _, rfl, iteY ((dv v 6).trans (decide_eq_true hvk)) ⟨_, rfl, _, _, _, _, rfl, rfl, SqL.of S.p, atI_nat (j := 0) rfl, _, _, rfl, rfl, sz_of (by rw [ux, mk_len]; omega), (by show 4 ≤ sizeLine; decide), fun l1 n1 => ?_⟩⟩
        have Xa := (Px.refl X.pool).new (o := .lst (bad6.map fun n => V.str (mk n))) n1
        refine ⟨_, rfl, p, a, 4, rfl, by decide, by decide, Xa.pool, fun u1 H9 hu1 X9 k9 => ?_⟩
        have hl9 : H9 l1 = some (.lst (bad6.map fun n => V.str (mk n))) := by rw [k9 _ (X.pool.ne n1)]; exact upd_same
        obtain ⟨o, ho, hom⟩ := itemL (L := bad6) (v := u1) (by show u1 < 4; omega)
        have lo := (bad6_ok o hom).2.2.1
        have S9 := S.px (Xa.trans X9)
        refine ⟨_, _, _, _, rfl, rfl, SqL.of hl9, at_of (j := u1) rfl (by rw [List.getElem?_map, ho]; rfl), _, _, rfl, rfl, sz_of (by rw [str_len_app, ux, mk_len, mk_len]; omega), _, rfl, _, rfl, wa, strV (rowWk x), _, 1 + j, rfl, rfl, S9.w, ixj, ?_⟩
        have es : (mk (numL m) ++ ("x" : Str)) ++ mk o = mk (numL m ++ 120 :: o) := by
          show (mk (numL m) ++ mk [120]) ++ mk o = _
          rw [mk_app, mk_app, List.append_assoc]; rfl
        rw [es, strV_set]
        exact put hvk ((X.trans (Xa.trans X9)).mut nwd0) (S9.setw cwd hwd wdpc) bh (bw.set (by rw [List.length_append, List.length_cons]; omega)) (formK6 ok hx hmb hom)
      · exact ⟨_, rfl, rfl, _, rfl, iteN ((dv v 6).trans (decide_eq_false hvk)) (skip hvk hM6)⟩
    rintro σ7 G7 hM7
    obtain ⟨wa, rfl⟩ := shape hM7
    refine ⟨M 8, ?_, ?_⟩
    · by_cases hvk : v = 7
      · obtain ⟨rfl, X, S⟩ := hit hvk hM7
        refine ⟨_, rfl, rfl, _, rfl, iteY ((dv v 7).trans (decide_eq_true hvk)) ⟨_, rfl, _, _, rfl, rfl, sz_of (by rw [ux, mk_len]; omega), _, rfl, _, _, _, _, rfl, rfl, SqL.of S.p, atI_nat (j := 1) rfl, _, _, rfl, rfl, sz_of (by rw [str_len_app, ux, mk_len, mk_len]; show _ + 1 + 1 ≤ _; omega), _, rfl, _, rfl, wa, strV (rowWk x), _, 1 + j, rfl, rfl, S.w, ixj, ?_⟩⟩
        have es : (mk o7 ++ ("x" : Str)) ++ mk [bitL b] = mk (o7 ++ [120, bitL b]) := by
          show (mk o7 ++ mk [120]) ++ mk [bitL b] = _
          rw [mk_app, mk_app, List.append_assoc]; rfl
        rw [es, strV_set]
        exact put hvk (X.mut nwd0) (S.setw cwd hwd wdpc) bh (bw.set (by rw [List.length_append]; show _ + 2 ≤ 70; omega)) (formK7 ok hx hmb ho7m)
      · exact ⟨_, rfl, rfl, _, rfl, iteN ((dv v 7).trans (decide_eq_false hvk)) (skip hvk hM7)⟩
    rintro σ8 G8 hM8
    obtain ⟨wa, rfl⟩ := shape hM8
    refine ⟨M 9, ?_, ?_⟩
    · by_cases hvk : v = 8
      · obtain ⟨rfl, X, S⟩ := hit hvk hM8
        have et : cutV (strV (rowWk x)) none (some 1) = strV ((rowWk x).take 1) := by
          have : cutV (strV (rowWk x)) none (some ((1 : Nat) : Int)) = _ := cutV_head (by omega)
          rw [show (1 : Int) = ((1 : Nat) : Int) from rfl, this, strV_take]
        refine ⟨_, rfl, rfl, _, rfl, iteY ((dv v 8).trans (decide_eq_true hvk)) ⟨_, rfl, _, rfl, wa, _, rfl, SqL.of S.w, fun c1 n1 => ?_⟩⟩
        rw [et]
        have S1 := S.ex (Ex.new (o := .lst (strV ((rowWk x).take 1))) n1)
        refine put hvk (X.new n1) ⟨S1.c, S1.h, upd_same, S1.p⟩ bh ?_ (formK8 ok hx)
        exact ⟨x.1, [], rfl, Nat.zero_le _, fun q hq => by have := (w5 q (by rw [List.mem_singleton.mp hq]; exact List.mem_cons_self)).2.2; omega⟩
      · exact ⟨_, rfl, rfl, _, rfl, iteN ((dv v 8).trans (decide_eq_false hvk)) (skip hvk hM8)⟩
    rintro σ9 G9 hM9
    obtain ⟨wa, rfl⟩ := shape hM9
    refine ⟨M 10, ?_, ?_⟩
    · by_cases hvk : v = 9
      · obtain ⟨rfl, X, S⟩ := hit hvk hM9
        obtain ⟨gs, ⟨m2, b2⟩, hg⟩ : ∃ gs q, runsB x.2 = gs ++ [q] := by
          rcases snoc_cases (runsB x.2) with z | z
          · rw [z] at hfs; exact absurd hfs (by decide)
          · exact z
        have hm2 : m2 ≤ 41 := (w2 (m2, b2) (by rw [hg]; simp)).2
        have hpl2 := piece_len (p := (m2, b2)) (by show m2 < 1000; omega)
        have ew : strV (rowWk x) = strV (x.1 :: gs.map pieceL) ++ [.str (mk (pieceL (m2, b2)))] := by
          unfold rowWk
          rw [hg, List.map_append, ← List.cons_append, strV_app]; rfl
        have ib2 : PySem.intText? (mk [bitL b2]) = some (if b2 = true then (1 : Int) else 0) := by cases b2 <;> decide +kernel
        have nb2 : Str.ofString (toString ((1 : Int) - (if b2 = true then (1 : Int) else 0))) = mk [bitL (!b2)] := by cases b2 <;> decide +kernel
        have lb2 : ((1 : Int) - (if b2 = true then (1 : Int) else 0)).natAbs.log2 < 1920 := by cases b2 <;> decide +kernel
        have es2 : Txt.split (mk (pieceL (m2, b2))) ("x" : Str) = [numL m2, [bitL b2]].map mk := by
          rw [show pieceL (m2, b2) = joinL [120] [numL m2, [bitL b2]] from rfl]
          refine split_mk k120 fun l hl => ?_
          rcases List.mem_cons.mp hl with z | z
          · rw [z]; exact numL_free (by decide)
          · rw [List.mem_singleton.mp z]; exact bit_free b2 (by decide)
        have hwS := S.w
        rw [ew] at hwS
        refine ⟨_, rfl, rfl, _, rfl, iteY ((dv v 9).trans (decide_eq_true hvk)) ⟨_, rfl, _, rfl, _, rfl, _, _, _, _, rfl, rfl, SqL.of hwS, atI_last _ _, rfl, _, _, rfl, rfl, by decide, sz_of (by rw [mk_len]; omega), ?_⟩⟩
        rw [es2]
        intro l1 n1
        have Ea : Ex G9 (upd G9 l1 (.lst (strV [numL m2, [bitL b2]]))) := Ex.new n1
        have h1 : upd G9 l1 (.lst (strV [numL m2, [bitL b2]])) l1 = some (.lst (strV [numL m2, [bitL b2]])) := upd_same
        have u1x : ("1x" : Str).length = 2 := by decide +kernel
        have es : ("1x" : Str) ++ Str.ofString (toString ((1 : Int) - (if b2 = true then (1 : Int) else 0))) = mk (pieceL (1, !b2)) := by rw [nb2]; cases b2 <;> decide +kernel
        refine ⟨_, _, _, _, rfl, rfl, SqL.of h1, atI_nat (j := 1) rfl, _, _, rfl, ib2, (by rw [mk_len]; show 1 ≤ _; decide), _, _, rfl, rfl, _, rfl, lb2, _, _, rfl, rfl, ?_, (by show 1 ≤ sizeLine; decide), fun l2 n2 => ?_⟩
        · rw [nb2]; exact sz_of (by rw [u1x, mk_len]; show 2 + 1 ≤ _; decide)
        rw [es]
        have Eb : Ex (upd G9 l1 (.lst (strV [numL m2, [bitL b2]]))) (upd (upd G9 l1 (.lst (strV [numL m2, [bitL b2]]))) l2 (.lst (strV [pieceL (1, !b2)]))) := Ex.new n2
        have h2 : upd (upd G9 l1 (.lst (strV [numL m2, [bitL b2]]))) l2 (.lst (strV [pieceL (1, !b2)])) l2 = some (.lst (strV [pieceL (1, !b2)])) := upd_same
        have S2 := S.ex (Ea.trans Eb)
        refine ⟨wa, l2, _, _, rfl, rfl, S2.w, h2, sz_of (by rw [hwl]; show _ + 1 + 1 ≤ _; omega), fun c3 n3 => ?_⟩
        rw [← strV_app (rowWk x) [pieceL (1, !b2)]]
        have S3 := S2.ex (Ex.new (o := .lst (strV (rowWk x ++ [pieceL (1, !b2)]))) n3)
        refine put hvk (X.more (Ea.trans (Eb.trans (Ex.new n3)))) ⟨S3.c, S3.h, upd_same, S3.p⟩ bh ?_ (formK9 ok hx (!b2))
        refine ⟨x.1, (runsB x.2).map pieceL ++ [pieceL (1, !b2)], rfl, by rw [List.length_append, List.length_map]; show _ + 1 ≤ 60; omega, fun q hq => ?_⟩
        rcases List.mem_append.mp (show q ∈ rowWk x ++ [pieceL (1, !b2)] from hq) with z | z
        · have := (w5 q z).2.2; omega
        · rw [List.mem_singleton.mp z]; exact pl64 _ _ (by decide)
      · exact ⟨_, rfl, rfl, _, rfl, iteN ((dv v 9).trans (decide_eq_false hvk)) (skip hvk hM9)⟩
    rintro σ10 G10 hM10
    obtain ⟨wa, rfl⟩ := shape hM10
    refine ⟨M 11, ?_, ?_⟩
    · by_cases hvk : v = 10
      · obtain ⟨rfl, X, S⟩ := hit hvk hM10
        refine ⟨_, rfl, rfl, _, rfl, iteY ((dv v 10).trans (decide_eq_true hvk)) ⟨_, rfl, _, _, _, _, rfl, rfl, SqL.of S.p, atI_nat (j := 0) rfl, (by show 3 ≤ sizeLine; decide), fun l1 n1 => ?_⟩⟩
        have Xa := (Px.refl X.pool).new (o := .lst ([([] : List Nat), [32], [121]].map fun n => V.str (mk n))) n1
        refine ⟨_, rfl, p, a, 3, rfl, by decide, by decide, Xa.pool, fun u1 H9 hu1 X9 k9 => ?_⟩
        have hl9 : H9 l1 = some (.lst ([([] : List Nat), [32], [121]].map fun n => V.str (mk n))) := by rw [k9 _ (X.pool.ne n1)]; exact upd_same
        obtain ⟨o, ho, hom⟩ := itemL (L := [([] : List Nat), [32], [121]]) (v := u1) (by show u1 < 3; omega)
        have ho3 : o = [] ∨ o = [32] ∨ o = [121] := by simpa using hom
        have lo : o.length ≤ 1 := by rcases ho3 with z | z | z <;> rw [z] <;> decide
        have S9 := S.px (Xa.trans X9)
        refine ⟨_, _, _, _, rfl, rfl, SqL.of hl9, at_of (j := u1) rfl (by rw [List.getElem?_map, ho]; rfl), _, _, rfl, rfl, sz_of (by rw [mk_len, mk_len]; omega), _, rfl, _, _, _, _, rfl, rfl, SqL.of S9.p, atI_nat (j := 1) rfl, _, _, rfl, rfl, sz_of (by rw [str_len_app, mk_len, mk_len, mk_len]; show _ + _ + 1 ≤ _; omega), _, rfl, _, rfl, wa, strV (rowWk x), _, 1 + j, rfl, rfl, S9.w, ixj, ?_⟩
        have es : (mk (numL m) ++ mk o) ++ mk [bitL b] = mk (numL m ++ o ++ [bitL b]) := by rw [mk_app, mk_app]
        rw [es, strV_set]
        exact put hvk ((X.trans (Xa.trans X9)).mut nwd0) (S9.setw cwd hwd wdpc) bh (bw.set (by rw [List.length_append, List.length_append]; show _ + _ + 1 ≤ 70; omega)) (formK10 ok hx hmb ho3)
      · exact ⟨_, rfl, rfl, _, rfl, iteN ((dv v 10).trans (decide_eq_false hvk)) (skip hvk hM10)⟩
    rintro σ11 G11 hM11
    obtain ⟨wa, rfl⟩ := shape hM11
    refine ⟨M 12, ?_, ?_⟩
    · by_cases hvk : v = 11
      · obtain ⟨rfl, X, S⟩ := hit hvk hM11
        have hnl := (w5 x.1 List.mem_cons_self).2.2
        have us : (" " : Str).length = 1 := by decide +kernel
        have hw0 : G11 wa = some (.lst (.str (mk x.1) :: strV ((runsB x.2).map pieceL))) := S.w
        refine ⟨_, rfl, rfl, _, rfl, iteY ((dv v 11).trans (decide_eq_true hvk)) ⟨_, rfl, _, _, _, _, rfl, rfl, SqL.of hw0, atI_nat (j := 0) rfl, _, _, rfl, rfl, sz_of (by rw [us, mk_len]; omega), _, rfl, wa, strV (rowWk x), 0, 0, rfl, rfl, S.w, ix0, ?_⟩⟩
        rw [show mk x.1 ++ (" " : Str) = mk (x.1 ++ [32]) from mk_app x.1 [32], strV_set]
        exact put hvk (X.mut nwd0) (S.setw cwd hwd wdpc) bh (bw.set (by rw [List.length_append]; show _ + 1 ≤ 70; omega)) (formK11 ok hx)
      · exact ⟨_, rfl, rfl, _, rfl, iteN ((dv v 11).trans (decide_eq_false hvk)) (skip hvk hM11)⟩
    rintro σ12 G12 hM12
    rw [← hM] at hM12
    obtain ⟨wa, hw, ww, X, S, bhh, bww, rfl, hcase⟩ := hM12
    have hno : NoRec (textOf (joinL [32] hw :: (r.rows.map rowL).set k' (joinL [32] ww))) := by
      rcases hcase with ⟨z, _⟩ | ⟨_, z⟩
      · omega
      · exact z
    obtain ⟨jh, lh⟩ := bhh.join
    obtain ⟨jw, lw⟩ := bww.join
    have e1 : (" " : Str).length = 1 := by decide +kernel
    have smap : ∀ l : List (List Nat), strV l = (l.map mk).map V.str := fun l => by unfold strV; rw [List.map_map]; rfl
    have hh := S.h
    have hww := S.w
    rw [smap] at hh hww
    have ec1 : cutV (strV r.lines) (some 1) (some (1 + (k' : Int))) = strV ((r.rows.map rowL).take k') := by
      have : cutV (strV r.lines) (some ((1 : Nat) : Int)) (some ((1 + k' : Nat) : Int)) = _ := cutV_both (by omega) (by omega)
      rw [show (1 : Int) + (k' : Int) = ((1 + k' : Nat) : Int) by omega, show (1 : Int) = ((1 : Nat) : Int) from rfl, this, Nat.add_sub_cancel_left, eL, ← strV_take]; rfl
    have ec2 : cutV (strV r.lines) (some (1 + (k' : Int) + 1)) none = strV ((r.rows.map rowL).drop (k' + 1)) := by
      have : cutV (strV r.lines) (some ((1 + k' + 1 : Nat) : Int)) none = _ := cutV_tail (by omega)
      rw [show (1 : Int) + (k' : Int) + 1 = ((1 + k' + 1 : Nat) : Int) by omega, this, eL, ← strV_drop, show 1 + k' + 1 = k' + 1 + 1 by omega]; rfl
    refine ⟨⟨_, rfl⟩, _, rfl, _, hd, hw.map mk, rfl, rfl, .inl (SqL.of hh), by rw [e1, Nat.mul_one, List.length_map]; omega, (by show 1 ≤ sizeLine; decide), fun c1 n1 => ?_⟩
    rw [jh, show ([V.str (mk (joinL [32] hw))] : List V) = strV [joinL [32] hw] from rfl]
    have E1 : Ex G12 (upd G12 c1 (.lst (strV [joinL [32] hw]))) := Ex.new n1
    have h1 : upd G12 c1 (.lst (strV [joinL [32] hw])) c1 = some (.lst (strV [joinL [32] hw])) := upd_same
    have S1 := S.ex E1
    refine ⟨_, rfl, _, rfl, _, rfl, _, rfl, c, _, rfl, SqL.of S1.c, fun c2 n2 => ?_⟩
    rw [ec1]
    have E2 : Ex (upd G12 c1 (.lst (strV [joinL [32] hw]))) (upd (upd G12 c1 (.lst (strV [joinL [32] hw]))) c2 (.lst (strV ((r.rows.map rowL).take k')))) := Ex.new n2
    refine ⟨c1, c2, _, _, rfl, rfl, E2 _ _ h1, upd_same, sz_of (by rw [strV_len ((r.rows.map rowL).take k'), List.length_take, List.length_map]; show 1 + min _ _ ≤ _; omega), fun c3 n3 => ?_⟩
    rw [show (strV [joinL [32] hw] : List V) ++ strV ((r.rows.map rowL).take k') = strV (joinL [32] hw :: (r.rows.map rowL).take k') from rfl]
    have E3 : Ex (upd (upd G12 c1 (.lst (strV [joinL [32] hw]))) c2 (.lst (strV ((r.rows.map rowL).take k')))) (upd (upd (upd G12 c1 (.lst (strV [joinL [32] hw]))) c2 (.lst (strV ((r.rows.map rowL).take k')))) c3 (.lst (strV (joinL [32] hw :: (r.rows.map rowL).take k')))) := Ex.new n3
    have h3 : upd (upd (upd G12 c1 (.lst (strV [joinL [32] hw]))) c2 (.lst (strV ((r.rows.map rowL).take k')))) c3 (.lst (strV (joinL [32] hw :: (r.rows.map rowL).take k'))) c3 = some (.lst (strV (joinL [32] hw :: (r.rows.map rowL).take k'))) := upd_same
    have E13 := E1.trans (E2.trans E3)
    generalize upd (upd (upd G12 c1 (.lst (strV [joinL [32] hw]))) c2 (.lst (strV ((r.rows.map rowL).take k')))) c3 (.lst (strV (joinL [32] hw :: (r.rows.map rowL).take k'))) = G13 at *
    have S13 := S.ex E13
    refine ⟨⟨_, rfl⟩, _, rfl, _, wa, ww.map mk, rfl, rfl, .inl (SqL.of (E13 _ _ hww)), by rw [e1, Nat.mul_one, List.length_map]; omega, (by show 1 ≤ sizeLine; decide), fun c4 n4 => ?_⟩
    rw [jw, show ([V.str (mk (joinL [32] ww))] : List V) = strV [joinL [32] ww] from rfl]
    have h4 : upd G13 c4 (.lst (strV [joinL [32] ww])) c4 = some (.lst (strV [joinL [32] ww])) := upd_same
    have E4 : Ex G13 (upd G13 c4 (.lst (strV [joinL [32] ww]))) := Ex.new n4
    refine ⟨c3, c4, _, _, rfl, rfl, E4 _ _ h3, h4, sz_of (by rw [strV_len, List.length_cons, List.length_take, List.length_map]; show min _ _ + 1 + 1 ≤ _; omega), fun c5 n5 => ?_⟩
    rw [← strV_app (joinL [32] hw :: (r.rows.map rowL).take k') [joinL [32] ww]]
    have h5 : upd (upd G13 c4 (.lst (strV [joinL [32] ww]))) c5 (.lst (strV (joinL [32] hw :: (r.rows.map rowL).take k' ++ [joinL [32] ww]))) c5 = some (.lst (strV (joinL [32] hw :: (r.rows.map rowL).take k' ++ [joinL [32] ww]))) := upd_same
    have E5 : Ex (upd G13 c4 (.lst (strV [joinL [32] ww]))) (upd (upd G13 c4 (.lst (strV [joinL [32] ww]))) c5 (.lst (strV (joinL [32] hw :: (r.rows.map rowL).take k' ++ [joinL [32] ww])))) := Ex.new n5
    have E45 := E4.trans E5
    generalize upd (upd G13 c4 (.lst (strV [joinL [32] ww]))) c5 (.lst (strV (joinL [32] hw :: (r.rows.map rowL).take k' ++ [joinL [32] ww]))) = G14 at *
    refine ⟨_, rfl, _, rfl, _, _, rfl, rfl, _, rfl, c, _, rfl, SqL.of (S13.ex E45).c, fun c6 n6 => ?_⟩
    rw [ec2]
    refine ⟨c5, c6, _, _, rfl, rfl, (Ex.new n6) _ _ h5, upd_same, sz_of (by rw [strV_len, strV_len, List.length_append, List.length_cons, List.length_take, List.length_drop, List.length_map]; show min _ _ + 1 + 1 + _ ≤ _; omega), fun c7 n7 => ?_⟩
    rw [← strV_app]
    refine q c7 _ _ (X.more (E13.trans (E45.trans ((Ex.new n6).trans (Ex.new n7))))) upd_same ?_
    have es : joinL [32] hw :: (r.rows.map rowL).take k' ++ [joinL [32] ww] ++ (r.rows.map rowL).drop (k' + 1) = joinL [32] hw :: (r.rows.map rowL).set k' (joinL [32] ww) := by
      rw [List.set_eq_take_append_cons_drop, if_pos (by rw [List.length_map]; exact hk)]
      simp
    rw [es]
    exact hno
end
end G
namespace G
open PySem PySem.Spec PyProof.Rows L2 Evl TL
/-! ### rows as data -/
def rowPK (x : List Nat × List Bool) : PyData := .tuple [.str (mk x.1), .tuple (x.2.map PyData.bool)]
theorem strOk_mkK {l : List Nat} (h : ∀ c ∈ l, c < 200) : PyData.strOk (mk l) = true := by
  unfold PyData.strOk
  rw [Array.all_eq_true']
  intro c hc
  have hc : c ∈ l := by
    have := Array.mem_toList_iff.mpr hc
    rwa [show (mk l).cps.toList = l from tl_mkS l] at this
  have := h c hc
  simp
  omega
theorem bls_shape (l : List Bool) : PyData.canLayAll0 (l.map PyData.bool) = true ∧ PyData.depthAll (l.map PyData.bool) = 0 := by
  induction l with
  | nil => exact ⟨rfl, rfl⟩
  | cons b bs h => exact ⟨by simp [PyData.canLayAll0, PyData.canLay0, h.1], by simp [PyData.depthAll, PyData.depth, h.2]⟩
theorem row_shapeK {x : List Nat × List Bool} (h : ∀ c ∈ x.1, c < 200) : PyData.canLay0 (rowPK x) = true ∧ PyData.depth (rowPK x) ≤ 2 := by
  obtain ⟨a1, a2⟩ := bls_shape x.2
  have := strOk_mkK h
  constructor
  · simp [rowPK, PyData.canLay0, PyData.canLayAll0, this, a1]
  · simp [rowPK, PyData.depth, PyData.depthAll, a2]
theorem rows_shapeK : ∀ {l : List (List Nat × List Bool)}, (∀ x ∈ l, ∀ c ∈ x.1, c < 200) → PyData.canLayAll0 (l.map rowPK) = true ∧ PyData.depthAll (l.map rowPK) ≤ 2
  | [], _ => ⟨rfl, Nat.zero_le _⟩
  | x :: l, h => by
    obtain ⟨a, b⟩ := row_shapeK (h x List.mem_cons_self)
    obtain ⟨c, d⟩ := rows_shapeK (l := l) fun y hy => h y (List.mem_cons_of_mem _ hy)
    constructor
    · simp [PyData.canLayAll0, a, c]
    · simp only [List.map_cons, PyData.depthAll]
      omega
theorem rows_shapedK {l : List (List Nat × List Bool)} (h : ∀ x ∈ l, ∀ c ∈ x.1, c < 200) : SeqAt.shaped (.tuple (l.map rowPK)) = true := by
  obtain ⟨a, b⟩ := rows_shapeK h
  unfold SeqAt.shaped
  rw [Bool.and_eq_true]
  refine ⟨by simp [PyData.canLay0, a], decide_eq_true ?_⟩
  simp only [PyData.depth]
  omega
theorem dpAll_rowsK {K : PySem.W.Frag} {H : Hp} : ∀ (fa : List Addr) (l : List (List Nat × List Bool)), All2 (RowAt H) fa l → DpAll K H (fa.map V.ref) (l.map rowPK)
  | [], [], _ => .nil
  | [], _ :: _, h => absurd h.1 (by simp)
  | _ :: _, [], h => absurd h.1 (by simp)
  | a :: fa, x :: l, h => .cons (by
      obtain ⟨bt, h1, h2⟩ := h.2 0 a x rfl rfl
      exact .tup (SqT.of h1) (.cons (.str _) (.cons (.tup (SqT.of h2) (dpAll_map (fun x => .bl x) _)) .nil))) (dpAll_rowsK fa l ⟨by simpa using h.1, fun i b y hb hy => h.2 (i + 1) b y hb hy⟩)
theorem eqv_nilT (l : List PyData) : PyData.eqv (.tuple l) (.tuple []) = l.isEmpty := by
  cases l <;> simp [PyData.eqv, PyData.eqvAll]
theorem run_smallK : ∀ c ∈ tl sRUN, c < 200 := by decide +kernel
theorem name_smallK {n : List Nat} (h : NameL n) : ∀ c ∈ n, c < 200 := fun c hc => by
  by_cases h47 : c = 47
  · omega
  · cases hr : isRun c with
    | true => exact run_smallK c (of_decide_eq_true hr)
    | false => exact absurd hc (name_free h hr h47)
section
variable {P : Program} {w : World} {K : PySem.W.Frag} {mg : Str → Option Value} {base : Heap}
def spDoubled : Sp := fun vs H Q _ => ∃ (c : Addr) (r : RecD), vs = [.ref c] ∧ H c = some (.lst (strV r.lines)) ∧ RecOk r ∧ r.rows ≠ [] ∧ (∀ H', Ex H H' → Q .non H') ∧ (∀ Y H', Ex H H' → NoRec Y → Q (.str (mk Y)) H')
theorem sc_law_doubled : FnScope ["lines", "words", "many", "value", "line"] ["lines"] (defScope s_law_doubled) := ⟨rfl, rfl, rfl, by decide +kernel, rfl, by decide +kernel, by decide +kernel⟩
theorem ok_law_doubled (D : Dfd K mg "_law_doubled" s_law_doubled ["lines"]) (T : TxtS mg) : Has P w K mg base 1 "_law_doubled" ["lines"] spDoubled := by
  refine D.has fun f fd F => F.ok sc_law_doubled (fun vs H Q E h => ?_) (fun cdv A outer s H vs Q E hr h => ?_)
  · obtain ⟨_, _, rfl, _⟩ := h
    rfl
  · obtain ⟨c, r, rfl, hc, ok, hne, q1, q2⟩ := h
    refine ⟨_, (pss_cons (ps_set (i := 1) sc_law_doubled.nd rfl (.inl rfl) (pe_bm PySem.F.plainAttrs_str PySem.F.slot_str_split PySem.F.type_str_split mt_split (pe_ix ix_list (pv 0) pe_int (fun _ _ => rfl)) (pa_cons pe_str pa_nil)))
    (pss_cons (ps_set (i := 2) sc_law_doubled.nd rfl (.inl rfl) (pe_callTy call_int_str (by rfl) T.int (by decide +kernel) (pa_cons (pe_ix ix_list (pe_bm PySem.F.plainAttrs_str PySem.F.slot_str_split PySem.F.type_str_split mt_split (pe_ix ix_list (pv 1) pe_int (fun _ _ => rfl)) (pa_cons pe_str pa_nil)) pe_int (fun _ _ => rfl)) pa_nil)))
    (pss_cons (ps_if (pt_cmpR op_lt (pv 2) pe_int (nomark _))
      (pss_one (ps_ret pe_non))
      pss_nil)
    (pss_cons (ps_set (i := 3) sc_law_doubled.nd rfl (.inl rfl) (pe_ix ix_list (pe_bm PySem.F.plainAttrs_str PySem.F.slot_str_split PySem.F.type_str_split mt_split (pe_ix ix_list (pv 1) pe_int (fun _ _ => rfl)) (pa_cons pe_str pa_nil)) pe_int (fun _ _ => rfl)))
    (pss_cons (ps_set (i := 1) sc_law_doubled.nd rfl (.inl rfl) (pe_op op_cat (pe_op op_cat (pe_slice sl_list (pv 1) po_none (po_some pe_int)) (pe_lst (pa_cons (pe_op op_add_str pe_str (pv 3)) (pa_cons (pe_op op_add_str (pe_op op_add_str (pe_callTy call_str_int (by rfl) T.str (by decide +kernel) (pa_cons (pe_op op_sub (pv 2) pe_int) pa_nil)) pe_str) (pv 3)) pa_nil)))) (pe_slice sl_list (pv 1) (po_some pe_int) po_none)))
    (pss_one (ps_ret (pe_join pe_str (pe_lc (own := [("line", 4)]) (g := gName 4) (tt := tYes) rfl sc_law_doubled.nd (pi_list (pe_op op_cat (pe_lst (pa_cons (pe_ix ix_list (pv 0) pe_int (fun _ _ => rfl)) (pa_cons (pe_join pe_str (pv 1)) pa_nil))) (pe_slice sl_list (pv 0) (po_some pe_int) po_none))) (blkOk_by (N := ["lines", "words", "many", "value", "line"]) (sc := defScope s_law_doubled) (own := [("line", 4)]) (by decide +kernel)) (fun _ _ _ _ _ => (pg_name (i := 4) sc_law_doubled.nd rfl (.inl rfl))) (fun _ _ _ _ _ => pts_nil) (fun _ _ _ _ _ => (pe_op op_add_str (pv 4) pe_str))))))))))), ?_⟩
    obtain ⟨x, rest, er⟩ := List.exists_cons_of_ne_nil hne
    have hx : r.rows[0]? = some x := by rw [er]; rfl
    have hxm := List.mem_of_getElem? hx
    have hrows := ok.rows
    have hsz := ok.size
    have hone := ok.one
    have eL : r.lines = headL r.low r.high :: rowL x :: rest.map rowL := by unfold RecD.lines; rw [er]; rfl
    have hrl : rest.length ≤ 3 := by rw [er, List.length_cons] at hrows; omega
    obtain ⟨w1, w2, w3, w4, w5⟩ := rowWk_ok ok hxm
    have hrow := rowL_ok ok hxm
    have hcL := hc
    rw [eL] at hcL
    obtain ⟨⟨m, b⟩, fs, hfs⟩ : ∃ p fs, runsB x.2 = p :: fs := by
      refine List.exists_cons_of_ne_nil fun z => ?_
      have := exp_size ok hxm
      rw [z] at this
      have this : 0 = r.size := this
      omega
    have hm41 : 1 ≤ m ∧ m ≤ 41 := w2 (m, b) (by rw [hfs]; exact List.mem_cons_self)
    have hfl : fs.length ≤ 40 := by rw [hfs, List.length_cons] at w1; omega
    have hpl := piece_len (p := (m, b)) (by show m < 1000; omega)
    have eW : rowWk x = x.1 :: pieceL (m, b) :: fs.map pieceL := by unfold rowWk; rw [hfs]; rfl
    have fm : Few ((m : Nat) : Int) := few_small (by omega)
    have im : PySem.intText? (mk (numL m)) = some ((m : Nat) : Int) := by rw [← intL_nat]; exact int_back fm
    have lm := numL_few (n := m) (by omega)
    refine ⟨_, rfl, _, _, _, _, rfl, rfl, SqL.of hcL, atI_nat (j := 1) rfl, rfl, _, _, rfl, rfl, by decide, sz_of (by rw [mk_len]; omega), ?_⟩
    rw [show Txt.split (mk (rowL x)) (" " : Str) = (rowWk x).map mk from split_mk k32 fun l hl => (w5 l hl).1]
    intro wd nwd
    have e4 : ((rowWk x).map mk).map V.str = strV (rowWk x) := by rw [List.map_map]; rfl
    rw [e4]
    have E1 : Ex H (upd H wd (.lst (strV (rowWk x)))) := Ex.new nwd
    have hw : upd H wd (.lst (strV (rowWk x))) wd = some (.lst (strV (rowWk x))) := upd_same
    dsimp only [gName, tSeq, tAsg]
    generalize upd H wd (.lst (strV (rowWk x))) = H1 at *
    have ejp : pieceL (m, b) = joinL [120] [numL m, [bitL b]] := rfl
    have es3 : Txt.split (mk (pieceL (m, b))) ("x" : Str) = [numL m, [bitL b]].map mk := by
      rw [ejp]
      refine split_mk k120 fun l hl => ?_
      rcases List.mem_cons.mp hl with z | z
      · rw [z]; exact numL_free (by decide)
      · rw [List.mem_singleton.mp z]; exact bit_free b (by decide)
    have e6 : ([numL m, [bitL b]].map mk).map V.str = strV [numL m, [bitL b]] := rfl
    have hlj : (strV (rowWk x))[1]? = some (.str (mk (pieceL (m, b)))) := strV_get (by rw [eW]; rfl)
    refine ⟨_, rfl, _, _, _, _, rfl, rfl, SqL.of hw, atI_nat (j := 1) hlj, rfl, _, _, rfl, rfl, by decide, sz_of (by rw [mk_len]; omega), ?_⟩
    rw [es3]
    intro l1 n1
    rw [e6]
    have E2 : Ex H1 (upd H1 l1 (.lst (strV [numL m, [bitL b]]))) := Ex.new n1
    have h1 : upd H1 l1 (.lst (strV [numL m, [bitL b]])) l1 = some (.lst (strV [numL m, [bitL b]])) := upd_same
    refine ⟨_, _, _, _, rfl, rfl, SqL.of h1, atI_nat (j := 0) rfl, _, (m : Nat), rfl, im, by rw [mk_len]; omega, ?_⟩
    have E12 := E1.trans E2
    have hw2 := E2 _ _ hw
    dsimp only [gName, tSeq, tAsg]
    generalize upd H1 l1 (.lst (strV [numL m, [bitL b]])) = H2 at *
    by_cases hm2 : (m : Int) < 2
    · exact ⟨_, rfl, _, _, rfl, rfl, _, rfl, iteY (decide_eq_true hm2) (q1 _ E12)⟩
    refine ⟨_, rfl, _, _, rfl, rfl, _, rfl, iteN (decide_eq_false hm2) ?_⟩
    refine ⟨_, rfl, _, _, _, _, rfl, rfl, SqL.of hw2, atI_nat (j := 1) hlj, rfl, _, _, rfl, rfl, by decide, sz_of (by rw [mk_len]; omega), ?_⟩
    rw [es3]
    intro l3 n3
    rw [e6]
    have E3 : Ex H2 (upd H2 l3 (.lst (strV [numL m, [bitL b]]))) := Ex.new n3
    have h3 : upd H2 l3 (.lst (strV [numL m, [bitL b]])) l3 = some (.lst (strV [numL m, [bitL b]])) := upd_same
    refine ⟨_, _, _, _, rfl, rfl, SqL.of h3, atI_nat (j := 1) rfl, ?_⟩
    have E13 := E12.trans E3
    have hw3 := E3 _ _ hw2
    dsimp only [gName, tSeq, tAsg]
    generalize upd H2 l3 (.lst (strV [numL m, [bitL b]])) = H3 at *
    have hwl : (strV (rowWk x)).length = fs.length + 2 := by rw [strV_len, eW, List.length_cons, List.length_cons, List.length_map]
    have ct : cutV (strV (rowWk x)) none (some 1) = strV [x.1] := by
      have : cutV (strV (rowWk x)) none (some ((1 : Nat) : Int)) = _ := cutV_head (by omega)
      rw [show (1 : Int) = ((1 : Nat) : Int) from rfl, this, strV_take]; rfl
    have cd : cutV (strV (rowWk x)) (some 2) none = strV (fs.map pieceL) := by
      have : cutV (strV (rowWk x)) (some ((2 : Nat) : Int)) none = _ := cutV_tail (by omega)
      rw [show (2 : Int) = ((2 : Nat) : Int) from rfl, this, strV_drop, eW]; rfl
    refine ⟨_, rfl, _, rfl, wd, _, rfl, SqL.of hw3, fun c1 m1 => ?_⟩
    rw [ct]
    have E4 : Ex H3 (upd H3 c1 (.lst (strV [x.1]))) := Ex.new m1
    have g1 : upd H3 c1 (.lst (strV [x.1])) c1 = some (.lst (strV [x.1])) := upd_same
    have u1 : ("1x" : Str).length = 2 := by decide +kernel
    have ux : ("x" : Str).length = 1 := by decide +kernel
    have es1 : ("1x" : Str) ++ mk [bitL b] = mk (pieceL (1, b)) := by cases b <;> decide +kernel
    have em1 : ((m : Nat) : Int) - 1 = ((m - 1 : Nat) : Int) := by omega
    have fm1 : Few (((m : Nat) : Int) - 1) := by rw [em1]; exact few_small (by omega)
    have es2 : (Str.ofString (toString (((m : Nat) : Int) - 1)) ++ ("x" : Str)) ++ mk [bitL b] = mk (pieceL (m - 1, b)) := by
      rw [str_int, em1, intL_nat]
      show (mk (numL (m - 1)) ++ mk [120]) ++ mk [bitL b] = _
      rw [mk_app, mk_app, List.append_assoc]; rfl
    have l1' : (Str.ofString (toString (((m : Nat) : Int) - 1))).length ≤ 61 := by rw [str_int, mk_len]; exact few_len fm1
    refine ⟨_, rfl, _, _, rfl, rfl, sz_of (by rw [u1, mk_len]; show 2 + 1 ≤ _; decide), _, rfl, _, _, rfl, rfl, _, rfl, few_log fm1, _, _, rfl, rfl, sz_of (by rw [ux]; omega), _, rfl, _, _, rfl, rfl, ?_, (by show 2 ≤ sizeLine; decide), fun c2 m2 => ?_⟩
    · exact sz_of (by rw [str_len_app, ux, mk_len]; show _ + 1 + 1 ≤ _; omega)
    rw [es1, es2, show ([V.str (mk (pieceL (1, b))), V.str (mk (pieceL (m - 1, b)))] : List V) = strV [pieceL (1, b), pieceL (m - 1, b)] from rfl]
    have E5 : Ex (upd H3 c1 (.lst (strV [x.1]))) (upd (upd H3 c1 (.lst (strV [x.1]))) c2 (.lst (strV [pieceL (1, b), pieceL (m - 1, b)]))) := Ex.new m2
    refine ⟨c1, c2, _, _, rfl, rfl, E5 _ _ g1, upd_same, (by show 1 + 2 ≤ sizeLine; decide), fun c3 m3 => ?_⟩
    rw [show (strV [x.1] : List V) ++ strV [pieceL (1, b), pieceL (m - 1, b)] = strV [x.1, pieceL (1, b), pieceL (m - 1, b)] from rfl]
    have E6 : Ex (upd (upd H3 c1 (.lst (strV [x.1]))) c2 (.lst (strV [pieceL (1, b), pieceL (m - 1, b)]))) (upd (upd (upd H3 c1 (.lst (strV [x.1]))) c2 (.lst (strV [pieceL (1, b), pieceL (m - 1, b)]))) c3 (.lst (strV [x.1, pieceL (1, b), pieceL (m - 1, b)]))) := Ex.new m3
    have g3 : upd (upd (upd H3 c1 (.lst (strV [x.1]))) c2 (.lst (strV [pieceL (1, b), pieceL (m - 1, b)]))) c3 (.lst (strV [x.1, pieceL (1, b), pieceL (m - 1, b)])) c3 = some (.lst (strV [x.1, pieceL (1, b), pieceL (m - 1, b)])) := upd_same
    have E46 := E4.trans (E5.trans E6)
    refine ⟨_, rfl, _, rfl, wd, _, rfl, SqL.of (E46 _ _ hw3), fun c4 m4 => ?_⟩
    rw [cd]
    refine ⟨c3, c4, _, _, rfl, rfl, (Ex.new m4) _ _ g3, upd_same, sz_of (by rw [strV_len (fs.map pieceL), List.length_map]; show 3 + _ ≤ _; omega), fun c5 m5 => ?_⟩
    have ev : strV [x.1, pieceL (1, b), pieceL (m - 1, b)] ++ strV (fs.map pieceL) = strV ([x.1] ++ [pieceL (1, b), pieceL (m - 1, b)] ++ fs.map pieceL) := by rw [← strV_app]; rfl
    rw [ev]
    have E7 : Ex (upd (upd (upd H3 c1 (.lst (strV [x.1]))) c2 (.lst (strV [pieceL (1, b), pieceL (m - 1, b)]))) c3 (.lst (strV [x.1, pieceL (1, b), pieceL (m - 1, b)]))) (upd (upd (upd (upd (upd H3 c1 (.lst (strV [x.1]))) c2 (.lst (strV [pieceL (1, b), pieceL (m - 1, b)]))) c3 (.lst (strV [x.1, pieceL (1, b), pieceL (m - 1, b)]))) c4 (.lst (strV (fs.map pieceL)))) c5 (.lst (strV ([x.1] ++ [pieceL (1, b), pieceL (m - 1, b)] ++ fs.map pieceL)))) := (Ex.new m4).trans (Ex.new m5)
    have g5 : upd (upd (upd (upd (upd H3 c1 (.lst (strV [x.1]))) c2 (.lst (strV [pieceL (1, b), pieceL (m - 1, b)]))) c3 (.lst (strV [x.1, pieceL (1, b), pieceL (m - 1, b)]))) c4 (.lst (strV (fs.map pieceL)))) c5 (.lst (strV ([x.1] ++ [pieceL (1, b), pieceL (m - 1, b)] ++ fs.map pieceL))) c5 = some (.lst (strV ([x.1] ++ [pieceL (1, b), pieceL (m - 1, b)] ++ fs.map pieceL))) := upd_same
    have hno := formKD ok hx hfs (by omega : 2 ≤ m)
    have bww : Bd ([x.1] ++ [pieceL (1, b), pieceL (m - 1, b)] ++ fs.map pieceL) := ⟨x.1, [pieceL (1, b), pieceL (m - 1, b)] ++ fs.map pieceL, rfl, by rw [List.length_append, List.length_map]; show 2 + _ ≤ 60; omega, fun q hq => by
      have old : q ∈ rowWk x → q.length ≤ 70 := fun z => by have := (w5 q z).2.2; omega
      rcases List.mem_cons.mp hq with z | z
      · exact old (by rw [z]; exact List.mem_cons_self)
      · rcases List.mem_append.mp z with z | z
        · have h1 := (piece_ok 1 b (by decide)).2.2
          have h2 := (piece_ok (m - 1) b (by omega)).2.2
          simp only [List.mem_cons, List.not_mem_nil, or_false] at z
          rcases z with z | z <;> rw [z] <;> omega
        · exact old (by rw [eW]; exact List.mem_cons_of_mem _ (List.mem_cons_of_mem _ z))⟩
    have E07 := E13.trans (E46.trans E7)
    generalize [x.1] ++ [pieceL (1, b), pieceL (m - 1, b)] ++ fs.map pieceL = ww at *
    dsimp only [gName, tSeq, tAsg]
    generalize upd (upd (upd (upd (upd H3 c1 (.lst (strV [x.1]))) c2 (.lst (strV [pieceL (1, b), pieceL (m - 1, b)]))) c3 (.lst (strV [x.1, pieceL (1, b), pieceL (m - 1, b)]))) c4 (.lst (strV (fs.map pieceL)))) c5 (.lst (strV ww)) = H7 at *
    obtain ⟨jw, lw⟩ := bww.join
    have e1 : (" " : Str).length = 1 := by decide +kernel
    have smap : ∀ l : List (List Nat), strV l = (l.map mk).map V.str := fun l => by unfold strV; rw [List.map_map]; rfl
    have hh := g5
    rw [smap] at hh
    have hc7 := E07 _ _ hcL
    refine ⟨⟨_, rfl⟩, _, rfl, _, _, _, _, rfl, rfl, SqL.of hc7, atI_nat (j := 0) rfl, ⟨_, rfl⟩, _, rfl, _, c5, ww.map mk, rfl, rfl, .inl (SqL.of hh), by rw [e1, Nat.mul_one, List.length_map]; omega, (by show 2 ≤ sizeLine; decide), fun d1 o1 => ?_⟩
    rw [jw, show ([V.str (mk (headL r.low r.high)), V.str (mk (joinL [32] ww))] : List V) = strV [headL r.low r.high, joinL [32] ww] from rfl]
    have F1 : Ex H7 (upd H7 d1 (.lst (strV [headL r.low r.high, joinL [32] ww]))) := Ex.new o1
    have f1 : upd H7 d1 (.lst (strV [headL r.low r.high, joinL [32] ww])) d1 = some (.lst (strV [headL r.low r.high, joinL [32] ww])) := upd_same
    have cl : cutV (V.str (mk (headL r.low r.high)) :: .str (mk (rowL x)) :: strV (rest.map rowL)) (some 2) none = strV (rest.map rowL) := by
      have : cutV (V.str (mk (headL r.low r.high)) :: .str (mk (rowL x)) :: strV (rest.map rowL)) (some ((2 : Nat) : Int)) none = _ := cutV_tail (by rw [List.length_cons, List.length_cons]; omega)
      rw [show (2 : Int) = ((2 : Nat) : Int) from rfl, this]; rfl
    have hc8 : H7 c = some (.lst (V.str (mk (headL r.low r.high)) :: .str (mk (rowL x)) :: strV (rest.map rowL))) := hc7
    refine ⟨_, rfl, _, rfl, c, _, rfl, SqL.of (F1 _ _ hc8), fun d2 o2 => ?_⟩
    rw [cl]
    refine ⟨d1, d2, _, _, rfl, rfl, (Ex.new o2) _ _ f1, upd_same, sz_of (by rw [strV_len (rest.map rowL), List.length_map]; show 2 + _ ≤ _; omega), fun d3 o3 => ?_⟩
    rw [show (strV [headL r.low r.high, joinL [32] ww] : List V) ++ strV (rest.map rowL) = strV (headL r.low r.high :: joinL [32] ww :: rest.map rowL) from rfl]
    have ers : headL r.low r.high :: (r.rows.map rowL).set 0 (joinL [32] ww) = headL r.low r.high :: joinL [32] ww :: rest.map rowL := by rw [er]; rfl
    rw [ers] at hno
    have F2 : Ex (upd H7 d1 (.lst (strV [headL r.low r.high, joinL [32] ww]))) (upd (upd (upd H7 d1 (.lst (strV [headL r.low r.high, joinL [32] ww]))) d2 (.lst (strV (rest.map rowL)))) d3 (.lst (strV (headL r.low r.high :: joinL [32] ww :: rest.map rowL)))) := (Ex.new o2).trans (Ex.new o3)
    have f3 : upd (upd (upd H7 d1 (.lst (strV [headL r.low r.high, joinL [32] ww]))) d2 (.lst (strV (rest.map rowL)))) d3 (.lst (strV (headL r.low r.high :: joinL [32] ww :: rest.map rowL))) d3 = some (.lst (strV (headL r.low r.high :: joinL [32] ww :: rest.map rowL))) := upd_same
    have F12 := E07.trans (F1.trans F2)
    generalize upd (upd (upd H7 d1 (.lst (strV [headL r.low r.high, joinL [32] ww]))) d2 (.lst (strV (rest.map rowL)))) d3 (.lst (strV (headL r.low r.high :: joinL [32] ww :: rest.map rowL))) = H8 at *
    generalize headL r.low r.high :: joinL [32] ww :: rest.map rowL = ls at *
    have hnl := hno.len
    have hfew := textOf_few ls
    have un : ("\n" : Str).length = 1 := by decide +kernel
    have e10 : ∀ l : List Nat, mk l ++ ("\n" : Str) = mk (l ++ [10]) := fun l => mk_app l [10]
    refine ⟨d3, rfl, ⟨_, SqL.of f3⟩, fun R nR => wk_list (K := K) (a := d3) (xs := strV ls) (fun k H' => Ex H8 H' ∧ H' R = some (.lst (strV ((ls.take k).map (· ++ [10]))))) ⟨Ex.new nR, upd_same⟩ (fun k H' _ g => SqL.of (g.1 _ _ f3)) ?_ ?_⟩
    · rintro k y H9 hy ⟨E9, hR⟩
      unfold strV at hy
      rw [List.getElem?_map] at hy
      obtain ⟨l, hl, rfl⟩ := Option.map_eq_some_iff.mp hy
      have hlo := textOf_mem (List.mem_of_getElem? hl)
      have hj := (List.getElem?_eq_some_iff.mp hl).1
      refine ⟨rfl, tYes_in ?_⟩
      simp only [wipe, _root_.L2.start, List.map_cons, List.map_nil, List.length_cons, List.length_nil, Nat.reduceAdd, Nat.reduceSub, List.replicate_succ, List.replicate_zero, List.cons_append, List.nil_append, List.set_cons_zero, List.set_cons_succ]
      refine ⟨_, rfl, _, _, rfl, rfl, sz_of (by rw [mk_len, un]; omega), _, hR, ?_, E9.mut nR, ?_⟩
      · rw [strV_len, List.length_map, List.length_take]; exact sz_lt (by omega)
      · rw [upd_same, take_snoc1 hl, e10]
        unfold strV
        rw [List.map_append, List.map_append]; rfl
    rintro H9 ⟨E9, hR⟩
    rw [strV_len, List.take_length, smap] at hR
    have ejoin : Txt.join ("" : Str) ((ls.map (· ++ [10])).map mk) = mk (textOf ls) := by
      cases ls with
      | nil => decide +kernel
      | cons y ys =>
        unfold textOf
        rw [List.map_cons, show ("" : Str) = mk [] from rfl, join_mk, joinL_nil]
    refine ⟨_, R, (ls.map (· ++ [10])).map mk, rfl, rfl, .inl (SqL.of hR), ?_, ?_⟩
    · have e0 : ("" : Str).length = 0 := rfl
      rw [e0, Nat.mul_zero, textOf_sum]; omega
    · rw [ejoin]
      exact q2 _ _ (F12.trans E9) hno
end
end G
namespace G
open PySem PySem.Spec PyProof.Rows L2 Evl TL
theorem rec_same {r : RecD} (ok : RecOk r) {lo hi : Int} {rws : List (List Nat × List (Nat × Bool))} (h : IsRecK r.text lo hi rws) : lo = r.low ∧ hi = r.high ∧ rws = r.rows.map fun x => (x.1, runsB x.2) := by
  have hl : IsLines r.text r.lines := lines_textOf (ls := r.lines) (by unfold RecD.lines; simp) fun l hl => (lines_ok ok l hl).1
  have e := rec_lines hl h
  have e2 := rec_lines hl (rec_of ok)
  rw [e2] at e
  injection e with e3 e4
  have h0 := rec_of ok
  obtain ⟨a, b⟩ := isHead_inj (Y := headL lo hi) ⟨rfl, h.2.1, h.2.2.1, h.2.2.2.1⟩ ⟨e3.symm, ok.low, ok.high, h0.2.2.2.1⟩
  exact ⟨a, b, rowsF_inj (fun x hx => (h.2.2.2.2 x hx).1) (fun x hx => (h0.2.2.2.2 x hx).1) e4.symm⟩
theorem recAt_of {H : Hp} {a : Addr} {r : RecD} (h : RecKAt H a r.low r.high (r.rows.map fun x => (x.1, runsB x.2))) : RecAt H a r := by
  obtain ⟨rt, ra, h1, h2, h3⟩ := h
  refine ⟨rt, ra, h1, h2, by rw [← List.length_map (f := fun x : List Nat × List Bool => (x.1, runsB x.2)), ← h3.1], fun i b x hb hx => ?_⟩
  have this : RowAt H b (x.1, expB (runsB x.2)) := h3.2 i b (x.1, runsB x.2) hb (by rw [List.getElem?_map, hx]; rfl)
  rw [(runs_all x.2).1] at this
  exact this
section
variable {P : Program} {w : World} {K : PySem.W.Frag} {mg : Str → Option Value} {base : Heap}
def spLaw (K : PySem.W.Frag) : Sp := fun vs H Q _ => ∃ (a : Addr) (ns : List Int), vs = [.ref a] ∧ SqL K H a (ns.map V.int) ∧ ns.length ≤ 63 ∧ ∀ H', Q (.bl true) H'
theorem sc_law : FnScope ["script", "pool", "turn", "record", "text", "spoilt", "twice", "line"] ["script"] (defScope s_law) := ⟨rfl, rfl, rfl, by decide +kernel, rfl, by decide +kernel, by decide +kernel⟩
theorem fn_law {B : Addr} {f : Addr} {fd : FuncData} (F : Fun K "law" "law" s_law f fd) (T : TxtS mg)
    (C1 : Has P w K mg base 1 "_law_pool" ["script"] (spPool K)) (C2 : Has P w K mg base 5 "_law_record" ["pool"] spRecord) (C3 : Has P w K mg base 1 "_law_text" ["record"] spText) (C4 : Has P w K mg base 5 "_law_same" ["actual", "due"] (spSame 5))
    (C5 : Has P w K mg base 3 "_law_spoilt" ["pool", "lines"] spSpoiltK) (C6 : Has P w K mg base 5 "_law_refused" ["text"] spRefusedK) (C7 : Has P w K mg base 1 "_law_doubled" ["lines"] spDoubled)
    (C8 : HasX P w K mg base 4 "read_record" ["text"] (spRecK B)) : FnOk P w K mg base CX0 6 f fd ["script"] (spLaw K) := by
  obtain ⟨f_law_pool, d_law_pool, G_law_pool, g_law_pool, k_law_pool, b_law_pool⟩ := C1
  obtain ⟨f_law_record, d_law_record, G_law_record, g_law_record, k_law_record, b_law_record⟩ := C2
  obtain ⟨f_law_text, d_law_text, G_law_text, g_law_text, k_law_text, b_law_text⟩ := C3
  obtain ⟨f_law_same, d_law_same, G_law_same, g_law_same, k_law_same, b_law_same⟩ := C4
  obtain ⟨f_law_spoilt, d_law_spoilt, G_law_spoilt, g_law_spoilt, k_law_spoilt, b_law_spoilt⟩ := C5
  obtain ⟨f_law_refused, d_law_refused, G_law_refused, g_law_refused, k_law_refused, b_law_refused⟩ := C6
  obtain ⟨f_law_doubled, d_law_doubled, G_law_doubled, g_law_doubled, k_law_doubled, b_law_doubled⟩ := C7
  obtain ⟨f_read_record, d_read_record, G_read_record, g_read_record, k_read_record, b_read_record⟩ := C8
  refine F.ok sc_law (fun vs H Q E h => ?_) (fun cdv A outer s H vs Q E hr h => ?_)
  · obtain ⟨a, ns, rfl, _⟩ := h
    rfl
  · obtain ⟨sa, ns, rfl, hs, hn, q⟩ := h
    refine ⟨_, (pss_cons (ps_set (i := 1) sc_law.nd rfl (.inl rfl) (pe_call G_law_pool (hr.mono (by omega)) (by rfl) g_law_pool k_law_pool b_law_pool .nil pass0 (pa_cons (pv 0) pa_nil)))
    (pss_cons (ps_for PassesOwn.never rfl (pi_range1 rfl T.range (pa_cons pe_int pa_nil)) (pg_name (i := 2) sc_law.nd rfl (.inl rfl))
      (pss_cons (ps_set (i := 3) sc_law.nd rfl (.inl rfl) (pe_call G_law_record (hr.mono (by omega)) (by rfl) g_law_record k_law_record b_law_record .nil pass0 (pa_cons (pv 1) pa_nil)))
      (pss_one (ps_if (pt_cmpR (op_neD hr.units) (pe_ix ix_tup (pv 3) pe_int (fun _ _ => rfl)) (pe_tup pa_nil) (nomark _))
        (pss_cons (ps_set (i := 4) sc_law.nd rfl (.inl rfl) (pe_call G_law_text (hr.mono (by omega)) (by rfl) g_law_text k_law_text b_law_text .nil pass0 (pa_cons (pv 3) pa_nil)))
        (pss_cons (ps_if (pt_not (pt_val (pe_call G_law_same (hr.mono (by omega)) (by rfl) g_law_same k_law_same b_law_same .nil pass0 (pa_cons (pe_call G_read_record (hr.mono (by omega)) (by rfl) g_read_record k_read_record b_read_record .nil passX0 (pa_cons (pv 4) pa_nil)) (pa_cons (pv 3) pa_nil)))))
          (pss_one (ps_ret pe_bl))
          pss_nil)
        (pss_cons (ps_set (i := 5) sc_law.nd rfl (.inl rfl) (pe_call G_law_spoilt (hr.mono (by omega)) (by rfl) g_law_spoilt k_law_spoilt b_law_spoilt .nil pass0 (pa_cons (pv 1) (pa_cons (pe_bm PySem.F.plainAttrs_str PySem.F.slot_str_split PySem.F.type_str_split mt_split (pe_slice sl_str (pv 4) po_none (po_some (pe_un un_neg pe_int))) (pa_cons pe_str pa_nil)) pa_nil))))
        (pss_cons (ps_if (pt_not (pt_val (pe_call G_law_refused (hr.mono (by omega)) (by rfl) g_law_refused k_law_refused b_law_refused .nil pass0 (pa_cons (pe_join pe_str (pe_lc (own := [("line", 7)]) (g := gName 7) (tt := tYes) rfl sc_law.nd (pi_list (pv 5)) (blkOk_by (N := ["script", "pool", "turn", "record", "text", "spoilt", "twice", "line"]) (sc := defScope s_law) (own := [("line", 7)]) (by decide +kernel)) (fun _ _ _ _ _ => (pg_name (i := 7) sc_law.nd rfl (.inl rfl))) (fun _ _ _ _ _ => pts_nil) (fun _ _ _ _ _ => (pe_op op_add_str (pv 7) pe_str)))) pa_nil))))
          (pss_one (ps_ret pe_bl))
          pss_nil)
        (pss_cons (ps_if (PW.pt (pw_or (pt_not (pt_val (pe_call G_law_refused (hr.mono (by omega)) (by rfl) g_law_refused k_law_refused b_law_refused .nil pass0 (pa_cons (pe_slice sl_str (pv 4) po_none (po_some (pe_un un_neg pe_int))) pa_nil)))) (pw_or (pt_not (pt_val (pe_call G_law_refused (hr.mono (by omega)) (by rfl) g_law_refused k_law_refused b_law_refused .nil pass0 (pa_cons (pe_op op_add_str (pv 4) pe_str) pa_nil)))) (pw_or1 (pt_not (pt_val (pe_call G_law_refused (hr.mono (by omega)) (by rfl) g_law_refused k_law_refused b_law_refused .nil pass0 (pa_cons (pe_op op_add_str pe_str (pv 4)) pa_nil))))))))
          (pss_one (ps_ret pe_bl))
          pss_nil)
        (pss_cons (ps_set (i := 6) sc_law.nd rfl (.inl rfl) (pe_call G_law_doubled (hr.mono (by omega)) (by rfl) g_law_doubled k_law_doubled b_law_doubled .nil pass0 (pa_cons (pe_bm PySem.F.plainAttrs_str PySem.F.slot_str_split PySem.F.type_str_split mt_split (pe_slice sl_str (pv 4) po_none (po_some (pe_un un_neg pe_int))) (pa_cons pe_str pa_nil)) pa_nil)))
        (pss_one (ps_if (PW.pt (pw_and (pt_cmpR op_notN (pv 6) pe_non (nomark _)) (pw_and1 (pt_not (pt_val (pe_call G_law_refused (hr.mono (by omega)) (by rfl) g_law_refused k_law_refused b_law_refused .nil pass0 (pa_cons (pv 6) pa_nil)))))))
          (pss_one (ps_ret pe_bl))
          pss_nil))))))))
        pss_nil))))
    (pss_one (ps_ret (pe_and (pe_call G_law_refused (hr.mono (by omega)) (by rfl) g_law_refused k_law_refused b_law_refused .nil pass0 (pa_cons pe_str pa_nil)) (pe_one (pe_call G_law_refused (hr.mono (by omega)) (by rfl) g_law_refused k_law_refused b_law_refused .nil pass0 (pa_cons pe_str pa_nil)))))))), ?_⟩
    refine ⟨_, rfl, sa, ns, rfl, hs, by omega, fun p a H0 hp _ _ => ⟨_, rfl, by decide, by decide, for_range (n := ((5 : Nat) : Int).toNat)
      (fun k σ H' => PoolOk p a H' ∧ ∃ y2 y3 y4 y5 y6 y7 : Option V, σ = [some (.ref sa), some (.ref p), y2, y3, y4, y5, y6, y7]) ⟨hp, _, _, _, _, _, _, rfl⟩ ?_ ?_⟩⟩
    · rintro k σ H1 hk ⟨hp1, y2, y3, y4, y5, y6, y7, rfl⟩
      refine ⟨_, rfl, p, a, rfl, hp1, fun c r H2 X2 ok hrec => ?_⟩
      have hrec' := hrec
      obtain ⟨rt, ra, hc1, hrt, hA⟩ := hrec'
      have hrows := ok.rows
      refine ⟨_, rfl, _, _, _, _, rfl, rfl, SqT.of hc1, atI_nat (j := 2) rfl, Nat.zero_le _, fun t0 nt0 => ?_⟩
      have E3 : Ex H2 (upd H2 t0 (.tup [])) := Ex.new nt0
      have hrec3 := hrec.ex E3
      have hA3 := hA.imp fun _ _ z => z.ex E3
      refine ⟨_, _, .tup (SqT.of (E3 _ _ hrt)) (dpAll_rowsK ra _ hA3), .tup (SqT.of (xs := []) upd_same) .nil, rows_shapedK (fun x hx => name_smallK (ok.row x hx).1), by decide +kernel, ?_⟩
      rw [eqv_nilT]
      generalize upd H2 t0 (.tup []) = H3 at *
      by_cases hne : r.rows = []
      · refine ⟨_, rfl, iteN (by rw [hne]; rfl) ?_⟩
        exact ⟨X2.pool.kept E3, _, _, _, _, _, _, rfl⟩
      refine ⟨_, rfl, iteY (by cases hr : r.rows with | nil => exact absurd hr hne | cons x l => rfl) ?_⟩
      refine ⟨_, rfl, c, r, rfl, hrec3, ok, ?_⟩
      have htl := text_len ok
      refine ⟨_, rfl, r.text, rfl, by omega, fun lo hi rws t H4 hR E4 ht => ?_, fun hno => (hno _ _ _ (rec_of ok)).elim⟩
      obtain ⟨rfl, rfl, rfl⟩ := rec_same ok hR
      have hb := recAt_of ht
      refine ⟨_, rfl, _, _, recD r, rfl, rep_rec hb, rep_rec (hrec3.ex E4), okD_rec ok, _, rfl, iteF ?_⟩
      obtain ⟨X, eX⟩ := text_end r
      have eXj : X = joinL [10] (headL r.low r.high :: r.rows.map rowL) := by
        have : r.text = joinL [10] (headL r.low r.high :: r.rows.map rowL) ++ [10] := joinL_end [10] _ _
        exact (List.append_inj' (eX.symm.trans this) rfl).1
      have lX : X.length + 1 = r.text.length := by rw [eX, List.length_append]; rfl
      have esp : Txt.split (mk X) ("\n" : Str) = r.lines.map mk := by
        rw [eXj]
        exact split_mk k10 fun l hl => (lines_ok ok l hl).1
      have smap : ∀ l : List (List Nat), (l.map mk).map V.str = strV l := fun l => by unfold strV; rw [List.map_map]; rfl
      have X24 := X2.more (E3.trans E4)
      refine ⟨_, rfl, _, rfl, _, rfl, _, rfl, _, rfl, sz_of (by rw [mk_len]; omega), rfl, _, _, rfl, rfl, by decide, ?_, ?_⟩
      · rw [eX, cut_snoc, mk_len]; exact sz_of (by omega)
      rw [eX, cut_snoc, esp]
      intro L nL
      rw [smap]
      have E5 : Ex H4 (upd H4 L (.lst (strV r.lines))) := Ex.new nL
      have hL : upd H4 L (.lst (strV r.lines)) L = some (.lst (strV r.lines)) := upd_same
      have X25 := X24.more E5
      refine ⟨p, a, L, r, rfl, X25.pool, hL, ok, hne, fun d ls H6 X6 hd hno => ?_⟩
      have hnl := hno.len
      have hfew := textOf_few ls
      have un : ("\n" : Str).length = 1 := by decide +kernel
      have e10 : ∀ l : List Nat, mk l ++ ("\n" : Str) = mk (l ++ [10]) := fun l => mk_app l [10]
      refine ⟨⟨_, rfl⟩, _, rfl, d, rfl, ⟨_, SqL.of hd⟩, fun R nR => wk_list (K := K) (a := d) (xs := strV ls) (fun k H' => Ex H6 H' ∧ H' R = some (.lst (strV ((ls.take k).map (· ++ [10]))))) ⟨Ex.new nR, upd_same⟩ (fun k H' _ g => SqL.of (g.1 _ _ hd)) ?_ ?_⟩
      · rintro k y H9 hy ⟨E9, hR⟩
        unfold strV at hy
        rw [List.getElem?_map] at hy
        obtain ⟨l, hl, rfl⟩ := Option.map_eq_some_iff.mp hy
        have hlo := textOf_mem (List.mem_of_getElem? hl)
        have hj := (List.getElem?_eq_some_iff.mp hl).1
        refine ⟨rfl, tYes_in ?_⟩
        simp only [wipe, _root_.L2.start, List.map_cons, List.map_nil, List.length_cons, List.length_nil, Nat.reduceAdd, Nat.reduceSub, List.replicate_succ, List.replicate_zero, List.cons_append, List.nil_append, List.set_cons_zero, List.set_cons_succ]
        refine ⟨_, rfl, _, _, rfl, rfl, sz_of (by rw [mk_len, un]; omega), _, hR, ?_, E9.mut nR, ?_⟩
        · rw [strV_len, List.length_map, List.length_take]; exact sz_lt (by omega)
        · rw [upd_same, take_snoc1 hl, e10]
          unfold strV
          rw [List.map_append, List.map_append]; rfl
      rintro H9 ⟨E9, hR⟩
      rw [strV_len, List.take_length, ← smap] at hR
      have ejoin : Txt.join ("" : Str) ((ls.map (· ++ [10])).map mk) = mk (textOf ls) := by
        cases ls with
        | nil => decide +kernel
        | cons y ys =>
          unfold textOf
          rw [List.map_cons, show ("" : Str) = mk [] from rfl, join_mk, joinL_nil]
      refine ⟨_, R, (ls.map (· ++ [10])).map mk, rfl, rfl, .inl (SqL.of hR), ?_, ?_⟩
      · have e0 : ("" : Str).length = 0 := rfl
        rw [e0, Nat.mul_zero, textOf_sum]; omega
      rw [ejoin]
      refine ⟨_, rfl, hno, fun H10 E10 => ⟨_, rfl, iteF ?_⟩⟩
      refine ⟨_, rfl, _, rfl, _, rfl, _, rfl, sz_of (by rw [mk_len, List.length_append]; show _ + 1 ≤ _; omega), ?_⟩
      rw [cut_snoc]
      refine ⟨X, rfl, norec_less ok eX, fun H11 E11 => ⟨_, rfl, iteF ⟨_, rfl, _, _, rfl, rfl, ?_, ?_⟩⟩⟩
      · rw [mk_len, un, List.length_append]; exact sz_of (by show _ + 1 + 1 ≤ _; omega)
      rw [e10, ← eX]
      refine ⟨_, rfl, norec_more ok, fun H12 E12 => ⟨_, rfl, iteF ⟨_, rfl, _, _, rfl, rfl, ?_, ?_⟩⟩⟩
      · rw [mk_len, un]; exact sz_of (by omega)
      rw [show ("\n" : Str) ++ mk r.text = mk (10 :: r.text) from mk_app [10] r.text]
      refine ⟨_, rfl, norec_first ok, fun H13 E13 => ⟨_, rfl, iteF ?_⟩⟩
      have X29 := (X25.trans X6).more (E9.trans (E10.trans (E11.trans (E12.trans E13))))
      refine ⟨_, rfl, _, rfl, _, rfl, _, rfl, sz_of (by rw [mk_len]; omega), rfl, _, _, rfl, rfl, by decide, ?_, ?_⟩
      · rw [eX, cut_snoc, mk_len]; exact sz_of (by omega)
      rw [eX, cut_snoc, esp]
      intro L2 nL2
      rw [smap]
      have E14 : Ex H13 (upd H13 L2 (.lst (strV r.lines))) := Ex.new nL2
      refine ⟨L2, r, rfl, upd_same, ok, hne, fun H15 E15 => ?_, fun Y H15 E15 hY => ?_⟩
      · refine ⟨_, rfl, rfl, _, rfl, iteF ?_⟩
        exact ⟨X29.pool.kept (E14.trans E15), _, _, _, _, _, _, rfl⟩
      · refine ⟨_, rfl, rfl, _, rfl, iteT ⟨_, rfl, Y, rfl, hY, fun H16 E16 => ⟨_, rfl, iteF ?_⟩⟩⟩
        exact ⟨X29.pool.kept (E14.trans (E15.trans E16)), _, _, _, _, _, _, rfl⟩
    · rintro σ H1 ⟨hp1, y2, y3, y4, y5, y6, y7, rfl⟩
      refine ⟨[], rfl, norec_nil, fun H2 E2 => ⟨_, rfl, iteT ⟨_, (mk_tlS _).symm ▸ rfl, norec_long, fun H3 E3 => ?_⟩⟩⟩
      exact q H3
end
end G
namespace G
open PySem PySem.Spec PyProof.Rows L2
/-- the defs and the built-in names as the top has left them -/
structure All (K : PySem.W.Frag) (mg : Str → Option Value) : Prop where
  d_is_word : Dfd K mg "is_word" s_is_word ["token"]
  d_lines_of : Dfd K mg "lines_of" s_lines_of ["text"]
  d_integer_of : Dfd K mg "integer_of" s_integer_of ["word"]
  d_bit_of : Dfd K mg "bit_of" s_bit_of ["character"]
  d_read_record : Dfd K mg "read_record" s_read_record ["text"]
  d_read_head : Dfd K mg "_read_head" s_read_head ["line"]
  d_read_row : Dfd K mg "_read_row" s_read_row ["line"]
  d_read_piece : Dfd K mg "_read_piece" s_read_piece ["piece"]
  d_law_pool : Dfd K mg "_law_pool" s_law_pool ["script"]
  d_law_spread : Dfd K mg "_law_spread" s_law_spread ["cell"]
  d_law_draw : Dfd K mg "_law_draw" s_law_draw ["pool", "many"]
  d_law_same : Dfd K mg "_law_same" s_law_same ["actual", "due"]
  d_law_word : Dfd K mg "_law_word" s_law_word ["pool"]
  d_law_record : Dfd K mg "_law_record" s_law_record ["pool"]
  d_law_part : Dfd K mg "_law_part" s_law_part ["pool"]
  d_law_text : Dfd K mg "_law_text" s_law_text ["record"]
  d_law_refused : Dfd K mg "_law_refused" s_law_refused ["text"]
  d_law_spoilt : Dfd K mg "_law_spoilt" s_law_spoilt ["pool", "lines"]
  d_law_doubled : Dfd K mg "_law_doubled" s_law_doubled ["lines"]
  z_all : mg "all" = none
  z_len : mg "len" = none
  z_any : mg "any" = none
  z_int : mg "int" = none
  z_str : mg "str" = none
  z_tuple : mg "tuple" = none
  z_list : mg "list" = none
  z_range : mg "range" = none
  z_isinstance : mg "isinstance" = none
  z_bool : mg "bool" = none
  z_ValueError : mg "ValueError" = none
  c_LETTERS : ∃ t, mg "LETTERS" = some (.str "abcdefghijklmnopqrstuvwxyz" t)
  c_DIGITS : ∃ t, mg "DIGITS" = some (.str "0123456789" t)
  c_RUN_CHARACTERS : ∃ t, mg "RUN_CHARACTERS" = some (.str "abcdefghijklmnopqrstuvwxyz0123456789_" t)
  c_MOST_DIGITS : ∃ t, mg "MOST_DIGITS" = some (.int 60 t)
  c_MOST_BITS : ∃ t, mg "MOST_BITS" = some (.int 100000 t)
  i_BadRecord : ∃ C : Addr, ExcI K mg "BadRecord" C ∧ IsK K mg C "BadRecord" true ∧ IsK K mg C "BadReport" false ∧ CatchK K mg C "SignoffError"
end G
namespace G
open PySem PySem.Spec PyProof.Rows L2
theorem glue {P : Program} {w : World} {K : PySem.W.Frag} {mg : Str → Option Value} {base : Heap} (A : All K mg) {f : Addr} {fd : FuncData} (F : Fun K "law" "law" s_law f fd) : FnOk P w K mg base CX0 6 f fd ["script"] (spLaw K) := by
  have TL : TxtL mg := ⟨A.z_int, A.z_len, A.z_list, A.z_range⟩
  have TS : TxtS mg := ⟨A.z_isinstance, A.z_tuple, A.z_list, A.z_len, A.z_range, A.z_bool, A.z_int, A.z_str⟩
  have TW : TxtRW mg := ⟨A.z_all, A.c_LETTERS, A.c_RUN_CHARACTERS⟩
  have T1 : TxtR1 mg := ⟨A.z_len, A.z_any, A.z_int, A.z_str, A.z_tuple, A.c_DIGITS, A.c_MOST_DIGITS⟩
  obtain ⟨B, UB, bb, br, b4⟩ := A.i_BadRecord
  obtain ⟨S, gS, hS⟩ := id b4
  obtain ⟨R, gR, hR⟩ := id br
  have hD := ok_law_draw (P := P) (w := w) (base := base) A.d_law_draw TL (ok_law_spread A.d_law_spread TL)
  have hd := drawX hD
  have hdL := drawXL hD
  have hw := ok_is_word (P := P) (w := w) (base := base) A.d_is_word TW
  have hlw := ok_law_word A.d_law_word TS hd
  have hi := ok_integer_ofG (P := P) (w := w) (base := base) A.d_integer_of T1
  have hrr := ok_read_recordK A.d_read_record UB.u T1 (ok_lines_ofG A.d_lines_of) (ok_read_headK A.d_read_head UB.u T1 hi) (ok_read_rowK A.d_read_row UB.u T1 A.c_MOST_BITS (ok_read_pieceG A.d_read_piece UB.u hi (ok_bit_ofA A.d_bit_of)) hw)
  exact fn_law F TS (ok_law_pool A.d_law_pool TL) (ok_law_record A.d_law_record TS hdL (ok_law_part A.d_law_part hd hlw)) (ok_law_text A.d_law_text TS) (ok_law_same A.d_law_same TS 5)
    (ok_law_spoiltK A.d_law_spoilt TS hd) (ok_law_refusedK A.d_law_refused TS UB.u.gC gR gS UB.isc (bb.at_ UB.u.gC) hR hS hrr) (ok_law_doubled A.d_law_doubled TS) hrr
end G
namespace G
open PySem PySem.Spec PyProof.Rows L2
theorem all_mk {l : PySem.W.OpenLaw} {w : World} {K : PySem.W.Frag} {h : Heap} {mg : Str → Option Value} {fa f0 f1 f2 f3 f4 f5 f6 f7 f8 f9 f10 f11 f12 f13 f14 f15 f16 f17 f18 f19 : Addr} (X : K.In h) (G : h.Ns mainGlobals mg) (hfa : mg "law" = some (.ref fa))
    {od0 an0 od1 an1 od2 an2 od3 an3 od4 an4 od5 an5 od6 an6 od7 an7 od8 an8 od9 an9 od10 an10 od11 an11 od12 an12 od13 an13 od14 an14 od15 an15 od16 an16 od17 an17 od18 an18 od19 an19 : Option Addr} {sl0 sl1 sl2 sl3 sl4 sl5 sl6 sl7 sl8 sl9 sl10 sl11 sl12 sl13 sl14 sl15 sl16 sl17 sl18 sl19 : Array (Option Value)} {oc0 kv0 dc0 pm0 cd0 ct0 oc1 kv1 dc1 pm1 cd1 ct1 oc2 kv2 dc2 pm2 cd2 ct2 oc3 kv3 dc3 pm3 cd3 ct3 oc4 kv4 dc4 pm4 cd4 ct4 oc5 kv5 dc5 pm5 cd5 ct5 oc6 kv6 dc6 pm6 cd6 ct6 oc7 kv7 dc7 pm7 cd7 ct7 oc8 kv8 dc8 pm8 cd8 ct8 oc9 kv9 dc9 pm9 cd9 ct9 oc10 kv10 dc10 pm10 cd10 ct10 oc11 kv11 dc11 pm11 cd11 ct11 oc12 kv12 dc12 pm12 cd12 ct12 oc13 kv13 dc13 pm13 cd13 ct13 oc14 kv14 dc14 pm14 cd14 ct14 oc15 kv15 dc15 pm15 cd15 ct15 oc16 kv16 dc16 pm16 cd16 ct16 oc17 kv17 dc17 pm17 cd17 ct17 oc18 kv18 dc18 pm18 cd18 ct18 oc19 kv19 dc19 pm19 cd19 ct19 : Value}
    (a0 : PySem.W.nsIn K mainGlobals "is_word" = some (some (.ref f0))) (l0 : K.lookup f0 = some ⟨oc0, od0, .func (PySem.W.fnOf "is_word" "is_word" (defArgs s_is_word) (defBody s_is_word) (defScope s_is_word) .none kv0 dc0 pm0 an0 cd0 ct0), sl0⟩) (c0 : PySem.W.codeIn K cd0 "is_word" = true) (k0 : PySem.W.keepIn K (.ref f0) = true)
    (a1 : PySem.W.nsIn K mainGlobals "lines_of" = some (some (.ref f1))) (l1 : K.lookup f1 = some ⟨oc1, od1, .func (PySem.W.fnOf "lines_of" "lines_of" (defArgs s_lines_of) (defBody s_lines_of) (defScope s_lines_of) .none kv1 dc1 pm1 an1 cd1 ct1), sl1⟩) (c1 : PySem.W.codeIn K cd1 "lines_of" = true) (k1 : PySem.W.keepIn K (.ref f1) = true)
    (a2 : PySem.W.nsIn K mainGlobals "integer_of" = some (some (.ref f2))) (l2 : K.lookup f2 = some ⟨oc2, od2, .func (PySem.W.fnOf "integer_of" "integer_of" (defArgs s_integer_of) (defBody s_integer_of) (defScope s_integer_of) .none kv2 dc2 pm2 an2 cd2 ct2), sl2⟩) (c2 : PySem.W.codeIn K cd2 "integer_of" = true) (k2 : PySem.W.keepIn K (.ref f2) = true)
    (a3 : PySem.W.nsIn K mainGlobals "bit_of" = some (some (.ref f3))) (l3 : K.lookup f3 = some ⟨oc3, od3, .func (PySem.W.fnOf "bit_of" "bit_of" (defArgs s_bit_of) (defBody s_bit_of) (defScope s_bit_of) .none kv3 dc3 pm3 an3 cd3 ct3), sl3⟩) (c3 : PySem.W.codeIn K cd3 "bit_of" = true) (k3 : PySem.W.keepIn K (.ref f3) = true)
    (a4 : PySem.W.nsIn K mainGlobals "read_record" = some (some (.ref f4))) (l4 : K.lookup f4 = some ⟨oc4, od4, .func (PySem.W.fnOf "read_record" "read_record" (defArgs s_read_record) (defBody s_read_record) (defScope s_read_record) .none kv4 dc4 pm4 an4 cd4 ct4), sl4⟩) (c4 : PySem.W.codeIn K cd4 "read_record" = true) (k4 : PySem.W.keepIn K (.ref f4) = true)
    (a5 : PySem.W.nsIn K mainGlobals "_read_head" = some (some (.ref f5))) (l5 : K.lookup f5 = some ⟨oc5, od5, .func (PySem.W.fnOf "_read_head" "_read_head" (defArgs s_read_head) (defBody s_read_head) (defScope s_read_head) .none kv5 dc5 pm5 an5 cd5 ct5), sl5⟩) (c5 : PySem.W.codeIn K cd5 "_read_head" = true) (k5 : PySem.W.keepIn K (.ref f5) = true)
    (a6 : PySem.W.nsIn K mainGlobals "_read_row" = some (some (.ref f6))) (l6 : K.lookup f6 = some ⟨oc6, od6, .func (PySem.W.fnOf "_read_row" "_read_row" (defArgs s_read_row) (defBody s_read_row) (defScope s_read_row) .none kv6 dc6 pm6 an6 cd6 ct6), sl6⟩) (c6 : PySem.W.codeIn K cd6 "_read_row" = true) (k6 : PySem.W.keepIn K (.ref f6) = true)
    (a7 : PySem.W.nsIn K mainGlobals "_read_piece" = some (some (.ref f7))) (l7 : K.lookup f7 = some ⟨oc7, od7, .func (PySem.W.fnOf "_read_piece" "_read_piece" (defArgs s_read_piece) (defBody s_read_piece) (defScope s_read_piece) .none kv7 dc7 pm7 an7 cd7 ct7), sl7⟩) (c7 : PySem.W.codeIn K cd7 "_read_piece" = true) (k7 : PySem.W.keepIn K (.ref f7) = true)
    (a8 : PySem.W.nsIn K mainGlobals "_law_pool" = some (some (.ref f8))) (l8 : K.lookup f8 = some ⟨oc8, od8, .func (PySem.W.fnOf "_law_pool" "_law_pool" (defArgs s_law_pool) (defBody s_law_pool) (defScope s_law_pool) .none kv8 dc8 pm8 an8 cd8 ct8), sl8⟩) (c8 : PySem.W.codeIn K cd8 "_law_pool" = true) (k8 : PySem.W.keepIn K (.ref f8) = true)
    (a9 : PySem.W.nsIn K mainGlobals "_law_spread" = some (some (.ref f9))) (l9 : K.lookup f9 = some ⟨oc9, od9, .func (PySem.W.fnOf "_law_spread" "_law_spread" (defArgs s_law_spread) (defBody s_law_spread) (defScope s_law_spread) .none kv9 dc9 pm9 an9 cd9 ct9), sl9⟩) (c9 : PySem.W.codeIn K cd9 "_law_spread" = true) (k9 : PySem.W.keepIn K (.ref f9) = true)
    (a10 : PySem.W.nsIn K mainGlobals "_law_draw" = some (some (.ref f10))) (l10 : K.lookup f10 = some ⟨oc10, od10, .func (PySem.W.fnOf "_law_draw" "_law_draw" (defArgs s_law_draw) (defBody s_law_draw) (defScope s_law_draw) .none kv10 dc10 pm10 an10 cd10 ct10), sl10⟩) (c10 : PySem.W.codeIn K cd10 "_law_draw" = true) (k10 : PySem.W.keepIn K (.ref f10) = true)
    (a11 : PySem.W.nsIn K mainGlobals "_law_same" = some (some (.ref f11))) (l11 : K.lookup f11 = some ⟨oc11, od11, .func (PySem.W.fnOf "_law_same" "_law_same" (defArgs s_law_same) (defBody s_law_same) (defScope s_law_same) .none kv11 dc11 pm11 an11 cd11 ct11), sl11⟩) (c11 : PySem.W.codeIn K cd11 "_law_same" = true) (k11 : PySem.W.keepIn K (.ref f11) = true)
    (a12 : PySem.W.nsIn K mainGlobals "_law_word" = some (some (.ref f12))) (l12 : K.lookup f12 = some ⟨oc12, od12, .func (PySem.W.fnOf "_law_word" "_law_word" (defArgs s_law_word) (defBody s_law_word) (defScope s_law_word) .none kv12 dc12 pm12 an12 cd12 ct12), sl12⟩) (c12 : PySem.W.codeIn K cd12 "_law_word" = true) (k12 : PySem.W.keepIn K (.ref f12) = true)
    (a13 : PySem.W.nsIn K mainGlobals "_law_record" = some (some (.ref f13))) (l13 : K.lookup f13 = some ⟨oc13, od13, .func (PySem.W.fnOf "_law_record" "_law_record" (defArgs s_law_record) (defBody s_law_record) (defScope s_law_record) .none kv13 dc13 pm13 an13 cd13 ct13), sl13⟩) (c13 : PySem.W.codeIn K cd13 "_law_record" = true) (k13 : PySem.W.keepIn K (.ref f13) = true)
    (a14 : PySem.W.nsIn K mainGlobals "_law_part" = some (some (.ref f14))) (l14 : K.lookup f14 = some ⟨oc14, od14, .func (PySem.W.fnOf "_law_part" "_law_part" (defArgs s_law_part) (defBody s_law_part) (defScope s_law_part) .none kv14 dc14 pm14 an14 cd14 ct14), sl14⟩) (c14 : PySem.W.codeIn K cd14 "_law_part" = true) (k14 : PySem.W.keepIn K (.ref f14) = true)
    (a15 : PySem.W.nsIn K mainGlobals "_law_text" = some (some (.ref f15))) (l15 : K.lookup f15 = some ⟨oc15, od15, .func (PySem.W.fnOf "_law_text" "_law_text" (defArgs s_law_text) (defBody s_law_text) (defScope s_law_text) .none kv15 dc15 pm15 an15 cd15 ct15), sl15⟩) (c15 : PySem.W.codeIn K cd15 "_law_text" = true) (k15 : PySem.W.keepIn K (.ref f15) = true)
    (a16 : PySem.W.nsIn K mainGlobals "_law_refused" = some (some (.ref f16))) (l16 : K.lookup f16 = some ⟨oc16, od16, .func (PySem.W.fnOf "_law_refused" "_law_refused" (defArgs s_law_refused) (defBody s_law_refused) (defScope s_law_refused) .none kv16 dc16 pm16 an16 cd16 ct16), sl16⟩) (c16 : PySem.W.codeIn K cd16 "_law_refused" = true) (k16 : PySem.W.keepIn K (.ref f16) = true)
    (a17 : PySem.W.nsIn K mainGlobals "_law_spoilt" = some (some (.ref f17))) (l17 : K.lookup f17 = some ⟨oc17, od17, .func (PySem.W.fnOf "_law_spoilt" "_law_spoilt" (defArgs s_law_spoilt) (defBody s_law_spoilt) (defScope s_law_spoilt) .none kv17 dc17 pm17 an17 cd17 ct17), sl17⟩) (c17 : PySem.W.codeIn K cd17 "_law_spoilt" = true) (k17 : PySem.W.keepIn K (.ref f17) = true)
    (a18 : PySem.W.nsIn K mainGlobals "_law_doubled" = some (some (.ref f18))) (l18 : K.lookup f18 = some ⟨oc18, od18, .func (PySem.W.fnOf "_law_doubled" "_law_doubled" (defArgs s_law_doubled) (defBody s_law_doubled) (defScope s_law_doubled) .none kv18 dc18 pm18 an18 cd18 ct18), sl18⟩) (c18 : PySem.W.codeIn K cd18 "_law_doubled" = true) (k18 : PySem.W.keepIn K (.ref f18) = true)
    (a19 : PySem.W.nsIn K mainGlobals "law" = some (some (.ref f19))) (l19 : K.lookup f19 = some ⟨oc19, od19, .func (PySem.W.fnOf "law" "law" (defArgs s_law) (defBody s_law) (defScope s_law) .none kv19 dc19 pm19 an19 cd19 ct19), sl19⟩) (c19 : PySem.W.codeIn K cd19 "law" = true) (k19 : PySem.W.keepIn K (.ref f19) = true)
    {ct0 : Tok} (g0 : PySem.W.nsIn K mainGlobals "LETTERS" = some (some (.str "abcdefghijklmnopqrstuvwxyz" ct0)))
    {ct1 : Tok} (g1 : PySem.W.nsIn K mainGlobals "DIGITS" = some (some (.str "0123456789" ct1)))
    {ct2 : Tok} (g2 : PySem.W.nsIn K mainGlobals "RUN_CHARACTERS" = some (some (.str "abcdefghijklmnopqrstuvwxyz0123456789_" ct2)))
    {ct3 : Tok} (g3 : PySem.W.nsIn K mainGlobals "MOST_DIGITS" = some (some (.int 60 ct3)))
    {ct4 : Tok} (g4 : PySem.W.nsIn K mainGlobals "MOST_BITS" = some (some (.int 100000 ct4)))
    {iC0 iD0_0 iD0_1 iD0_2 : Addr} (w0_0 : PySem.W.nsIn K mainGlobals "BadRecord" = some (some (.ref iC0))) (w0_1 : PySem.W.excIn K iC0 [.type "ValueError", .type "Exception", .type "BaseException", .type "object"] "ValueError.__new__" = true) (w0_2 : PySem.W.keepIn K (.ref iC0) = true) (w0_3 : PySem.W.subIn K (.ref iC0) (.type "BaseException") = some true) (w0_4 : PySem.W.typeIn K (.ref iC0) = some (.type "type")) (w0_5 : PySem.W.hasDictIn K iC0 = true) (w0_6 : PySem.W.subIn K (.ref iC0) (.ref iC0) = some true) (w0_7 : PySem.W.findIn K (.ref iC0) "__getattribute__" = some (some (.builtin "BaseException.__getattribute__"))) (w0_8 : PySem.W.findIn K (.ref iC0) "__getattr__" = some none) (w0_9 : PySem.W.findIn K (.ref iC0) "__class__" = some (some (.builtin "object.__class__"))) (w0_10 : PySem.W.specialIn K (.builtin "object.__class__") "__get__" = some (some (.builtin "getset_descriptor.__get__"))) (w0_11 : PySem.W.takesIn K (.builtin "object.__class__") = some true) (w0_12 : PySem.W.mroIn K iC0 (.type "object") = some true) (w0_13 : PySem.W.nsIn K mainGlobals "BadRecord" = some (some (.ref iD0_0))) (w0_14 : PySem.W.kitOne K (.ref iC0) (.ref iD0_0) = some true) (w0_15 : PySem.W.nsIn K mainGlobals "BadReport" = some (some (.ref iD0_1))) (w0_16 : PySem.W.kitOne K (.ref iC0) (.ref iD0_1) = some false) (w0_17 : PySem.W.nsIn K mainGlobals "SignoffError" = some (some (.ref iD0_2))) (w0_18 : PySem.W.subIn K (.ref iD0_2) (.type "BaseException") = some true) (w0_19 : PySem.W.hasDictIn K iD0_2 = true) (w0_20 : PySem.W.typeIn K (.ref iD0_2) = some (.type "type")) (w0_21 : PySem.W.subIn K (.ref iC0) (.ref iD0_2) = some true)
    (z0 : PySem.W.nsIn K mainGlobals "all" = some none) (z1 : PySem.W.nsIn K mainGlobals "len" = some none) (z2 : PySem.W.nsIn K mainGlobals "any" = some none) (z3 : PySem.W.nsIn K mainGlobals "int" = some none) (z4 : PySem.W.nsIn K mainGlobals "str" = some none) (z5 : PySem.W.nsIn K mainGlobals "tuple" = some none) (z6 : PySem.W.nsIn K mainGlobals "list" = some none) (z7 : PySem.W.nsIn K mainGlobals "range" = some none) (z8 : PySem.W.nsIn K mainGlobals "isinstance" = some none) (z9 : PySem.W.nsIn K mainGlobals "bool" = some none) (z10 : PySem.W.nsIn K mainGlobals "ValueError" = some none) :
    ∃ fd : FuncData, (∀ (s : Shared) (v : Value), BindsTo s fd ⟨[v], []⟩ [("script", v)]) ∧ ∀ base : Heap, K.In base → base.Ns mainGlobals mg → FnOk l.prog w K mg base CX0 6 fa fd ["script"] (spLaw K) := by
  have e := hfa.symm.trans (PySem.W.mg_of X G a19)
  cases e
  have F0 := fun_mk (st := s_is_word) l0 c0 k0
  have F1 := fun_mk (st := s_lines_of) l1 c1 k1
  have F2 := fun_mk (st := s_integer_of) l2 c2 k2
  have F3 := fun_mk (st := s_bit_of) l3 c3 k3
  have F4 := fun_mk (st := s_read_record) l4 c4 k4
  have F5 := fun_mk (st := s_read_head) l5 c5 k5
  have F6 := fun_mk (st := s_read_row) l6 c6 k6
  have F7 := fun_mk (st := s_read_piece) l7 c7 k7
  have F8 := fun_mk (st := s_law_pool) l8 c8 k8
  have F9 := fun_mk (st := s_law_spread) l9 c9 k9
  have F10 := fun_mk (st := s_law_draw) l10 c10 k10
  have F11 := fun_mk (st := s_law_same) l11 c11 k11
  have F12 := fun_mk (st := s_law_word) l12 c12 k12
  have F13 := fun_mk (st := s_law_record) l13 c13 k13
  have F14 := fun_mk (st := s_law_part) l14 c14 k14
  have F15 := fun_mk (st := s_law_text) l15 c15 k15
  have F16 := fun_mk (st := s_law_refused) l16 c16 k16
  have F17 := fun_mk (st := s_law_spoilt) l17 c17 k17
  have F18 := fun_mk (st := s_law_doubled) l18 c18 k18
  have F19 := fun_mk (st := s_law) l19 c19 k19
  have A : All K mg := ⟨⟨f0, _, F0, PySem.W.mg_of X G a0, F0.binds (ps := ["token"]) fun _ _ _ _ _ _ us hl => match us, hl with | [_], _ => rfl⟩,
    ⟨f1, _, F1, PySem.W.mg_of X G a1, F1.binds (ps := ["text"]) fun _ _ _ _ _ _ us hl => match us, hl with | [_], _ => rfl⟩,
    ⟨f2, _, F2, PySem.W.mg_of X G a2, F2.binds (ps := ["word"]) fun _ _ _ _ _ _ us hl => match us, hl with | [_], _ => rfl⟩,
    ⟨f3, _, F3, PySem.W.mg_of X G a3, F3.binds (ps := ["character"]) fun _ _ _ _ _ _ us hl => match us, hl with | [_], _ => rfl⟩,
    ⟨f4, _, F4, PySem.W.mg_of X G a4, F4.binds (ps := ["text"]) fun _ _ _ _ _ _ us hl => match us, hl with | [_], _ => rfl⟩,
    ⟨f5, _, F5, PySem.W.mg_of X G a5, F5.binds (ps := ["line"]) fun _ _ _ _ _ _ us hl => match us, hl with | [_], _ => rfl⟩,
    ⟨f6, _, F6, PySem.W.mg_of X G a6, F6.binds (ps := ["line"]) fun _ _ _ _ _ _ us hl => match us, hl with | [_], _ => rfl⟩,
    ⟨f7, _, F7, PySem.W.mg_of X G a7, F7.binds (ps := ["piece"]) fun _ _ _ _ _ _ us hl => match us, hl with | [_], _ => rfl⟩,
    ⟨f8, _, F8, PySem.W.mg_of X G a8, F8.binds (ps := ["script"]) fun _ _ _ _ _ _ us hl => match us, hl with | [_], _ => rfl⟩,
    ⟨f9, _, F9, PySem.W.mg_of X G a9, F9.binds (ps := ["cell"]) fun _ _ _ _ _ _ us hl => match us, hl with | [_], _ => rfl⟩,
    ⟨f10, _, F10, PySem.W.mg_of X G a10, F10.binds (ps := ["pool", "many"]) fun _ _ _ _ _ _ us hl => match us, hl with | [_, _], _ => rfl⟩,
    ⟨f11, _, F11, PySem.W.mg_of X G a11, F11.binds (ps := ["actual", "due"]) fun _ _ _ _ _ _ us hl => match us, hl with | [_, _], _ => rfl⟩,
    ⟨f12, _, F12, PySem.W.mg_of X G a12, F12.binds (ps := ["pool"]) fun _ _ _ _ _ _ us hl => match us, hl with | [_], _ => rfl⟩,
    ⟨f13, _, F13, PySem.W.mg_of X G a13, F13.binds (ps := ["pool"]) fun _ _ _ _ _ _ us hl => match us, hl with | [_], _ => rfl⟩,
    ⟨f14, _, F14, PySem.W.mg_of X G a14, F14.binds (ps := ["pool"]) fun _ _ _ _ _ _ us hl => match us, hl with | [_], _ => rfl⟩,
    ⟨f15, _, F15, PySem.W.mg_of X G a15, F15.binds (ps := ["record"]) fun _ _ _ _ _ _ us hl => match us, hl with | [_], _ => rfl⟩,
    ⟨f16, _, F16, PySem.W.mg_of X G a16, F16.binds (ps := ["text"]) fun _ _ _ _ _ _ us hl => match us, hl with | [_], _ => rfl⟩,
    ⟨f17, _, F17, PySem.W.mg_of X G a17, F17.binds (ps := ["pool", "lines"]) fun _ _ _ _ _ _ us hl => match us, hl with | [_, _], _ => rfl⟩,
    ⟨f18, _, F18, PySem.W.mg_of X G a18, F18.binds (ps := ["lines"]) fun _ _ _ _ _ _ us hl => match us, hl with | [_], _ => rfl⟩,
    PySem.W.mg_none_of X G z0,
    PySem.W.mg_none_of X G z1,
    PySem.W.mg_none_of X G z2,
    PySem.W.mg_none_of X G z3,
    PySem.W.mg_none_of X G z4,
    PySem.W.mg_none_of X G z5,
    PySem.W.mg_none_of X G z6,
    PySem.W.mg_none_of X G z7,
    PySem.W.mg_none_of X G z8,
    PySem.W.mg_none_of X G z9,
    PySem.W.mg_none_of X G z10,
    ⟨_, PySem.W.mg_of X G g0⟩,
    ⟨_, PySem.W.mg_of X G g1⟩,
    ⟨_, PySem.W.mg_of X G g2⟩,
    ⟨_, PySem.W.mg_of X G g3⟩,
    ⟨_, PySem.W.mg_of X G g4⟩,
    ⟨iC0, ⟨⟨PySem.W.mg_of X G w0_0, w0_1, w0_2, w0_3, w0_4⟩, w0_5, w0_6, ⟨w0_7, w0_8, w0_3, w0_5, w0_9, w0_10, w0_11, w0_12⟩⟩, ⟨iD0_0, PySem.W.mg_of X G w0_13, w0_14⟩, ⟨iD0_1, PySem.W.mg_of X G w0_15, w0_16⟩, ⟨iD0_2, PySem.W.mg_of X G w0_17, PySem.W.exm_ref w0_18 w0_19 w0_20 w0_21⟩⟩⟩
  exact ⟨_, fun s v => .of_eq rfl, fun base _ _ => glue A F19⟩
end G
open PySem PySem.W PyProof.Rows
set_option maxRecDepth 100000 in
set_option maxHeartbeats 0 in
theorem PySem.Challenge.cw_signoff_k87_records_refused_holds : PySem.Challenge.rw_signoff_k87_records_refused.Holds := by
  w_on; o_law; k_head; (case hw => w_witness2)
  k_fill
  refine L2.walk_of (l := PySem.Challenge.rw_signoff_k87_records_refused) (n := 63) (k := 6) (x := "script") (CX := fun _ => L2.CX0) (sp := fun w => G.spLaw _) rfl (by decide) rfl ⟨rfl, by decide, by decide⟩ (fun w h Y => PySem.W.kIn_of Y) ?F (fun _ _ a ns hl _ hS => ⟨a, ns, rfl, hS, hl, fun _ => rfl⟩) (fun _ _ _ _ _ h => h)
  case F =>
    intro w mg fa h KX GN hmg
    refine' G.all_mk KX GN hmg ?a0 ?l0 ?c0 ?k0 ?a1 ?l1 ?c1 ?k1 ?a2 ?l2 ?c2 ?k2 ?a3 ?l3 ?c3 ?k3 ?a4 ?l4 ?c4 ?k4 ?a5 ?l5 ?c5 ?k5 ?a6 ?l6 ?c6 ?k6 ?a7 ?l7 ?c7 ?k7 ?a8 ?l8 ?c8 ?k8 ?a9 ?l9 ?c9 ?k9 ?a10 ?l10 ?c10 ?k10 ?a11 ?l11 ?c11 ?k11 ?a12 ?l12 ?c12 ?k12 ?a13 ?l13 ?c13 ?k13 ?a14 ?l14 ?c14 ?k14 ?a15 ?l15 ?c15 ?k15 ?a16 ?l16 ?c16 ?k16 ?a17 ?l17 ?c17 ?k17 ?a18 ?l18 ?c18 ?k18 ?a19 ?l19 ?c19 ?k19 ?cg0 ?cg1 ?cg2 ?cg3 ?cg4 ?xw0_0 ?xw0_1 ?xw0_2 ?xw0_3 ?xw0_4 ?xw0_5 ?xw0_6 ?xw0_7 ?xw0_8 ?xw0_9 ?xw0_10 ?xw0_11 ?xw0_12 ?xw0_13 ?xw0_14 ?xw0_15 ?xw0_16 ?xw0_17 ?xw0_18 ?xw0_19 ?xw0_20 ?xw0_21 ?z0 ?z1 ?z2 ?z3 ?z4 ?z5 ?z6 ?z7 ?z8 ?z9 ?z10
    (case a0 => k_is)
    (case l0 => k_is)
    (case c0 => k_is)
    (case k0 => k_is)
    (case a1 => k_is)
    (case l1 => k_is)
    (case c1 => k_is)
    (case k1 => k_is)
    (case a2 => k_is)
    (case l2 => k_is)
    (case c2 => k_is)
    (case k2 => k_is)
    (case a3 => k_is)
    (case l3 => k_is)
    (case c3 => k_is)
    (case k3 => k_is)
    (case a4 => k_is)
    (case l4 => k_is)
    (case c4 => k_is)
    (case k4 => k_is)
    (case a5 => k_is)
    (case l5 => k_is)
    (case c5 => k_is)
    (case k5 => k_is)
    (case a6 => k_is)
    (case l6 => k_is)
    (case c6 => k_is)
    (case k6 => k_is)
    (case a7 => k_is)
    (case l7 => k_is)
    (case c7 => k_is)
    (case k7 => k_is)
    (case a8 => k_is)
    (case l8 => k_is)
    (case c8 => k_is)
    (case k8 => k_is)
    (case a9 => k_is)
    (case l9 => k_is)
    (case c9 => k_is)
    (case k9 => k_is)
    (case a10 => k_is)
    (case l10 => k_is)
    (case c10 => k_is)
    (case k10 => k_is)
    (case a11 => k_is)
    (case l11 => k_is)
    (case c11 => k_is)
    (case k11 => k_is)
    (case a12 => k_is)
    (case l12 => k_is)
    (case c12 => k_is)
    (case k12 => k_is)
    (case a13 => k_is)
    (case l13 => k_is)
    (case c13 => k_is)
    (case k13 => k_is)
    (case a14 => k_is)
    (case l14 => k_is)
    (case c14 => k_is)
    (case k14 => k_is)
    (case a15 => k_is)
    (case l15 => k_is)
    (case c15 => k_is)
    (case k15 => k_is)
    (case a16 => k_is)
    (case l16 => k_is)
    (case c16 => k_is)
    (case k16 => k_is)
    (case a17 => k_is)
    (case l17 => k_is)
    (case c17 => k_is)
    (case k17 => k_is)
    (case a18 => k_is)
    (case l18 => k_is)
    (case c18 => k_is)
    (case k18 => k_is)
    (case a19 => k_is)
    (case l19 => k_is)
    (case c19 => k_is)
    (case k19 => k_is)
    (case cg0 => k_is)
    (case cg1 => k_is)
    (case cg2 => k_is)
    (case cg3 => k_is)
    (case cg4 => k_is)
    (case xw0_0 => first | k_exc | k_is | rfl)
    (case xw0_1 => first | k_exc | k_is | rfl)
    (case xw0_2 => first | k_exc | k_is | rfl)
    (case xw0_3 => first | k_exc | k_is | rfl)
    (case xw0_4 => first | k_exc | k_is | rfl)
    (case xw0_5 => first | k_exc | k_is | rfl)
    (case xw0_6 => first | k_exc | k_is | rfl)
    (case xw0_7 => first | k_exc | k_is | rfl)
    (case xw0_8 => first | k_exc | k_is | rfl)
    (case xw0_9 => first | k_exc | k_is | rfl)
    (case xw0_10 => first | k_exc | k_is | rfl)
    (case xw0_11 => first | k_exc | k_is | rfl)
    (case xw0_12 => first | k_exc | k_is | rfl)
    (case xw0_13 => first | k_exc | k_is | rfl)
    (case xw0_14 => first | k_exc | k_is | rfl)
    (case xw0_15 => first | k_exc | k_is | rfl)
    (case xw0_16 => first | k_exc | k_is | rfl)
    (case xw0_17 => first | k_exc | k_is | rfl)
    (case xw0_18 => first | k_exc | k_is | rfl)
    (case xw0_19 => first | k_exc | k_is | rfl)
    (case xw0_20 => first | k_exc | k_is | rfl)
    (case xw0_21 => first | k_exc | k_is | rfl)
    (case z0 => k_is)
    (case z1 => k_is)
    (case z2 => k_is)
    (case z3 => k_is)
    (case z4 => k_is)
    (case z5 => k_is)
    (case z6 => k_is)
    (case z7 => k_is)
    (case z8 => k_is)
    (case z9 => k_is)
    (case z10 => k_is)
#print axioms PySem.Challenge.cw_signoff_k87_records_refused_holds
