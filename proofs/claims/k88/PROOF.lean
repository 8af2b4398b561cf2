import PyProof.Rows.All
import Wide.All
import OpenK.AllK
import Wide.FinOn
import HandS.ForMost
import HandS.Evl
import HandS.Wide
import HandS.WideBits
import HandS.Flow
import HandS.IsInst
import HandS.TupAny
import HandS.Walk
import HandS.Zip
import HandS.Steps
import KE.GoesMore
import KE.GoesEnum
import KE.KEqSeq
import HandS.StrMore
import PyProof.StrLawsFirst
import KE.IntTextLaws
import PyProof.Rows.StrDigitsNeg
import HandS.FStr
import HandS.Style
import HandS.ForExc
import HandS.ExcIs
import HandS.CallSlots
import HandS.Property
import HandS.Small
import HandS.SetKeys
import HandS.DictComp
import HandS.Zip
import PyProof.LongRange
import PySem.Challenge.RW_signoff_k88_whole_records_cut_and_glued
set_option Elab.async false
set_option linter.all false
set_option maxRecDepth 100000
set_option maxHeartbeats 4000000
set_option Elab.async false
set_option linter.all false
set_option maxRecDepth 100000
set_option maxHeartbeats 4000000
namespace G
open PySem PySem.Spec PyProof.Rows L2 Evl
/-! ## defs by name -/
def Dfd (K : PySem.W.Frag) (mg : Str → Option Value) (x : Str) (st : Stmt) (ps : List Str) : Prop := ∃ (f : Addr) (fd : FuncData), Fun K x x st f fd ∧ mg x = some (.ref f) ∧ Binds K fd ps []
def Has (P : Program) (w : World) (K : PySem.W.Frag) (mg : Str → Option Value) (base : Heap) (k : Nat) (x : Str) (ps : List Str) (sp : Sp) : Prop :=
  ∃ (f : Addr) (fd : FuncData), FnOk P w K mg base CX0 k f fd ps sp ∧ mg x = some (.ref f) ∧ PySem.W.keepIn K (.ref f) = true ∧ Binds K fd ps []
section
variable {P : Program} {w : World} {K : PySem.W.Frag} {mg : Str → Option Value} {base : Heap}
theorem Dfd.has {x : Str} {st : Stmt} {ps : List Str} {k : Nat} {sp : Sp} (d : Dfd K mg x st ps) (h : ∀ f fd, Fun K x x st f fd → FnOk P w K mg base CX0 k f fd ps sp) : Has P w K mg base k x ps sp := by
  obtain ⟨f, fd, F, g, b⟩ := d
  exact ⟨f, fd, h f fd F, g, F.kp, b⟩
theorem Has.mono {x : Str} {ps : List Str} {j k : Nat} {sp : Sp} (h : Has P w K mg base j x ps sp) (l : j ≤ k) : Has P w K mg base k x ps sp := by
  obtain ⟨f, fd, F, g⟩ := h
  exact ⟨f, fd, F.mono l, g⟩
theorem Has.imp {x : Str} {ps : List Str} {k : Nat} {sp sp' : Sp} (h : Has P w K mg base k x ps sp) (i : ∀ vs H Q E, sp' vs H Q E → sp vs H Q E) : Has P w K mg base k x ps sp' := by
  obtain ⟨f, fd, F, g⟩ := h
  exact ⟨f, fd, F.imp i, g⟩
end
/-! ## heaps -/
theorem sq_ex {K : PySem.W.Frag} {H H' : Hp} {a : Addr} {xs : List V} (e : Ex H H') (h : SqL K H a xs) : SqL K H' a xs := ex_l e h
/-- the heap without what stands at p -/
def hid (p : Addr) (H : Hp) : Hp := fun b => if b = p then none else H b
theorem hid_self {p : Addr} {H : Hp} : hid p H p = none := by unfold hid; rw [if_pos rfl]
theorem hid_ne {p b : Addr} {H : Hp} (h : b ≠ p) : hid p H b = H b := by unfold hid; rw [if_neg h]
theorem hid_get {p b : Addr} {H : Hp} {o : HO} (h : hid p H b = some o) : H b = some o := by
  by_cases e : b = p
  · subst e; rw [hid_self] at h; cases h
  · rw [hid_ne e] at h; exact h
theorem hid_neq {p b : Addr} {H : Hp} {o : HO} (h : hid p H b = some o) : b ≠ p := by
  intro e; subst e; rw [hid_self] at h; cases h
theorem hid_ex {p : Addr} {H : Hp} : Ex (hid p H) H := fun _ _ h => hid_get h
theorem hid_upd {p : Addr} {H : Hp} {o : HO} : hid p (upd H p o) = hid p H := by
  funext b
  by_cases e : b = p
  · subst e; rw [hid_self, hid_self]
  · rw [hid_ne e, hid_ne e, upd_ne e]
theorem hid_upd_ne {p q : Addr} {H : Hp} {o : HO} (h : q ≠ p) : hid p (upd H q o) = upd (hid p H) q o := by
  funext b
  by_cases e2 : b = q
  · subst e2; rw [hid_ne h, upd_same, upd_same]
  · rw [upd_ne e2]
    by_cases e : b = p
    · subst e; rw [hid_self, hid_self]
    · rw [hid_ne e, hid_ne e, upd_ne e2]
theorem hid_none {p b : Addr} {H : Hp} (h : H b = none) : hid p H b = none := by
  unfold hid; split
  · rfl
  · exact h
/-! ## the pool of draws: the list at p, the script's copy at a -/
def PoolOk (p a : Addr) (H : Hp) : Prop := ∃ (ns : List Int) (i : Nat) (c k s : Int), H p = some (.lst [.ref a, .int i, .int c, .int k, .int s]) ∧ hid p H a = some (.lst (ns.map V.int)) ∧ ns.length ≤ 1000
/-- from H to H' all but the pool is kept, and the pool is a pool -/
structure Px (p a : Addr) (H H' : Hp) : Prop where
  was : PoolOk p a H
  pool : PoolOk p a H'
  ex : Ex (hid p H) (hid p H')
section
variable {p a : Addr} {H H1 H2 H' : Hp}
theorem Px.refl (h : PoolOk p a H) : Px p a H H := ⟨h, h, Ex.refl _⟩
theorem Px.trans (x : Px p a H H1) (y : Px p a H1 H2) : Px p a H H2 := ⟨x.was, y.pool, x.ex.trans y.ex⟩
theorem PoolOk.ne {b : Addr} (h : PoolOk p a H) (n : H b = none) : b ≠ p := by
  obtain ⟨_, _, _, _, _, e, _⟩ := h
  exact (ne_of_none e n).symm
theorem PoolOk.ne2 {b : Addr} (h : PoolOk p a H) (n : H b = none) : a ≠ b := by
  obtain ⟨_, _, _, _, _, _, e, _⟩ := h
  exact ne_of_none (hid_get e) n
theorem PoolOk.kept (h : PoolOk p a H) (e : Ex H H') : PoolOk p a H' := by
  obtain ⟨ns, i, c, k, s, h1, h2, h3⟩ := h
  exact ⟨ns, i, c, k, s, e _ _ h1, by rw [hid_ne (hid_neq h2)]; exact e _ _ (hid_get h2), h3⟩
theorem Px.ofEx (h : PoolOk p a H) (e : Ex H H') : Px p a H H' := ⟨h, h.kept e, fun b o hb => by rw [hid_ne (hid_neq hb)]; exact e _ _ (hid_get hb)⟩
theorem Px.more (x : Px p a H H1) (e : Ex H1 H2) : Px p a H H2 := x.trans (Px.ofEx x.pool e)
theorem Px.draw {o : HO} (w : PoolOk p a H) (h : PoolOk p a (upd H p o)) : Px p a H (upd H p o) := ⟨w, h, by rw [hid_upd]; exact Ex.refl _⟩
theorem Px.new (x : Px p a H H1) {l : Addr} {o : HO} (n : H1 l = none) : Px p a H (upd H1 l o) := x.more (Ex.new n)
/-- what H has is kept -/
theorem Px.get (x : Px p a H H1) {b : Addr} {o : HO} (h : hid p H b = some o) : hid p H1 b = some o := x.ex _ _ h
theorem Px.at_ (x : Px p a H H1) {b : Addr} {o : HO} (h : hid p H b = some o) : H1 b = some o := hid_get (x.ex _ _ h)
theorem Px.free (x : Px p a H H1) {b : Addr} (n : H1 b = none) : H b = none := by
  cases e : H b with
  | none => rfl
  | some o =>
    have hb : b ≠ p := x.pool.ne n
    have := x.ex b o (by rw [hid_ne hb]; exact e)
    rw [hid_get this] at n; cases n
/-- an object that H does not have may change -/
theorem Px.mut (x : Px p a H H1) {l : Addr} {o : HO} (n : H l = none) : Px p a H (upd H1 l o) := by
  have hl : l ≠ p := x.was.ne n
  have ha : a ≠ l := x.was.ne2 n
  refine ⟨x.was, ?_, ?_⟩
  · obtain ⟨ns, i, c, k, s, h1, h2, h3⟩ := x.pool
    exact ⟨ns, i, c, k, s, by rw [upd_ne hl.symm]; exact h1, by rw [hid_upd_ne hl, upd_ne ha]; exact h2, h3⟩
  · rw [hid_upd_ne hl]; exact Ex.mut x.ex (hid_none n)
/-- a fresh object stands apart from the pool -/
theorem Px.seen (x : Px p a H H1) {l : Addr} {o : HO} (n : H l = none) (e : H1 l = some o) : hid p H1 l = some o := by
  rw [hid_ne (x.was.ne n)]; exact e
end
end G
namespace G
open PySem PySem.Spec PyProof.Rows L2 Evl
/-! ## comprehensions whose elements are plain values -/
theorem given_all {n : Nat} {v : Nat → V} : given n (fun _ => true) v = (List.range n).map v := by
  unfold given
  rw [List.filter_eq_self.mpr (fun _ _ => rfl)]
section
variable {lo : Int} {n j : Nat} {tt : TT} {te : TE} {vs : List Nat} {σ : L2.St} {H1 : Hp} {D : Addr} {Qd : Hp → Prop} {K : PySem.W.Frag} {a : Addr} {xs : List V}
theorem lc_turn {f : Nat → Bool} {v : Nat → V} {i : Nat} {H : Hp} {σ2 : L2.St} (e : H = upd H1 D (.lst (given i f v))) (hi : i < 100000) (ht : Ans tt σ2 H (f i)) (he : f i = true → Val te σ2 H (v i)) :
    tt σ2 H fun b H3 => if b = true then te σ2 H3 fun y H4 => ∃ acc, H4 D = some (.lst acc) ∧ acc.length < sizeLine ∧ (upd H4 D (.lst (acc ++ [y]))) = upd H1 D (.lst (given (i + 1) f v)) else H3 = upd H1 D (.lst (given (i + 1) f v)) := by
  refine ht _ ?_
  subst e
  cases hf : f i with
  | true =>
    refine iteT (he hf _ ⟨_, upd_same, sz_lt (by have := given_len i f v; omega), ?_⟩)
    rw [given_yes hf, upd_upd]
  | false =>
    refine iteF ?_
    rw [given_no hf]
theorem lcR (f : Nat → Bool) (v : Nat → V) (hn : n ≤ 100000) (hw : ∀ x, wipe ((wipe σ vs).set j (some x)) vs = wipe σ vs)
    (ht : ∀ (i : Nat) (H : Hp), i < n → H = upd H1 D (.lst (given i f v)) → Ans tt ((wipe σ vs).set j (some (.int (lo + i)))) H (f i))
    (he : ∀ (i : Nat) (H : Hp), i < n → H = upd H1 D (.lst (given i f v)) → f i = true → Val te ((wipe σ vs).set j (some (.int (lo + i)))) H (v i)) (q : Qd (upd H1 D (.lst (given n f v)))) :
    ∃ W : Nat → Nat → Hp → Prop, (∃ m, W 0 m (upd H1 D (.lst []))) ∧ ∀ i m H, W i m H →
      ((Itr lo n).stop i H ∧ Qd H) ∨ ((Itr lo n).go i H ∧ ∃ Nx : Hp → Prop, (∀ H', Nx H' → ∃ m', m' < m ∧ W (i + 1) m' H') ∧ ∀ x H', (Itr lo n).yld i H x H' → gName j x (wipe σ vs) H' fun σ2 H2 => wipe σ2 vs = wipe σ vs ∧ tt σ2 H2 fun b H3 =>
        if b = true then te σ2 H3 fun y H4 => ∃ acc, H4 D = some (.lst acc) ∧ acc.length < sizeLine ∧ Nx (upd H4 D (.lst (acc ++ [y]))) else Nx H3) :=
  lc_range (fun i H => H = upd H1 D (.lst (given i f v))) rfl (fun i H hi e => ⟨hw _, lc_turn e (by omega) (ht i H hi e) (he i H hi e)⟩) (fun H e => by rw [e]; exact q)
theorem lcRv (v : Nat → V) (hn : n ≤ 100000) (hw : ∀ x, wipe ((wipe σ vs).set j (some x)) vs = wipe σ vs)
    (he : ∀ (i : Nat) (H : Hp), i < n → H = upd H1 D (.lst (given i (fun _ => true) v)) → Val te ((wipe σ vs).set j (some (.int (lo + i)))) H (v i)) (q : Qd (upd H1 D (.lst ((List.range n).map v)))) :
    ∃ W : Nat → Nat → Hp → Prop, (∃ m, W 0 m (upd H1 D (.lst []))) ∧ ∀ i m H, W i m H →
      ((Itr lo n).stop i H ∧ Qd H) ∨ ((Itr lo n).go i H ∧ ∃ Nx : Hp → Prop, (∀ H', Nx H' → ∃ m', m' < m ∧ W (i + 1) m' H') ∧ ∀ x H', (Itr lo n).yld i H x H' → gName j x (wipe σ vs) H' fun σ2 H2 => wipe σ2 vs = wipe σ vs ∧ tYes σ2 H2 fun b H3 =>
        if b = true then te σ2 H3 fun y H4 => ∃ acc, H4 D = some (.lst acc) ∧ acc.length < sizeLine ∧ Nx (upd H4 D (.lst (acc ++ [y]))) else Nx H3) :=
  lcR (fun _ => true) v hn hw (fun _ _ _ _ => fun _ q => q) (fun i H hi e _ => he i H hi e) (by rw [given_all]; exact q)
theorem lcL (f : Nat → Bool) (v : Nat → V) (hx : SqL K H1 a xs) (hD : H1 D = none) (hn : xs.length ≤ 100000) (hw : ∀ x, wipe ((wipe σ vs).set j (some x)) vs = wipe σ vs)
    (ht : ∀ (i : Nat) (x : V) (H : Hp), xs[i]? = some x → H = upd H1 D (.lst (given i f v)) → Ans tt ((wipe σ vs).set j (some x)) H (f i))
    (he : ∀ (i : Nat) (x : V) (H : Hp), xs[i]? = some x → H = upd H1 D (.lst (given i f v)) → f i = true → Val te ((wipe σ vs).set j (some x)) H (v i)) (q : Qd (upd H1 D (.lst (given xs.length f v)))) :
    ∃ W : Nat → Nat → Hp → Prop, (∃ m, W 0 m (upd H1 D (.lst []))) ∧ ∀ i m H, W i m H →
      ((Itl K a).stop i H ∧ Qd H) ∨ ((Itl K a).go i H ∧ ∃ Nx : Hp → Prop, (∀ H', Nx H' → ∃ m', m' < m ∧ W (i + 1) m' H') ∧ ∀ x H', (Itl K a).yld i H x H' → gName j x (wipe σ vs) H' fun σ2 H2 => wipe σ2 vs = wipe σ vs ∧ tt σ2 H2 fun b H3 =>
        if b = true then te σ2 H3 fun y H4 => ∃ acc, H4 D = some (.lst acc) ∧ acc.length < sizeLine ∧ Nx (upd H4 D (.lst (acc ++ [y]))) else Nx H3) :=
  lc_list (fun i H => H = upd H1 D (.lst (given i f v))) rfl (fun i H hi e => by rw [e]; exact ex_l (Ex.new hD) hx) (fun i x H hi e => ⟨hw _, lc_turn e (by have := (List.getElem?_eq_some_iff.mp hi).1; omega) (ht i x H hi e) (he i x H hi e)⟩) (fun H e => by rw [e]; exact q)
theorem lcT (f : Nat → Bool) (v : Nat → V) (hx : SqT K H1 a xs) (hD : H1 D = none) (hn : xs.length ≤ 100000) (hw : ∀ x, wipe ((wipe σ vs).set j (some x)) vs = wipe σ vs)
    (ht : ∀ (i : Nat) (x : V) (H : Hp), xs[i]? = some x → H = upd H1 D (.lst (given i f v)) → Ans tt ((wipe σ vs).set j (some x)) H (f i))
    (he : ∀ (i : Nat) (x : V) (H : Hp), xs[i]? = some x → H = upd H1 D (.lst (given i f v)) → f i = true → Val te ((wipe σ vs).set j (some x)) H (v i)) (q : Qd (upd H1 D (.lst (given xs.length f v)))) :
    ∃ W : Nat → Nat → Hp → Prop, (∃ m, W 0 m (upd H1 D (.lst []))) ∧ ∀ i m H, W i m H →
      ((Itt K a).stop i H ∧ Qd H) ∨ ((Itt K a).go i H ∧ ∃ Nx : Hp → Prop, (∀ H', Nx H' → ∃ m', m' < m ∧ W (i + 1) m' H') ∧ ∀ x H', (Itt K a).yld i H x H' → gName j x (wipe σ vs) H' fun σ2 H2 => wipe σ2 vs = wipe σ vs ∧ tt σ2 H2 fun b H3 =>
        if b = true then te σ2 H3 fun y H4 => ∃ acc, H4 D = some (.lst acc) ∧ acc.length < sizeLine ∧ Nx (upd H4 D (.lst (acc ++ [y]))) else Nx H3) :=
  lc_tup (fun i H => H = upd H1 D (.lst (given i f v))) rfl (fun i H hi e => by rw [e]; exact ex_t (Ex.new hD) hx) (fun i x H hi e => ⟨hw _, lc_turn e (by have := (List.getElem?_eq_some_iff.mp hi).1; omega) (ht i x H hi e) (he i x H hi e)⟩) (fun H e => by rw [e]; exact q)
theorem lcLm (g : V → V) (hx : SqL K H1 a xs) (hD : H1 D = none) (hn : xs.length ≤ 100000) (hw : ∀ x, wipe ((wipe σ vs).set j (some x)) vs = wipe σ vs)
    (he : ∀ (i : Nat) (x : V) (H : Hp), xs[i]? = some x → H = upd H1 D (.lst ((xs.take i).map g)) → Val te ((wipe σ vs).set j (some x)) H (g x)) (q : Qd (upd H1 D (.lst (xs.map g)))) :
    ∃ W : Nat → Nat → Hp → Prop, (∃ m, W 0 m (upd H1 D (.lst []))) ∧ ∀ i m H, W i m H →
      ((Itl K a).stop i H ∧ Qd H) ∨ ((Itl K a).go i H ∧ ∃ Nx : Hp → Prop, (∀ H', Nx H' → ∃ m', m' < m ∧ W (i + 1) m' H') ∧ ∀ x H', (Itl K a).yld i H x H' → gName j x (wipe σ vs) H' fun σ2 H2 => wipe σ2 vs = wipe σ vs ∧ tYes σ2 H2 fun b H3 =>
        if b = true then te σ2 H3 fun y H4 => ∃ acc, H4 D = some (.lst acc) ∧ acc.length < sizeLine ∧ Nx (upd H4 D (.lst (acc ++ [y]))) else Nx H3) :=
  lc_list (fun i H => H = upd H1 D (.lst ((xs.take i).map g))) (by rw [List.take_zero]; rfl) (fun i H hi e => by rw [e]; exact ex_l (Ex.new hD) hx)
    (fun i x H hi e => ⟨hw _, by
      refine iteT (B := H = upd H1 D (.lst ((xs.take (i + 1)).map g))) ?_
      refine he i x H hi e _ ?_
      subst e
      refine ⟨_, upd_same, sz_lt ?_, ?_⟩
      · rw [List.length_map, List.length_take]; have := (List.getElem?_eq_some_iff.mp hi).1; omega
      · rw [upd_upd, List.take_add_one, hi, List.map_append]; rfl⟩) (fun H e => by rw [e, List.take_length]; exact q)
theorem lcTm (g : V → V) (hx : SqT K H1 a xs) (hD : H1 D = none) (hn : xs.length ≤ 100000) (hw : ∀ x, wipe ((wipe σ vs).set j (some x)) vs = wipe σ vs)
    (he : ∀ (i : Nat) (x : V) (H : Hp), xs[i]? = some x → H = upd H1 D (.lst ((xs.take i).map g)) → Val te ((wipe σ vs).set j (some x)) H (g x)) (q : Qd (upd H1 D (.lst (xs.map g)))) :
    ∃ W : Nat → Nat → Hp → Prop, (∃ m, W 0 m (upd H1 D (.lst []))) ∧ ∀ i m H, W i m H →
      ((Itt K a).stop i H ∧ Qd H) ∨ ((Itt K a).go i H ∧ ∃ Nx : Hp → Prop, (∀ H', Nx H' → ∃ m', m' < m ∧ W (i + 1) m' H') ∧ ∀ x H', (Itt K a).yld i H x H' → gName j x (wipe σ vs) H' fun σ2 H2 => wipe σ2 vs = wipe σ vs ∧ tYes σ2 H2 fun b H3 =>
        if b = true then te σ2 H3 fun y H4 => ∃ acc, H4 D = some (.lst acc) ∧ acc.length < sizeLine ∧ Nx (upd H4 D (.lst (acc ++ [y]))) else Nx H3) :=
  lc_tup (fun i H => H = upd H1 D (.lst ((xs.take i).map g))) (by rw [List.take_zero]; rfl) (fun i H hi e => by rw [e]; exact ex_t (Ex.new hD) hx)
    (fun i x H hi e => ⟨hw _, by
      refine iteT (B := H = upd H1 D (.lst ((xs.take (i + 1)).map g))) ?_
      refine he i x H hi e _ ?_
      subst e
      refine ⟨_, upd_same, sz_lt ?_, ?_⟩
      · rw [List.length_map, List.length_take]; have := (List.getElem?_eq_some_iff.mp hi).1; omega
      · rw [upd_upd, List.take_add_one, hi, List.map_append]; rfl⟩) (fun H e => by rw [e, List.take_length]; exact q)
end
end G
namespace G
open PySem PySem.Spec PyProof.Rows L2 Evl
/-! ## rules within a comprehension's block: the written part by its letter -/
section
variable {X : Cx} {K : PySem.W.Frag}
theorem kIxT (h : X.K = K) : IxR X (rIxT K) := by subst h; exact ix_tup
theorem kIxL (h : X.K = K) : IxR X (rIxL K) := by subst h; exact ix_list
theorem kIx (h : X.K = K) : IxR X (rIx K) := by subst h; exact ix_seq
theorem kIn (h : X.K = K) : OpR X (compareOp .In) (rIn K false) := by subst h; exact op_in_seq
theorem kNotIn (h : X.K = K) : OpR X (compareOp .NotIn) (rIn K true) := by subst h; exact op_notIn_seq
theorem kLen (h : X.K = K) : CallR X (.builtin "len") (rLenS K) := by subst h; exact call_len_seq
theorem gStr {x s : Str} {t : Tok} {pos : Pos} (hg : Gl X x) (h : X.mg x = some (.str s t)) (hd : (x == ("__debug__" : Str)) = false := by decide) : PE X (.Name x pos) (tC (.str s)) := pe_glob (v := .str s) hg h ⟨t, rfl⟩ hd
theorem gInt {x : Str} {i : Int} {t : Tok} {pos : Pos} (hg : Gl X x) (h : X.mg x = some (.int i t)) (hd : (x == ("__debug__" : Str)) = false := by decide) : PE X (.Name x pos) (tC (.int i)) := pe_glob (v := .int i) hg h ⟨t, rfl⟩ hd
theorem gRef {x : Str} {a : Addr} {pos : Pos} (hg : Gl X x) (h : X.mg x = some (.ref a)) (hd : (x == ("__debug__" : Str)) = false := by decide) : PE X (.Name x pos) (tC (.ref a)) := pe_glob (v := .ref a) hg h rfl hd
theorem kSlL (h : X.K = K) : SlR X (rSlL K) := by subst h; exact sl_list
theorem kCatA (h : X.K = K) : OpR X (binaryOp .Add) (rCatA K) := by subst h; exact op_catA
theorem kAny (h : X.K = K) (hc : X.calm = true) : CallR X (.builtin "any") (rAny K) := by subst h; exact cr_any hc
theorem kAll (h : X.K = K) (hc : X.calm = true) : CallR X (.builtin "all") (rAll K) := by subst h; exact cr_all hc
theorem kLtT (h : X.K = K) (hu : X.A.units < cLine) : OpR X (compareOp .Lt) (rLtT K) := by subst h; exact op_ltT hu
theorem kPiT {e tg : Expr} {te : TE} (h : X.K = K) (he : PE X e te) : PI X tg e (iTup K te) := by subst h; exact pi_tup he
theorem kPiL {e tg : Expr} {te : TE} (h : X.K = K) (he : PE X e te) : PI X tg e (iList K te) := by subst h; exact pi_list he
theorem kSlA (h : X.K = K) : SlR X (rSlA K) := by subst h; exact sl_tupA
end
end G
namespace G
open PySem PySem.Spec PyProof.Rows L2 Evl
theorem dpAll_map {α : Type} {K : PySem.W.Frag} {H : Hp} {f : α → V} {g : α → PyData} (h : ∀ x, Dp K H (f x) (g x)) : ∀ l : List α, DpAll K H (l.map f) (l.map g)
  | [] => .nil
  | x :: r => .cons (h x) (dpAll_map h r)
theorem dp_ints {K : PySem.W.Frag} {H : Hp} {a : Addr} {ns : List Int} (h : SqL K H a (ns.map V.int)) : Dp K H (.ref a) (.list (ns.map PyData.int)) := .lst h (dpAll_map (fun i => .int i) ns)
theorem dp_nil {K : PySem.W.Frag} {H : Hp} {a : Addr} (h : SqL K H a []) : Dp K H (.ref a) (.list []) := .lst h .nil
theorem eqv_nil (l : List PyData) : PyData.eqv (.list l) (.list []) = l.isEmpty := by cases l <;> rfl
theorem shaped_nil : SeqAt.shaped (.list []) = true := by decide +kernel
end G
/-! enumerate over a tuple -/
namespace PySem
section
variable {prog : Program} {w : World} {A : Around} {E : Value → Shared → Prop} {s : Shared}
theorem G_tupOf {h : Heap} {a : Addr} {xs : Array Value} (p : PyProof.Rows.IsTup h a xs) : h.IsTuple a xs := p
set_option maxHeartbeats 2000000 in
theorem G_enumNew {v : Value} {o : Obj} {Hh : Heap → Prop} (B : Begins v o Hh) :
    Meets (Builtin.«enumerate.__new__» ⟨[.type "enumerate", v], []⟩) (fun _ R s => Hh s.heap ∧
      R (.ok (.ret (.ref (s.heap.push o).objs.size))) { s with heap := (s.heap.push o).push { cls := .type "enumerate", data := .fields #[.none, .bool false, .ref s.heap.objs.size, rawInt 0, .none, .none] } }) :=
  .of_wp fun pr wo ar rr sh hh => by
    obtain ⟨hp, gg, dd, tk, os⟩ := sh; obtain ⟨h1, h2⟩ := hh
    have sub0 := sub_enumerate
    have qq : ∀ {A' : Around} {E : Value → Shared → Prop} {Q : Value → Shared → Prop}, Q (.ref hp.objs.size) ⟨hp.push o, gg, dd, tk, os⟩ → wpAny (model pr wo) A' (pyIter v) Q E ⟨hp, gg, dd, tk, os⟩ :=
      fun z => B.iter pr wo _ _ ⟨hp, gg, dd, tk, os⟩ _ h1 z
    wp_walk using qq
    refine wpAny_stack_any fun _ => wpAny_pure ?_
    split
    · rename_i cc _ _ _ _ _
      cases (cc == Value.type "enumerate") <;> (wp_walk using qq; exact ⟨_, rfl, h2⟩)
    · wp_walk using qq
      exact ⟨_, rfl, h2⟩
theorem G_enumCall {v : Value} {o : Obj} {Hh : Heap → Prop} {Q : Value → Shared → Prop} (B : Begins v o Hh) (h1 : Hh s.heap)
    (k : ∀ h', IsEnum h' (s.heap.objs.size + 1) s.heap.objs.size 0 .none → h'.get? s.heap.objs.size = some o → (∀ b u, s.heap.get? b = some u → h'.get? b = some u) → Q (.ref (s.heap.objs.size + 1)) { s with heap := h' }) :
    wpAny (model prog w) A (call (.type "enumerate") [v]) Q E s := by
  refine callType_new F.called_enumerate (by decide) (F.typeCall_enumerate_1 _) (F.newCall_enumerate_1 _) (fun y => F.args_object_init_2 y _) F.entry_enumerate_new (G_enumNew B) ⟨h1, ?_⟩
  have hz : (s.heap.push o).objs.size = s.heap.objs.size + 1 := Heap.size_push ..
  show _ ∧ _
  rw [hz]
  have he : IsEnum ((s.heap.push o).push { cls := .type "enumerate", data := .fields #[.none, .bool false, .ref s.heap.objs.size, rawInt 0, .none, .none] }) (s.heap.objs.size + 1) s.heap.objs.size 0 .none := by
    have hs := Heap.get?_push_size (s.heap.push o) (o := { cls := .type "enumerate", data := .fields #[.none, .bool false, .ref s.heap.objs.size, rawInt 0, .none, .none] }) rfl
    rw [hz] at hs; exact hs
  exact ⟨⟨_, he, rfl⟩, k _ he (Heap.get?_push_of_some _ (Heap.get?_push_size _ B.free)) fun b u x => Heap.get?_push_of_some _ (Heap.get?_push_of_some _ x)⟩
end
end PySem
namespace G
open PySem PySem.Spec PyProof.Rows L2 Evl
/-- the tuple at a at each turn, each item in a new pair -/
def IteT (K : PySem.W.Frag) (a : Addr) : It :=
  ⟨fun i H => ∃ (xs : List V) (x : V), SqT K H a xs ∧ xs[i]? = some x,
   fun i H v H' => ∃ T x, v = .ref T ∧ H T = none ∧ H' = upd H T (.tup [.int (i : Nat), x]) ∧ ∀ xs, SqT K H a xs → xs[i]? = some x,
   fun i H => ∃ xs : List V, SqT K H a xs ∧ xs.length = i⟩
theorem turn_enumT {P : Program} {w : World} {K : PySem.W.Frag} {elts : List Expr} {kk : Nat} {tpos : Pos} (a e it : Addr) :
    Turn P w K (.Tuple elts kk tpos) (IteT K a) [e, it] e (fun i h => (∃ old, IsEnum h e it ((i : Nat) : Int) old) ∧ h.IsTupleIter it a i ∧ e ≠ it ∧ a ≠ it ∧ a ≠ e) where
  mem := by simp
  obj := fun i h st b hb => by
    obtain ⟨⟨old, he⟩, ⟨o, ho, hc, hd⟩, _⟩ := st
    have hb' : b = e ∨ b = it := by simpa using hb
    rcases hb' with z | z
    · rw [z]; exact ⟨_, he, fun v q => nomatch q⟩
    · rw [z]; exact ⟨o, ho, fun v q => by rw [hd] at q; cases q⟩
  keep := fun i h h' st k => by
    obtain ⟨⟨old, he⟩, hi, hne⟩ := st
    exact ⟨⟨old, k e (by simp) _ he⟩, hi.at fun o q => k it (by simp) o q, hne⟩
  item := by
    intro X hP hw hK hc i pins s σ H E I hf st hg
    subst hP hw hK
    obtain ⟨⟨old, he⟩, hit, hne, hai, hae⟩ := st
    obtain ⟨xs, x, hq, hx⟩ := hg
    obtain ⟨its, rv, p, hz⟩ := I.tuple hq
    obtain ⟨u, hu, ru⟩ := rv.get hx
    have hel : e < s.heap.objs.size := Heap.lt_size he
    have hil : it < s.heap.objs.size := by obtain ⟨_, q, _⟩ := hit; exact Heap.lt_size q
    have hh : X.A.handled = none := I.ok.hd hc
    refine wpAny_pyNext_enum_itemD (Draws.tuple (A := X.A.in1) hh it a hai its.toArray) he ⟨hit, p⟩ ?_ hne ?_ fun y h' tk hy ho hst hT hsz hk => ?_
    · have := (List.getElem?_eq_some_iff.mp hu).1
      simpa using this
    · intro hm
      have hm' : e = it ∨ e = a := by simpa using hm
      rcases hm' with z | z
      · exact hne z
      · exact hae z.symm
    · have ey : y = u := by
        have hy' : its[i]? = some y := by simpa using hy
        exact Option.some.inj (hy'.symm.trans hu)
      subst ey
      refine ⟨_, rfl, wpAny_letOwnedTupleGo_enum (s := { s with heap := h', toks := tk + 1 }) ho fun h'' he' sb => ?_⟩
      have hT2 : h''.get? s.heap.objs.size = some { cls := .type "tuple", data := .seq #[.int i tk, y] } := (sb.2 _ (Nat.ne_of_gt hel)).trans hT
      have new : ObjOk X.prog X.w (upd H s.heap.objs.size (.tup [.int (i : Nat), x])) h'' s.heap.objs.size (.tup [.int (i : Nat), x]) :=
        ⟨by show 2 ≤ sizeLine; decide, [.int i tk, y], .cons ⟨_, rfl⟩ (.cons ru .nil), ⟨_, hT2, rfl, _, rfl⟩⟩
      have I1 : Inv X pins σ (upd H s.heap.objs.size (.tup [.int (i : Nat), x])) { s with heap := h'', toks := tk + 1 } :=
        I.turnedNew (ch := [e, it]) (fun b ob hb q => (sb.2 b (fun z => hb (by simp [z]))).trans (hk b ob (fun z => hb (by simp [z])) (fun z => hb (by simp [z])) q)) hf (Nat.le_refl _) new
      refine ⟨.ref s.heap.objs.size, _, I1, rfl, ⟨_, x, rfl, I.hok.fresh (Nat.le_refl _), rfl, fun ys hy => by rw [I.tuple_inj hy hq]; exact hx⟩, ⟨⟨y, ?_⟩, hst.1.at fun o q => (sb.2 it (Ne.symm hne)).trans q, hne, hai, hae⟩, fun b hb => ?_⟩
      · have e1 : ((i + 1 : Nat) : Int) = (i : Int) + 1 := by omega
        rw [e1]; exact he'
      · have hb' : b < s.heap.objs.size := by
          have hb2 : b = e ∨ b = it := by simpa using hb
          rcases hb2 with z | z
          · rw [z]; exact hel
          · rw [z]; exact hil
        rw [upd_ne (Nat.ne_of_lt hb')]
        exact (hf b hb).1
  done := by
    intro X hP hw hK hc i pins s σ H E I hf st hg
    subst hP hw hK
    obtain ⟨⟨old, he⟩, hit, hne, hai, hae⟩ := st
    obtain ⟨xs, hq, hx⟩ := hg
    obtain ⟨its, rv, p, hz⟩ := I.tuple hq
    obtain ⟨f0, f1, f2, f3, f4, f5⟩ := hf it (by simp)
    have hl := rv.length
    have hh : X.A.handled = none := I.ok.hd hc
    have ei : its.toArray.size = i := by rw [List.size_toArray, ← hl]; exact hx
    have st2 : s.heap.IsTupleIter it a its.toArray.size ∧ s.heap.IsTuple a its.toArray := by rw [ei]; exact ⟨hit, p⟩
    exact wpAny_pyNext_enum_endD (Draws.tuple (A := X.A.in1) hh it a hai its.toArray) he st2 fun h' eb => ⟨rfl, I.turned (t' := s.toks) (fun b o hb q => eb b o hb q) f0 f1 f3 f4 f5⟩
  self := fun A i s Q E st h => by
    obtain ⟨⟨_, he⟩, _⟩ := st
    exact wpAny_pyIter_enum he h
def iEnumT (K : PySem.W.Frag) (ta : TA) : TI := fun σ H R => ta σ H fun vs H1 => ∃ a xs, vs = [.ref a] ∧ SqT K H1 a xs ∧ R (IteT K a) H1
theorem pi_enumT {X : Cx} {e : Expr} {ta : TA} {p pos tpos : Pos} {elts : List Expr} {kk : Nat} (hg : Gl X "enumerate") (hm : X.mg "enumerate" = none) (ha : PA X [e] ta) (hs : starEach [e] X.env = [(false, eval e X.env)] := by rfl) :
    PI X (.Tuple elts kk tpos) (.Call (.Name "enumerate" p) [e] [] pos) (iEnumT X.K ta) := by
  refine ⟨fun pins s σ H R I h => Call_ (ld_blt I hg hm boot_enumerate (PyProof.Rows.callWith_type1 (thn (ha.run pos pins s σ H _ I h) fun us s1 ⟨vs, H1, I1, r1, q1⟩ => ?_) hs rfl))⟩
  obtain ⟨a, xs, rfl, hq, q⟩ := q1
  cases r1 with
  | cons r rr =>
    cases rr
    cases r
    obtain ⟨its, rv, p', hz⟩ := I1.tuple hq
    have hal : a < s1.heap.objs.size := by obtain ⟨o, ho, _⟩ := p'; exact Heap.lt_size ho
    refine G_enumCall (begins_tuple a its.toArray) p' fun h' he hit hk => wpAny_pyIter_enum he ?_
    have I2 : Inv X pins σ H1 { s1 with heap := h' } := I1.kept (t' := s1.toks) hk
    refine ⟨s1.heap.objs.size + 1, [s1.heap.objs.size + 1, s1.heap.objs.size], _, _, H1, rfl, I2, turn_enumT a (s1.heap.objs.size + 1) s1.heap.objs.size,
      ⟨⟨.none, he⟩, ⟨_, hit, rfl, rfl⟩, Nat.succ_ne_self _, Nat.ne_of_lt hal, Nat.ne_of_lt (Nat.lt_succ_of_lt hal)⟩, fun b hb => ?_, q⟩
    have hb' : b = s1.heap.objs.size + 1 ∨ b = s1.heap.objs.size := by simpa using hb
    have hle : s1.heap.objs.size ≤ b := by
      rcases hb' with z | z
      · rw [z]; exact Nat.le_add_right _ _
      · rw [z]; exact Nat.le_refl _
    exact I1.fpOk hle (I1.hok.fresh hle)
theorem walk_enumT {K : PySem.W.Frag} {a : Addr} {xs : List V} : Walk (IteT K a) xs.length (fun H => SqT K H a xs) (YPair (fun i => some (.int (i : Nat))) (fun i => xs[i]?)) := by
  refine ⟨fun i _ hi q => ⟨xs, xs[i], q, by simp [hi]⟩, fun _ q => ⟨xs, q, rfl⟩, fun i H v H' _ q y => ?_⟩
  obtain ⟨T, x, h1, h2, h3, h4⟩ := y
  exact ⟨T, .int (i : Nat), x, h1, h2, h3, rfl, h4 xs q⟩
theorem kPiEnumT {X : Cx} {K : PySem.W.Frag} {e : Expr} {ta : TA} {p pos tpos : Pos} {elts : List Expr} {kk : Nat} (h : X.K = K) (hg : Gl X "enumerate") (hm : X.mg "enumerate" = none) (ha : PA X [e] ta) (hs : starEach [e] X.env = [(false, eval e X.env)] := by rfl) :
    PI X (.Tuple elts kk tpos) (.Call (.Name "enumerate" p) [e] [] pos) (iEnumT K ta) := by subst h; exact pi_enumT hg hm ha hs
end G
/-! t[a::2], t a tuple -/
namespace HT
open PySem PySem.Spec PyProof.Rows L2
section
variable {prog : Program} {w : World} {A : Around} {E : Value → Shared → Prop} {s : Shared}
theorem g_applied {sl : Addr} {vl vu vs : Value} {lo hi : Option Int} {st : Int} {n : Nat} {Q : Int × Int × Nat → Shared → Prop} (hs : s.heap.IsSliceOf sl vl vu vs) (pl : IsPart vl lo) (pu : IsPart vu hi) (ps : IsPart vs (some st)) (h0 : st ≠ 0)
    (h : Q ((Builtin.Slice.sliceAdjust lo hi st (n : Int)).1, st, Builtin.Slice.slicePlaces (Builtin.Slice.sliceAdjust lo hi st (n : Int)).1 (Builtin.Slice.sliceAdjust lo hi st (n : Int)).2 st) s) :
    wpAny (model prog w) A (Builtin.Slice.sliceApplied (.ref sl) (pure (n : Int))) Q E s := by
  obtain ⟨ob, hob, _, hd⟩ := id hs
  unfold Builtin.Slice.sliceApplied Builtin.Slice.sliceFields
  refine wpAny_bind (wpAny_bind (wpAny_field hob hd (x := vl) rfl (wpAny_bind (wpAny_field hob hd (x := vu) rfl (wpAny_bind (wpAny_field hob hd (x := vs) rfl (wpAny_pure ?_)))))))
  refine wpAny_bind (slicePart_ ps ?_)
  show wpAny _ _ (if (st == 0) = true then _ else _) _ _ s
  rw [if_neg (by intro q; exact h0 (eq_of_beq q))]
  exact wpAny_bind (slicePart_ pl (wpAny_bind (slicePart_ pu (wpAny_bind (wpAny_pure (wpAny_pure h))))))
def stepped (xs : List Value) (lo st : Int) (n : Nat) : List Value := (List.range n).filterMap fun (k : Nat) => xs.toArray[(lo + (k : Int) * st).toNat]?
theorem g_getStep {t sl : Addr} {its : List Value} {vl vu vs : Value} {lo hi : Option Int} {st : Int} {Q : Value → Shared → Prop} (ht : IsTup s.heap t its.toArray) (hs : s.heap.IsSliceOf sl vl vu vs) (pl : IsPart vl lo) (pu : IsPart vu hi) (ps : IsPart vs (some st)) (h0 : st ≠ 0) (h1 : st ≠ 1)
    (hz : (stepped its (Builtin.Slice.sliceAdjust lo hi st (its.toArray.size : Int)).1 st (Builtin.Slice.slicePlaces (Builtin.Slice.sliceAdjust lo hi st (its.toArray.size : Int)).1 (Builtin.Slice.sliceAdjust lo hi st (its.toArray.size : Int)).2 st)).length ≤ sizeLine)
    (h : Q (.ref s.heap.objs.size) { s with heap := s.heap.push { cls := .type "tuple", data := .seq (stepped its (Builtin.Slice.sliceAdjust lo hi st (its.toArray.size : Int)).1 st (Builtin.Slice.slicePlaces (Builtin.Slice.sliceAdjust lo hi st (its.toArray.size : Int)).1 (Builtin.Slice.sliceAdjust lo hi st (its.toArray.size : Int)).2 st)).toArray } }) :
    wpAny (model prog w) A (getItem (.ref t) (.ref sl)) Q E s := by
  have ok : sizeOk (.seq (stepped its (Builtin.Slice.sliceAdjust lo hi st (its.toArray.size : Int)).1 st (Builtin.Slice.slicePlaces (Builtin.Slice.sliceAdjust lo hi st (its.toArray.size : Int)).1 (Builtin.Slice.sliceAdjust lo hi st (its.toArray.size : Int)).2 st)).toArray) := by
    show (stepped its _ st _).toArray.size ≤ sizeLine
    rw [List.size_toArray]; exact hz
  obtain ⟨ob, hob, hc, hd⟩ := id hs
  have hTs : s.TypeIs (.ref sl) "slice" := ⟨ob, hob, hc⟩
  unfold getItem
  try with_reducible refine wpAny_holding ?_
  first | refine wpAny_bind (wpAny_pure ?_) | skip
  refine wpAny_bind (wpAny_sequenceKey ht.typeIs (by decide) ?_)
  refine wpAny_bind (wpAny_callSpecial?_slot (name := Str.ofString "__getitem__") ht.typeIs slot_tuple_getitem (wpAny_call_entry slot_tuple_getitem ht.typeIs entry_tuple_getitem ?_ (args_tuple_getitem _ _)))
  show wpAny _ _ (Builtin.Tuple.tupleItemsOf (.ref t) >>= _) _ _ s
  refine wpAny_bind (tupleItemsOf_ ht (wpAny_bind (wpAny_typeOf hTs ?_)))
  rw [if_pos (by decide)]
  refine wpAny_bind (g_applied hs pl pu ps h0 ?_)
  generalize (Builtin.Slice.sliceAdjust lo hi st (its.toArray.size : Int)).1 = l0 at *
  generalize Builtin.Slice.slicePlaces l0 (Builtin.Slice.sliceAdjust lo hi st (its.toArray.size : Int)).2 st = n0 at *
  have hno : ¬ ((l0 == 0 && st == 1 && n0 == its.toArray.size) = true) := by
    intro q
    rw [Bool.and_eq_true, Bool.and_eq_true] at q
    exact h1 (eq_of_beq q.1.2)
  show wpAny _ _ (if (l0 == 0 && st == 1 && n0 == its.toArray.size) = true then _ else _) _ _ s
  rw [if_neg hno]
  first
    | exact wpAny_bind (m := Builtin.Tuple.tupleExact _) (wpAny_newObj_type (wpAny_pure ⟨_, rfl, wpAny_pure h⟩) ok)
    | exact wpAny_bind (m := Builtin.Tuple.tupleExact _) (wpAny_newObj_type (wpAny_bind (wpAny_pure (wpAny_pure ⟨_, rfl, wpAny_pure h⟩))) ok)
    | exact wpAny_bind (wpAny_bind (m := Builtin.Tuple.tupleExact _) (wpAny_newObj_type (wpAny_pure (wpAny_pure ⟨_, rfl, wpAny_pure h⟩)) ok))
    | exact wpAny_bind (wpAny_bind (m := Builtin.Tuple.tupleExact _) (wpAny_newObj_type (wpAny_pure ⟨_, rfl, wpAny_pure h⟩) ok))
end
end HT
namespace G
open PySem PySem.Spec PyProof.Rows L2 Evl
/-- every second item from a on -/
def halfL {α : Type} (a : Nat) (xs : List α) : List α := (List.range ((xs.length - a + 1) / 2)).filterMap fun k => xs[a + 2 * k]?
theorem halfL_len {α : Type} (a : Nat) (xs : List α) : (halfL a xs).length ≤ xs.length + 1 := by
  unfold halfL
  refine Nat.le_trans (List.length_filterMap_le _ _) ?_
  rw [List.length_range]; omega
theorem vals_filterMap {f : Nat → Option V} {g : Nat → Option Value} : ∀ {l : List Nat}, (∀ k, k ∈ l → RelO (f k) (g k)) → Vals (l.filterMap f) (l.filterMap g)
  | [], _ => .nil
  | k :: r, h => by
    have hk := h k (List.mem_cons_self ..)
    have ih := vals_filterMap (l := r) fun j hj => h j (List.mem_cons_of_mem _ hj)
    rw [List.filterMap_cons, List.filterMap_cons]
    cases e : f k with
    | none =>
      cases e2 : g k with
      | none => exact ih
      | some u => rw [e, e2] at hk; exact hk.elim
    | some v =>
      cases e2 : g k with
      | none => rw [e, e2] at hk; exact hk.elim
      | some u => rw [e, e2] at hk; exact .cons hk ih
def tHalf (K : PySem.W.Frag) (a : Nat) (te : TE) : TE := fun σ H Q => te σ H fun x H1 => ∃ t xs, x = .ref t ∧ SqT K H1 t xs ∧ xs.length ≤ 100000 ∧ ∀ p, H1 p = none → Q (.ref p) (upd H1 p (.tup (halfL a xs)))
theorem half_places {a n : Nat} (h : a ≤ 1) : (Builtin.Slice.sliceAdjust (some (a : Int)) none 2 (n : Int)).1 = ((min a n : Nat) : Int) ∧
    Builtin.Slice.slicePlaces (Builtin.Slice.sliceAdjust (some (a : Int)) none 2 (n : Int)).1 (Builtin.Slice.sliceAdjust (some (a : Int)) none 2 (n : Int)).2 2 = (n - a + 1) / 2 := by
  have h2 : ¬ ((2 : Int) < 0) := by omega
  have h3 : (2 : Int) > 0 := by omega
  have ha : ¬ ((a : Int) < 0) := by omega
  have e : Builtin.Slice.sliceAdjust (some (a : Int)) none 2 (n : Int) = (((min a n : Nat) : Int), (n : Int)) := by
    unfold Builtin.Slice.sliceAdjust
    simp only [h2, if_false, ha]
    refine Prod.ext ?_ rfl
    show min (a : Int) (n : Int) = ((min a n : Nat) : Int)
    omega
  rw [e]
  refine ⟨rfl, ?_⟩
  show Builtin.Slice.slicePlaces ((min a n : Nat) : Int) (n : Int) 2 = (n - a + 1) / 2
  unfold Builtin.Slice.slicePlaces
  simp only [h3, if_true]
  split <;> omega
section
variable {X : Cx}
theorem pe_half {e : Expr} {te : TE} {a : Nat} {k1 k2 : Nat} {p1 p2 p3 pos : Pos} (ha : a ≤ 1) (he : PE X e te) : PE X (.Subscript e (.Slice (some (.Constant (.int (a : Int)) k1 p1)) none (some (.Constant (.int 2) k2 p2)) p3) pos) (tHalf X.K a te) := by
  refine ⟨fun pins s σ H Q I h => Subscript_ (thn (he.run pins s σ H _ I h) fun v s1 ⟨x, H1, I1, r1, q1⟩ => ?_)⟩
  obtain ⟨t, xs, rfl, hx, hlen, q⟩ := q1
  cases r1
  have hlo : PO X (some (.Constant (.int (a : Int)) k1 p1)) (tPart (tC (.int (a : Int)))) := po_some pe_int
  have hst : PO X (some (.Constant (.int 2) k2 p2)) (tPart (tC (.int 2))) := po_some pe_int
  refine wpAny_Slice (thn (hlo.run pins s1 σ H1 (fun o H2 => o = some (a : Int) ∧ H2 = H1) I1 ⟨_, rfl, rfl, rfl⟩) fun vl s2 ⟨l, H2, I2, pl, el, e2⟩ => ?_)
  subst el e2
  refine thn (po_none.run pins s2 σ H2 (fun o H3 => o = none ∧ H3 = H2) I2 ⟨rfl, rfl⟩) fun vu s3 ⟨u, H3, I3, pu, eu, e3⟩ => ?_
  subst eu e3
  refine thn (hst.run pins s3 σ H3 (fun o H4 => o = some 2 ∧ H4 = H3) I3 ⟨_, rfl, rfl, rfl⟩) fun vs s4 ⟨o, H4, I4, ps, eo, e4⟩ => ?_
  subst eo e4
  have I5 : Inv X pins σ H4 { s4 with heap := s4.heap.push { cls := .type "slice", data := .fields #[vl, vu, vs] } } := I4.kept (t' := s4.toks) fun b ob q => Heap.get?_push_of_some _ q
  obtain ⟨its, r, ht, hz⟩ := I5.tuple hx
  have hl : its.toArray.size = xs.length := by rw [List.size_toArray]; exact r.length.symm
  obtain ⟨hp1, hp2⟩ := half_places (n := xs.length) ha
  have hrel : Vals (halfL a xs) (HT.stepped its ((min a xs.length : Nat) : Int) 2 ((xs.length - a + 1) / 2)) := by
    unfold halfL HT.stepped
    refine vals_filterMap fun k hk => ?_
    have hk' := List.mem_range.mp hk
    have hi : a + 2 * k < xs.length := by omega
    have en : (((min a xs.length : Nat) : Int) + (k : Int) * 2).toNat = a + 2 * k := by omega
    rw [en, List.getElem?_eq_getElem hi]
    obtain ⟨u, hu, ru⟩ := r.get (List.getElem?_eq_getElem hi)
    rw [List.getElem?_toArray, hu]
    exact ru
  have hsz : (halfL a xs).length ≤ sizeLine := sz_of (by
    unfold halfL
    refine Nat.le_trans (List.length_filterMap_le _ _) ?_
    rw [List.length_range]
    omega)
  show wpAny (model X.prog X.w) X.A (subscriptTail e (.Slice (some (.Constant (.int (a : Int)) k1 p1)) none (some (.Constant (.int 2) k2 p2)) p3) (.ref t) (.ref s4.heap.objs.size)) (EP X pins σ Q) X.xe { s4 with heap := s4.heap.push { cls := .type "slice", data := .fields #[vl, vu, vs] } }
  refine tail_any (ops := [.ref t, .ref s4.heap.objs.size]) ht.typeIs PyProof.Rows.slot_tuple_getitem.lookup ?_ (by with_unfolding_all rfl)
  refine HT.g_getStep ht (Heap.IsSliceOf.new _ vl vu vs) pl pu ps (by decide) (by decide) ?_ ?_
  · rw [hl, hp2, hp1, ← hrel.length]; exact hsz
  · rw [hl, hp2, hp1]
    refine ⟨.ref _, _, I5.laid (t' := s4.toks) (o := .tup (halfL a xs)) (fun b ob q => Heap.get?_push_of_some _ q) (Nat.le_refl _) ?_, rfl, q _ (I5.hok.fresh (Nat.le_refl _))⟩
    exact ⟨hsz, _, hrel, ⟨_, Heap.get?_push_size _ rfl, rfl, _, rfl⟩⟩
end
end G
/-! xs[::e], the step 1 or -1 -/
namespace G
open PySem PySem.Spec PyProof.Rows L2
def tStepL (K : PySem.W.Frag) (te ts : TE) : TE := fun σ H Q => te σ H fun x H1 => ts σ H1 fun z H2 => ∃ a xs, x = .ref a ∧ SqL K H2 a xs ∧
  ((z = .int 1 ∧ ∀ p, H2 p = none → Q (.ref p) (upd H2 p (.lst xs))) ∨ (z = .int (-1) ∧ ∀ p, H2 p = none → Q (.ref p) (upd H2 p (.lst xs.reverse))))
theorem pick_one (its : List Value) : slicePick its.toArray none none (some 1) = its.toArray := by
  have e : slicePick its.toArray none none (some 1) = slicePick its.toArray none none none := rfl
  rw [e, slicePick_cut, HT.sIx_none, HT.sIx_none, List.drop_zero, Nat.sub_zero, List.take_length]
theorem pe_stepL {X : Cx} {e es : Expr} {te ts : TE} {p3 pos : Pos} (he : PE X e te) (hs : PE X es ts) : PE X (.Subscript e (.Slice none none (some es) p3) pos) (tStepL X.K te ts) := by
  refine ⟨fun pins s σ H Q I h => ?_⟩
  refine Subscript_ (thn (he.run pins s σ H _ I h) fun v s1 ⟨x, H1, I1, r1, q1⟩ => ?_)
  refine wpAny_Slice (thn (po_none.run pins s1 σ H1 (fun o H2 => o = none ∧ H2 = H1) I1 ⟨rfl, rfl⟩) fun vl s2 ⟨l, H2, I2, pl, el, e2⟩ => ?_)
  subst el e2
  refine thn (po_none.run pins s2 σ H2 (fun o H3 => o = none ∧ H3 = H2) I2 ⟨rfl, rfl⟩) fun vu s3 ⟨u, H3, I3, pu, eu, e3⟩ => ?_
  subst eu e3
  refine thn (hs.run pins s3 σ H3 _ I3 q1) fun vs s4 ⟨z, H4, I4, rz, a, xs, ex, hx, q⟩ => ?_
  subst ex
  cases r1
  have I5 : Inv X pins σ H4 { s4 with heap := s4.heap.push { cls := .type "slice", data := .fields #[vl, vu, vs] } } := I4.kept (t' := s4.toks) fun b ob q => Heap.get?_push_of_some _ q
  obtain ⟨its, r, ht, hz⟩ := I5.list hx
  have hlen := r.length
  show wpAny (model X.prog X.w) X.A (subscriptTail e (.Slice none none (some es) p3) (.ref a) (.ref s4.heap.objs.size)) (EP X pins σ Q) X.xe { s4 with heap := s4.heap.push { cls := .type "slice", data := .fields #[vl, vu, vs] } }
  refine tail_any (ops := [.ref a, .ref s4.heap.objs.size]) ht.isList.typeIs (PySem.slot_list_getitem.lookup) ?_ (by with_unfolding_all rfl)
  rcases q with ⟨rfl, q⟩ | ⟨rfl, q⟩
  · obtain ⟨t, rfl⟩ := rz
    refine wpAny_getItem_list_slice ht.isList (Heap.IsSliceOf.new _ vl vu _) pl pu (.int 1 t) (by decide) ?_ (by rw [List.size_toArray]; omega)
    rw [pick_one]
    refine ⟨.ref _, _, I5.laid (t' := s4.toks) (o := .lst xs) (fun b ob q => Heap.get?_push_of_some _ q) (Nat.le_refl _) ?_, rfl, q _ (I5.hok.fresh (Nat.le_refl _))⟩
    exact ⟨hz, _, 0, r, Heap.get?_push_size _ rfl⟩
  · obtain ⟨t, rfl⟩ := rz
    refine wpAny_getItem_list_slice ht.isList (Heap.IsSliceOf.new _ vl vu _) pl pu (.int (-1) t) (by decide) ?_ (by rw [List.size_toArray]; omega)
    rw [PySem.W.krv_pick]
    refine ⟨.ref _, _, I5.laid (t' := s4.toks) (o := .lst xs.reverse) (fun b ob q => Heap.get?_push_of_some _ q) (Nat.le_refl _) ?_, rfl, q _ (I5.hok.fresh (Nat.le_refl _))⟩
    exact ⟨by rw [List.length_reverse]; exact hz, _, 0, r.reverse, Heap.get?_push_size _ rfl⟩
end G
namespace G
open PySem PySem.Spec PyProof.Rows L2 Evl
theorem walk_zipT {K : PySem.W.Frag} {a b : Addr} {xs ys : List V} {n : Nat} (hn : n = min xs.length ys.length) : Walk (RZ.ItzT K a b) n (fun H => SqT K H a xs ∧ SqT K H b ys) (YPair (fun i => xs[i]?) (fun i => ys[i]?)) := by
  subst hn
  refine ⟨fun i _ hi q => ?_, fun _ q => ⟨xs, ys, q.1, q.2, by omega⟩, fun i H v H' _ q y => ?_⟩
  · have h1 : i < xs.length := by omega
    have h2 : i < ys.length := by omega
    exact ⟨xs, ys, xs[i], ys[i], q.1, q.2, by simp [h1], by simp [h2]⟩
  · obtain ⟨T, x, z, h1, h2, h3, h4, h5⟩ := y
    exact ⟨T, x, z, h1, h2, h3, h4 xs q.1, h5 ys q.2⟩
end G
/-! range(i, j) of any whole numbers -/
namespace G
open PySem PySem.Spec PyProof.Rows L2
theorem turn_rangeL {P : Program} {w : World} {K : PySem.W.Frag} {tg : Expr} (it : Addr) (lo : Int) (n : Nat) : Turn P w K tg (Itr lo n) [it] it (fun i h => IsLongIter h it (lo + (i : Nat) * 1) ((n : Int) - (i : Nat)) 1) where
  mem := by simp
  obj := fun i h st b hb => by
    have e : b = it := by simpa using hb
    subst e
    exact ⟨_, st, fun v z => by
      have z' : Data.fields _ = Data.cell v := z
      cases z'⟩
  keep := fun i h h' st k => k it (by simp) _ st
  item := by
    intro X hP hw hK hc i pins s σ H E I hf st hg
    subst hP hw hK
    obtain ⟨f0, f1, f2, f3, f4, f5⟩ := hf it (by simp)
    have W := Walks.longrange (prog := X.prog) (w := X.w) (I.ok.hd hc) it lo 1 n
    refine W.item i s _ _ hg st fun v h' tk hv st' kk => ?_
    obtain ⟨t, rfl⟩ := hv
    have I1 : Inv X pins σ H { s with heap := h', toks := tk } := I.turned (fun b o hb e => kk b o (by simpa using hb) e) f0 f1 f3 f4 f5
    refine ⟨_, rfl, go_of (s := { s with heap := h', toks := tk }) (n := "longrange_iterator") st' rfl rfl (by decide) ⟨.int (lo + i), H, I1, ⟨t, ?_⟩, ⟨rfl, rfl⟩, st', fun b hb => (hf b hb).1⟩⟩
    rw [Int.mul_one]
  done := by
    intro X hP hw hK hc i pins s σ H E I hf st hg
    subst hP hw hK
    obtain ⟨f0, f1, f2, f3, f4, f5⟩ := hf it (by simp)
    exact wpAny_pyNext_long_end (I.ok.hd hc) st (by have : n ≤ i := hg; omega) fun h' eb => ⟨rfl, I.turned (t' := s.toks) (fun b o hb e => eb b o hb e) f0 f1 f3 f4 f5⟩
  self := fun _ _ _ _ _ st h => wpAny_pyIter_longiter st h
section
variable {X : Cx} {tg : Expr}
theorem range_itL {pins : List (Addr × Obj)} {σ : L2.St} {H : Hp} {s : Shared} {R : It → Hp → Prop} {E : Value → Shared → Prop} {lo hi : Int} {t u v : Tok} {tk : Nat} (I : Inv X pins σ H s)
    (q : R (Itr lo (hi - lo).toNat) H) : wpAny (model X.prog X.w) X.A (pyIter (.ref s.heap.objs.size)) (PIE X pins σ tg R) E { s with heap := s.heap.push { cls := .type "range", data := .fields #[.int lo t, .int hi u, .int 1 v] }, toks := tk } := by
  have I1 : Inv X pins σ H { s with heap := s.heap.push { cls := .type "range", data := .fields #[.int lo t, .int hi u, .int 1 v] }, toks := tk } := I.kept fun b o e => Heap.get?_push_of_some _ e
  have e1 : lo + ((0 : Nat) : Int) * 1 = lo := by simp
  have e2 : (((hi - lo).toNat : Nat) : Int) - ((0 : Nat) : Int) = Builtin.Range.rangeSize lo hi 1 := by rw [rangeSize_one]; split <;> omega
  cases hs : Builtin.Range.small lo hi 1 with
  | true =>
    refine wpAny_pyIter_range (IsRange.new ..) hs ?_
    refine ⟨(s.heap.push { cls := .type "range", data := .fields #[.int lo t, .int hi u, .int 1 v] }).objs.size, [(s.heap.push { cls := .type "range", data := .fields #[.int lo t, .int hi u, .int 1 v] }).objs.size], _, _, H, rfl,
      I1.kept (t' := tk) fun b o e => Heap.get?_push_of_some _ e, turn_range _ lo (hi - lo).toNat, ?_, fun b hb => ?_, q⟩
    · show IsRangeIter _ _ (lo + ((0 : Nat) : Int) * 1) ((((hi - lo).toNat : Nat) : Int) - ((0 : Nat) : Int)) 1
      rw [e1, e2]
      exact Heap.get?_push_size _ rfl
    · have e : b = (s.heap.push { cls := .type "range", data := .fields #[.int lo t, .int hi u, .int 1 v] }).objs.size := by simpa using hb
      subst e
      exact I1.fpOk (Nat.le_refl _) (I1.hok.fresh (Nat.le_refl _))
  | false =>
    refine wpAny_pyIter_longrange (IsRange.new ..) hs ?_
    refine ⟨(s.heap.push { cls := .type "range", data := .fields #[.int lo t, .int hi u, .int 1 v] }).objs.size, [(s.heap.push { cls := .type "range", data := .fields #[.int lo t, .int hi u, .int 1 v] }).objs.size], _, _, H, rfl,
      I1.kept (t' := tk) fun b o e => Heap.get?_push_of_some _ e, turn_rangeL _ lo (hi - lo).toNat, ?_, fun b hb => ?_, q⟩
    · show IsLongIter _ _ (lo + ((0 : Nat) : Int) * 1) ((((hi - lo).toNat : Nat) : Int) - ((0 : Nat) : Int)) 1
      rw [e1, e2]
      exact Heap.get?_push_size _ rfl
    · have e : b = (s.heap.push { cls := .type "range", data := .fields #[.int lo t, .int hi u, .int 1 v] }).objs.size := by simpa using hb
      subst e
      exact I1.fpOk (Nat.le_refl _) (I1.hok.fresh (Nat.le_refl _))
def iRng2L (ta : TA) : TI := fun σ H R => ta σ H fun vs H1 => ∃ i j : Int, vs = [.int i, .int j] ∧ R (Itr i (j - i).toNat) H1
theorem pi_range2L {a b : Expr} {ta : TA} {p pos : Pos} (hg : Gl X "range") (hm : X.mg "range" = none) (ha : PA X [a, b] ta) (hs : starEach [a, b] X.env = [(false, eval a X.env), (false, eval b X.env)] := by rfl) (hs2 : starEach [b] X.env = [(false, eval b X.env)] := by rfl) :
    PI X tg (.Call (.Name "range" p) [a, b] [] pos) (iRng2L ta) := by
  refine ⟨fun pins s σ H R I h => ?_⟩
  refine Call_ (ld_blt I hg hm boot_range (PyProof.Rows.callWith_type1 (thn (ha.run pos pins s σ H _ I h) fun us s1 ⟨vs, H1, I1, r1, q1⟩ => ?_) (by rw [hs, hs2]) (by rw [hs2]; rfl)))
  obtain ⟨i, j, e, q⟩ := q1
  subst e
  cases r1 with
  | cons r rr =>
    cases rr with
    | cons r' rr =>
      cases rr
      obtain ⟨t, rfl⟩ := r
      obtain ⟨t', rfl⟩ := r'
      exact call_range_2 (range_itL I1 q)
end
end G
namespace G
open PySem PySem.Spec PyProof.Rows L2 Evl
theorem tYes_in {σ : L2.St} {H : Hp} {A B : Hp → Prop} (h : A H) : tYes σ H (fun b H3 => if b = true then A H3 else B H3) := by
  show if true = true then A H else B H
  exact iteT h
def tabV (bs : List Bool) : HO := .tup (bs.map V.bl)
theorem inV_ints {k : Int} {l : List Int} : inV (.int k) (l.map V.int) = l.contains k := by
  unfold inV
  rw [List.any_map, List.contains_eq_any_beq]
  congr 1
  funext y
  show (y == k) = (k == y)
  rw [Bool.eq_iff_iff]; simp; exact eq_comm
theorem inV_bls {k : Bool} {l : List Bool} : inV (.bl k) (l.map V.bl) = l.contains k := by
  unfold inV
  rw [List.any_map, List.contains_eq_any_beq]
  congr 1
  funext y
  show (y == k) = (k == y)
  cases y <;> cases k <;> rfl
theorem flat_map {α : Type} {f : α → V} (h : ∀ x, flatV (f x) = true) (l : List α) : (l.map f).all flatV = true := by
  rw [List.all_map]
  exact List.all_eq_true.mpr fun x _ => h x
theorem tif_by {tt : TE} {σ : L2.St} {H : Hp} {Q : VK} (R : V → Hp → Prop) (h : ∀ Q' : VK, (∀ v H', R v H' → Q' v H') → tt σ H Q') (rest : ∀ v H', R v H' → Q v H') : tt σ H Q := h Q rest
theorem bl_eq (a b : Bool) : decide (V.bl a = V.bl b) = decide (a = b) := by cases a <;> cases b <;> rfl
end G
namespace G
open PySem PySem.Spec PyProof.Rows L2 Evl
/-! ## two lists side by side -/
def All2 {α β : Type} (R : α → β → Prop) (as : List α) (bs : List β) : Prop := as.length = bs.length ∧ ∀ (i : Nat) (a : α) (b : β), as[i]? = some a → bs[i]? = some b → R a b
theorem All2.nil {α β : Type} {R : α → β → Prop} : All2 R [] [] := ⟨rfl, fun _ _ _ h => nomatch h⟩
theorem All2.imp {α β : Type} {R S : α → β → Prop} {as : List α} {bs : List β} (h : All2 R as bs) (f : ∀ a b, R a b → S a b) : All2 S as bs := ⟨h.1, fun i a b h1 h2 => f _ _ (h.2 i a b h1 h2)⟩
theorem All2.snoc {α β : Type} {R : α → β → Prop} {as : List α} {bs : List β} {a : α} {b : β} (h : All2 R as bs) (r : R a b) : All2 R (as ++ [a]) (bs ++ [b]) := by
  refine ⟨by rw [List.length_append, List.length_append, h.1]; rfl, fun i x y h1 h2 => ?_⟩
  by_cases hi : i < as.length
  · rw [List.getElem?_append_left hi] at h1
    rw [List.getElem?_append_left (h.1 ▸ hi)] at h2
    exact h.2 i x y h1 h2
  · rw [List.getElem?_append_right (by omega)] at h1
    rw [List.getElem?_append_right (by rw [← h.1]; omega), ← h.1] at h2
    cases e : i - as.length with
    | zero =>
      rw [e] at h1 h2
      cases h1; cases h2; exact r
    | succ n => rw [e] at h1; exact nomatch h1
theorem All2.at_ {α β : Type} {R : α → β → Prop} {as : List α} {bs : List β} (h : All2 R as bs) {i : Nat} {a : α} (e : as[i]? = some a) : ∃ b, bs[i]? = some b ∧ R a b := by
  have hi : i < bs.length := by rw [← h.1]; exact (List.getElem?_eq_some_iff.mp e).1
  exact ⟨bs[i], List.getElem?_eq_getElem hi, h.2 i a _ e (List.getElem?_eq_getElem hi)⟩
theorem All2.of {α β : Type} {R : α → β → Prop} {as : List α} {bs : List β} (h : All2 R as bs) {i : Nat} {b : β} (e : bs[i]? = some b) : ∃ a, as[i]? = some a ∧ R a b := by
  have hi : i < as.length := by rw [h.1]; exact (List.getElem?_eq_some_iff.mp e).1
  exact ⟨as[i], List.getElem?_eq_getElem hi, h.2 i _ b (List.getElem?_eq_getElem hi) e⟩
theorem All2.cons {α β : Type} {R : α → β → Prop} {as : List α} {bs : List β} {a : α} {b : β} (r : R a b) (h : All2 R as bs) : All2 R (a :: as) (b :: bs) := by
  refine ⟨by rw [List.length_cons, List.length_cons, h.1], fun i x y h1 h2 => ?_⟩
  cases i with
  | zero => cases h1; cases h2; exact r
  | succ i => exact h.2 i x y h1 h2
theorem take_snoc1 {α : Type} {l : List α} {j : Nat} {x : α} (h : l[j]? = some x) : l.take (j + 1) = l.take j ++ [x] := by rw [List.take_add_one, h]; rfl
theorem refs_get {as : List Addr} {k : Nat} {x : V} (hx : (as.map V.ref)[k]? = some x) : ∃ a, as[k]? = some a ∧ x = .ref a := by
  rw [List.getElem?_map] at hx
  cases e : as[k]? with
  | none => rw [e] at hx; cases hx
  | some a => rw [e] at hx; cases hx; exact ⟨a, rfl, rfl⟩
/-! ## walks: any body -/
theorem wk_list {K : PySem.W.Frag} {a : Addr} {xs : List V} {body : (Hp → Prop) → V → Hp → Prop} {H0 : Hp} {Qd : Hp → Prop} (Pv : Nat → Hp → Prop) (h0 : Pv 0 H0) (hl : ∀ i H, i ≤ xs.length → Pv i H → SqL K H a xs)
    (hs : ∀ i x H, xs[i]? = some x → Pv i H → body (Pv (i + 1)) x H) (hd : ∀ H, Pv xs.length H → Qd H) :
    ∃ W : Nat → Nat → Hp → Prop, (∃ m, W 0 m H0) ∧ ∀ i m H, W i m H → ((Itl K a).stop i H ∧ Qd H) ∨ ((Itl K a).go i H ∧ ∃ Nx : Hp → Prop, (∀ H', Nx H' → ∃ m', m' < m ∧ W (i + 1) m' H') ∧ ∀ x H', (Itl K a).yld i H x H' → body Nx x H') := by
  refine ⟨fun i m H => m = xs.length - i ∧ i ≤ xs.length ∧ Pv i H, ⟨xs.length, by simp, Nat.zero_le _, h0⟩, ?_⟩
  rintro i m H ⟨rfl, hi, p⟩
  have q := hl i H hi p
  rcases Nat.lt_or_ge i xs.length with lt | ge
  · have e : xs[i]? = some xs[i] := List.getElem?_eq_getElem lt
    refine .inr ⟨⟨xs, xs[i], q, e⟩, Pv (i + 1), fun H' p' => ⟨xs.length - (i + 1), by omega, rfl, lt, p'⟩, fun x H' y => ?_⟩
    obtain ⟨rfl, y⟩ := y
    exact hs i x _ (y xs q) p
  · have e : i = xs.length := by omega
    subst e
    exact .inl ⟨⟨xs, q, Nat.le_refl _⟩, hd H p⟩
theorem wk_tup {K : PySem.W.Frag} {a : Addr} {xs : List V} {body : (Hp → Prop) → V → Hp → Prop} {H0 : Hp} {Qd : Hp → Prop} (Pv : Nat → Hp → Prop) (h0 : Pv 0 H0) (hl : ∀ i H, i ≤ xs.length → Pv i H → SqT K H a xs)
    (hs : ∀ i x H, xs[i]? = some x → Pv i H → body (Pv (i + 1)) x H) (hd : ∀ H, Pv xs.length H → Qd H) :
    ∃ W : Nat → Nat → Hp → Prop, (∃ m, W 0 m H0) ∧ ∀ i m H, W i m H → ((Itt K a).stop i H ∧ Qd H) ∨ ((Itt K a).go i H ∧ ∃ Nx : Hp → Prop, (∀ H', Nx H' → ∃ m', m' < m ∧ W (i + 1) m' H') ∧ ∀ x H', (Itt K a).yld i H x H' → body Nx x H') := by
  refine ⟨fun i m H => m = xs.length - i ∧ i ≤ xs.length ∧ Pv i H, ⟨xs.length, by simp, Nat.zero_le _, h0⟩, ?_⟩
  rintro i m H ⟨rfl, hi, p⟩
  have q := hl i H hi p
  rcases Nat.lt_or_ge i xs.length with lt | ge
  · have e : xs[i]? = some xs[i] := List.getElem?_eq_getElem lt
    refine .inr ⟨⟨xs, xs[i], q, e⟩, Pv (i + 1), fun H' p' => ⟨xs.length - (i + 1), by omega, rfl, lt, p'⟩, fun x H' y => ?_⟩
    obtain ⟨rfl, y⟩ := y
    exact hs i x _ (y xs q) p
  · have e : i = xs.length := by omega
    subst e
    exact .inl ⟨⟨xs, q, Nat.le_refl _⟩, hd H p⟩
theorem wk_it {J : It} {n : Nat} {Gd : Hp → Prop} {Y : Nat → Hp → V → Hp → Prop} (w : Walk J n Gd Y) {body : (Hp → Prop) → V → Hp → Prop} {H0 : Hp} {Qd : Hp → Prop} (Pv : Nat → Hp → Prop) (h0 : Pv 0 H0) (hG : ∀ i H, i ≤ n → Pv i H → Gd H)
    (hs : ∀ i x H H', i < n → Pv i H → Y i H x H' → body (Pv (i + 1)) x H') (hd : ∀ H, Pv n H → Qd H) :
    ∃ W : Nat → Nat → Hp → Prop, (∃ m, W 0 m H0) ∧ ∀ i m H, W i m H → (J.stop i H ∧ Qd H) ∨ (J.go i H ∧ ∃ Nx : Hp → Prop, (∀ H', Nx H' → ∃ m', m' < m ∧ W (i + 1) m' H') ∧ ∀ x H', J.yld i H x H' → body Nx x H') := by
  refine ⟨fun i m H => m = n - i ∧ i ≤ n ∧ Pv i H, ⟨n, by simp, Nat.zero_le _, h0⟩, ?_⟩
  rintro i m H ⟨rfl, hi, p⟩
  rcases Nat.lt_or_ge i n with lt | ge
  · exact .inr ⟨w.goes i H lt (hG i H hi p), Pv (i + 1), fun H' p' => ⟨n - (i + 1), by omega, rfl, lt, p'⟩, fun x H' y => hs i x H H' lt p (w.yields i H x H' lt (hG i H hi p) y)⟩
  · have e : i = n := by omega
    subst e
    exact .inl ⟨w.stops H (hG i H hi p), hd H p⟩
/-! ## tuples joined and cut, whatever object that is -/
theorem cat_tup {K : PySem.W.Frag} {H : Hp} {a b : Addr} {xs ys : List V} {Q : VK} (ha : H a = some (.tup xs)) (hb : H b = some (.tup ys)) (hl : xs.length + ys.length ≤ sizeLine) (q : ∀ c H', Ex H H' → H' c = some (.tup (xs ++ ys)) → Q (.ref c) H') : rCatA K (.ref a) (.ref b) H Q := by
  refine ⟨a, b, xs, ys, rfl, rfl, SqT.of ha, SqT.of hb, hl, fun e => ?_, fun _ e => ?_, fun _ _ p np => ?_⟩
  · subst e; exact q b H (Ex.refl _) hb
  · subst e; exact q a H (Ex.refl _) (by rw [List.append_nil]; exact ha)
  · exact q p _ (Ex.new np) upd_same
theorem cut_tup {K : PySem.W.Frag} {H : Hp} {a : Addr} {xs : List V} {lo hi : Option Int} {Q : VK} (ha : H a = some (.tup xs)) (q : ∀ c H', Ex H H' → H' c = some (.tup (cutV xs lo hi)) → Q (.ref c) H') : rSlA K (.ref a) lo hi H Q := by
  refine ⟨a, xs, rfl, SqT.of ha, fun e => ?_, fun _ p np => q p _ (Ex.new np) upd_same⟩
  refine q a H (Ex.refl _) ?_
  rw [ha]
  unfold cutV
  rw [e.1, e.2, List.drop_zero, Nat.sub_zero, List.take_length]
theorem cutV_head {xs : List V} {k : Nat} (h : k ≤ xs.length) : cutV xs none (some (k : Int)) = xs.take k := by
  unfold cutV
  rw [HT.sIx_none, HT.sIx_nat, List.drop_zero, Nat.sub_zero, Nat.min_eq_left h]
theorem cutV_tail {xs : List V} {k : Nat} (h : k ≤ xs.length) : cutV xs (some (k : Int)) none = xs.drop k := by
  unfold cutV
  rw [HT.sIx_none, HT.sIx_nat, Nat.min_eq_left h, List.take_of_length_le]
  rw [List.length_drop]; exact Nat.le_refl _
end G
/-! ## texts -/
namespace G
open PySem PySem.Spec PyProof.Rows L2 Evl TL
open PySem.StrLaws (At occBody occ_eq occ_first)
open PySem.Builtin.Str (occurrences)
/-- the text of these signs -/
def mk (l : List Nat) : Str := ⟨l.toArray⟩
theorem tl_mkS (l : List Nat) : tl (mk l) = l := rfl
theorem mk_tlS (x : Str) : mk (tl x) = x := mk_tl x
theorem mk_inj {a b : List Nat} : mk a = mk b ↔ a = b := ⟨fun h => by have := congrArg tl h; exact this, fun h => by rw [h]⟩
theorem mk_app (a b : List Nat) : mk a ++ mk b = mk (a ++ b) := ext_tl (by rw [tl_append, tl_mkS, tl_mkS, tl_mkS])
theorem mk_len (a : List Nat) : (mk a).length = a.length := by rw [len_tl, tl_mkS]
theorem mk_one (c : Nat) : (⟨#[c]⟩ : Str) = mk [c] := rfl
theorem decV_str (a b : Str) : decide (V.str a = V.str b) = decide (a = b) := by
  by_cases h : a = b
  · rw [h, decide_eq_true rfl, decide_eq_true rfl]
  · rw [decide_eq_false h, decide_eq_false fun q => h (V.str.inj q)]
theorem decV_mk (a b : List Nat) : decide (V.str (mk a) = V.str (mk b)) = decide (a = b) := by
  rw [decV_str]
  by_cases h : a = b
  · rw [h, decide_eq_true rfl, decide_eq_true rfl]
  · rw [decide_eq_false h, decide_eq_false fun q => h (mk_inj.mp q)]
theorem occ_from (x y : Str) (lo : Nat) : (occurrences x y lo x.length 1 = [] ∧ ∀ k, lo ≤ k → ¬ At x y x.length k) ∨ ∃ k r, occurrences x y lo x.length 1 = k :: r ∧ lo ≤ k ∧ At x y x.length k ∧ ∀ j, lo ≤ j → j < k → ¬ At x y x.length j := by
  rw [occ_eq]
  have hmem : ∀ k, At x y x.length k → lo ≤ k → k ∈ List.range' lo (x.length + 1 - lo) := fun k hk hl => by
    have := hk.1
    simp [List.mem_range'_1]; omega
  rcases occ_first x y x.length 1 (by decide) (List.range' lo (x.length + 1 - lo)) lo (fun i hi => by simp [List.mem_range'_1] at hi; omega) with ⟨h0, hn⟩ | ⟨pr, a, post, e, h0, ha, hn⟩
  · exact .inl ⟨by rw [h0], fun k hl hk => hn k (hmem k hk hl) hk⟩
  · have hal : lo ≤ a := by
      have : a ∈ List.range' lo (x.length + 1 - lo) := by rw [e]; simp
      simp [List.mem_range'_1] at this; omega
    refine .inr ⟨a, ((forIn (List.range' lo (x.length + 1 - lo)) ((#[] : Array Nat), lo) (occBody x y x.length 1)).run.fst.toList).tail, ?_, hal, ha, fun j hl hj hA => ?_⟩
    · generalize (forIn (List.range' lo (x.length + 1 - lo)) ((#[] : Array Nat), lo) (occBody x y x.length 1)).run.fst = arr at h0
      have h1 : arr.toList[0]? = some a := by simpa using h0
      cases hL : arr.toList with
      | nil => rw [hL] at h1; cases h1
      | cons b t => rw [hL] at h1; simp at h1; rw [h1]; rfl
    · have hm := hmem j hA hl
      rw [e] at hm
      have hs : (pr ++ a :: post).Pairwise (· < ·) := by rw [← e]; exact List.pairwise_lt_range'
      rcases List.mem_append.mp hm with z | z
      · exact hn j z hA
      · rcases List.mem_cons.mp z with z | z
        · omega
        · have := (List.pairwise_cons.mp (List.pairwise_append.mp hs).2.1).1 j z
          omega
theorem at_one {x : Str} {c k : Nat} : At x (mk [c]) x.length k ↔ (tl x)[k]? = some c := by
  rw [at_iff (by rw [tl_mkS]; simp), tl_mkS]
  unfold pre
  show (((tl x).drop k).take 1 == [c]) = true ↔ _
  rw [beq_iff_eq]
  have h0 : (tl x)[k]? = ((tl x).drop k)[0]? := by rw [List.getElem?_drop, Nat.add_zero]
  rw [h0]
  cases (tl x).drop k with
  | nil => simp
  | cons d r => simp
theorem find_hit {x : Str} {c i : Nat} {body rest : List Nat} (h : (tl x).drop i = body ++ c :: rest) (hb : c ∉ body) : Txt.find3 x (mk [c]) (i : Int) = ((i + body.length : Nat) : Int) := by
  unfold Txt.find3
  rw [show PySem.fromIndex x.length (i : Int) = i by unfold PySem.fromIndex; rw [if_neg (by omega)]; omega]
  have hat : ∀ j, (tl x)[i + j]? = (body ++ c :: rest)[j]? := fun j => by rw [← h, List.getElem?_drop]
  have hhit : At x (mk [c]) x.length (i + body.length) := at_one.mpr (by rw [hat, List.getElem?_append_right (Nat.le_refl _), Nat.sub_self]; rfl)
  rcases occ_from x (mk [c]) i with ⟨_, hn⟩ | ⟨k, r, e, hl, hA, hn⟩
  · exact absurd hhit (hn _ (by omega))
  · rw [e]
    show ((k : Nat) : Int) = _
    have h1 : ¬ i + body.length < k := fun q => hn _ (by omega) q hhit
    have h2 : ¬ k < i + body.length := fun q => by
      have := at_one.mp hA
      obtain ⟨j, rfl⟩ : ∃ j, k = i + j := ⟨k - i, by omega⟩
      rw [hat, List.getElem?_append_left (by omega)] at this
      exact hb (List.mem_of_getElem? this)
    omega
theorem find_miss {x : Str} {c i : Nat} (h : c ∉ (tl x).drop i) : Txt.find3 x (mk [c]) (i : Int) = -1 := by
  unfold Txt.find3
  rw [show PySem.fromIndex x.length (i : Int) = i by unfold PySem.fromIndex; rw [if_neg (by omega)]; omega]
  rcases occ_from x (mk [c]) i with ⟨e, _⟩ | ⟨k, r, e, hl, hA, hn⟩
  · rw [e]
  · have := at_one.mp hA
    obtain ⟨j, rfl⟩ : ∃ j, k = i + j := ⟨k - i, by omega⟩
    rw [← List.getElem?_drop] at this
    exact absurd (List.mem_of_getElem? this) h
theorem starts_at {x y : Str} {i : Nat} (hy : tl y ≠ []) : Txt.startswith3 x y (i : Int) = pre (tl y) ((tl x).drop i) := by
  unfold Txt.startswith3
  rw [show PySem.fromIndex x.length (i : Int) = i by unfold PySem.fromIndex; rw [if_neg (by omega)]; omega]
  have h := at_iff (x := x) hy i
  unfold At at h
  rw [Bool.eq_iff_iff, Bool.and_eq_true, decide_eq_true_iff]
  exact h
theorem pre_iff {S L : List Nat} : pre S L = true ↔ ∃ r, L = S ++ r := by
  unfold pre
  rw [beq_iff_eq]
  constructor
  · intro h; exact ⟨L.drop S.length, by conv => lhs; rw [← List.take_append_drop S.length L, h]⟩
  · rintro ⟨r, rfl⟩; exact List.take_left' rfl
/-- the signs of x from i to j -/
theorem cut_nat {x : Str} {i j : Nat} (hi : i ≤ j) (hj : j ≤ x.length) : cutS x (some (i : Int)) (some (j : Int)) = mk (((tl x).drop i).take (j - i)) := by
  unfold cutS
  have e1 : HT.sIx x.length 0 (some (i : Int)) = i := by rw [HT.sIx_nat]; omega
  have e2 : HT.sIx x.length x.length (some (j : Int)) = j := by rw [HT.sIx_nat]; omega
  rw [e1, e2]; rfl
section
variable {tt : TT} {te : TE} {vs : List Nat} {σ : L2.St} {H1 : Hp} {D : Addr} {Qd : Hp → Prop} {j : Nat}
theorem lcSm {z : Str} (g : Nat → V) (hn : z.length ≤ 100000) (hw : ∀ x, wipe ((wipe σ vs).set j (some x)) vs = wipe σ vs)
    (he : ∀ (i c : Nat) (H : Hp), (tl z)[i]? = some c → H = upd H1 D (.lst (((tl z).take i).map g)) → Val te ((wipe σ vs).set j (some (.str (mk [c])))) H (g c)) (q : Qd (upd H1 D (.lst ((tl z).map g)))) :
    ∃ W : Nat → Nat → Hp → Prop, (∃ m, W 0 m (upd H1 D (.lst []))) ∧ ∀ i m H, W i m H →
      ((Its z).stop i H ∧ Qd H) ∨ ((Its z).go i H ∧ ∃ Nx : Hp → Prop, (∀ H', Nx H' → ∃ m', m' < m ∧ W (i + 1) m' H') ∧ ∀ x H', (Its z).yld i H x H' → gName j x (wipe σ vs) H' fun σ2 H2 => wipe σ2 vs = wipe σ vs ∧ tYes σ2 H2 fun b H3 =>
        if b = true then te σ2 H3 fun y H4 => ∃ acc, H4 D = some (.lst acc) ∧ acc.length < sizeLine ∧ Nx (upd H4 D (.lst (acc ++ [y]))) else Nx H3) :=
  lc_it walk_str (fun i H => H = upd H1 D (.lst (((tl z).take i).map g))) (by rw [List.take_zero]; rfl) (fun _ _ _ _ => trivial)
    (fun i x H H' hi e y => by
      obtain ⟨rfl, c, hc, rfl⟩ := y
      have hc' : (tl z)[i]? = some c := by rw [← hc]; simp [tl]
      refine ⟨hw _, ?_⟩
      refine iteT (B := H' = upd H1 D (.lst (((tl z).take (i + 1)).map g))) ?_
      refine he i c H' hc' e _ ?_
      subst e
      refine ⟨_, upd_same, sz_lt ?_, ?_⟩
      · rw [List.length_map, List.length_take]; have := (List.getElem?_eq_some_iff.mp hc').1; rw [len_tl] at hn; omega
      · rw [upd_upd, List.take_add_one, hc', List.map_append]; rfl)
    (fun H e => by
      have en : z.cps.size = (tl z).length := by simp [tl]
      rw [e, en, List.take_length]; exact q)
end
end G
namespace G
open PySem PySem.Spec PyProof.Rows L2 Evl TL
/-! ## records: the mathematics -/
/-- the signs of a whole number -/
def intL (i : Int) : List Nat := if i < 0 then 45 :: numL (-i).toNat else numL i.toNat
theorem tl_int (i : Int) : tl (Str.ofString (toString i)) = intL i := by
  unfold intL
  by_cases h : i < 0
  · rw [if_pos h, tl_ofString, toString_neg h, String.toList_append, List.map_append]
    have e : (0 : Int) - i = (((-i).toNat : Nat) : Int) := by omega
    have := tl_num (-i).toNat
    rw [tl_ofString] at this
    rw [e, this]
    rfl
  · rw [if_neg h]
    have := tl_num i.toNat
    rw [show ((i.toNat : Nat) : Int) = i by omega] at this
    exact this
theorem str_int (i : Int) : Str.ofString (toString i) = mk (intL i) := ext_tl (by rw [tl_int, tl_mkS])
theorem intL_nat (n : Nat) : intL (n : Int) = numL n := by
  unfold intL
  rw [if_neg (by omega), Int.toNat_natCast]
theorem intL_free {i : Int} {s : Nat} (h : s < 45 ∨ 57 < s) : s ∉ intL i := fun hm => by
  unfold intL at hm
  by_cases z : i < 0
  · rw [if_pos z] at hm
    rcases List.mem_cons.mp hm with e | e
    · omega
    · exact numL_free (by omega) e
  · rw [if_neg z] at hm
    exact numL_free (by omega) hm
/-- few digits -/
def Few (i : Int) : Prop := i.natAbs < 10 ^ 60
theorem few_len {i : Int} (h : Few i) : (intL i).length ≤ 61 := by
  unfold intL Few at *
  by_cases z : i < 0
  · rw [if_pos z]
    have := numL_len (n := (-i).toNat) (k := 60) (by decide) (by rw [show (-i).toNat = i.natAbs by omega]; exact h)
    show _ + 1 ≤ 61
    omega
  · rw [if_neg z]
    have := numL_len (n := i.toNat) (k := 60) (by decide) (by rw [show i.toNat = i.natAbs by omega]; exact h)
    omega
theorem few_digits {i : Int} (h : Few i) : (numL i.natAbs).length ≤ 60 := numL_len (by decide) h
theorem int_back {i : Int} (h : Few i) : PySem.intText? (mk (intL i)) = some i := by
  have hd := few_digits h
  unfold intL
  by_cases z : i < 0
  · rw [if_pos z]
    have e : (-i).toNat = i.natAbs := by omega
    rw [e]
    have := PySem.intText_neg (x := mk (45 :: numL i.natAbs)) (cs := numL i.natAbs) rfl (numL_digits _) (numL_ne _) (by rw [mk_len]; show _ + 1 ≤ _; omega)
    rw [this, numL_val]
    congr 1
    omega
  · rw [if_neg z]
    have e : i.toNat = i.natAbs := by omega
    rw [e]
    have := PySem.intText_digits (x := mk (numL i.natAbs)) (numL_digits _) (numL_ne _) (by rw [mk_len]; omega)
    rw [this]
    show some ((NumText.digitsVal (numL i.natAbs) : Nat) : Int) = _
    rw [numL_val]
    congr 1
    omega
theorem dig_in {n : Nat} : ∀ c ∈ numL n, c ∈ tl ("0123456789" : Str) := fun c hc => by
  have h := numL_digits n c hc
  have all : ∀ d : Fin 10, 48 + d.val ∈ tl ("0123456789" : Str) := by decide +kernel
  have := all ⟨c - 48, by omega⟩
  rw [show 48 + (c - 48) = c by omega] at this
  exact this
theorem nodash {i : Int} : tl (Txt.removeprefix (mk (intL i)) (mk [45])) = numL i.natAbs := by
  rw [PySem.StrLaws.removeprefix_eq, PySem.StrLaws.subAt_eq]
  show tl (if (decide (0 + (mk [45]).length ≤ (mk (intL i)).length) && (((tl (mk (intL i))).drop 0).take (mk [45]).length == tl (mk [45]))) = true then _ else _) = _
  rw [tl_mkS, tl_mkS, mk_len, mk_len, List.drop_zero]
  unfold intL
  by_cases z : i < 0
  · rw [if_pos z]
    have e : (-i).toNat = i.natAbs := by omega
    rw [e, if_pos (by simp)]
    show ((tl (mk (45 :: numL i.natAbs))).drop 1).take ((45 :: numL i.natAbs).length - 1) = _
    rw [tl_mkS, List.drop_succ_cons, List.drop_zero, List.length_cons, Nat.add_sub_cancel, List.take_length]
  · rw [if_neg z]
    have e : i.toNat = i.natAbs := by omega
    rw [e]
    have hne := numL_ne i.natAbs
    have hd := numL_digits i.natAbs
    generalize numL i.natAbs = l at *
    cases l with
    | nil => exact absurd rfl hne
    | cons c l =>
      have hc := hd c List.mem_cons_self
      have hx : c ≠ 45 := by have := hc.1; omega
      rw [if_neg]
      · rfl
      · intro q
        rw [Bool.and_eq_true] at q
        have q := q.2
        rw [beq_iff_eq] at q
        have q : [c] = [45] := q
        exact hx (List.head_eq_of_cons_eq q)
/-! ### runs of equal bits -/
def addB (fs : List (Nat × Bool)) (b : Bool) : List (Nat × Bool) :=
  match fs.getLast? with
  | some (n, c) => if c = b then fs.dropLast ++ [(n + 1, b)] else fs ++ [(1, b)]
  | none => [(1, b)]
def runsB (l : List Bool) : List (Nat × Bool) := l.foldl addB []
theorem addB_nil (b : Bool) : addB [] b = [(1, b)] := rfl
theorem addB_same {fs : List (Nat × Bool)} {n : Nat} {b : Bool} : addB (fs ++ [(n, b)]) b = fs ++ [(n + 1, b)] := by
  unfold addB
  rw [List.getLast?_concat]
  show (if b = b then _ else _) = _
  rw [if_pos rfl, List.dropLast_concat]
theorem addB_new {fs : List (Nat × Bool)} {n : Nat} {c b : Bool} (h : c ≠ b) : addB (fs ++ [(n, c)]) b = fs ++ [(n, c)] ++ [(1, b)] := by
  unfold addB
  rw [List.getLast?_concat]
  show (if c = b then _ else _) = _
  rw [if_neg h]
theorem snoc_cases {α : Type} (l : List α) : l = [] ∨ ∃ k x, l = k ++ [x] := by
  rcases List.eq_nil_or_concat l with e | ⟨k, x, e⟩
  · exact .inl e
  · exact .inr ⟨k, x, by rw [e, List.concat_eq_append]⟩
theorem runsB_snoc (l : List Bool) (b : Bool) : runsB (l ++ [b]) = addB (runsB l) b := by
  unfold runsB; rw [List.foldl_append]; rfl
def expB (fs : List (Nat × Bool)) : List Bool := (fs.map fun p => List.replicate p.1 p.2).flatten
theorem expB_snoc (fs : List (Nat × Bool)) (p : Nat × Bool) : expB (fs ++ [p]) = expB fs ++ List.replicate p.1 p.2 := by
  unfold expB; rw [List.map_append, List.flatten_append]; simp
/-- runs that stand apart -/
def Apart : List (Nat × Bool) → Prop
  | [] => True
  | [p] => 1 ≤ p.1
  | p :: q :: r => 1 ≤ p.1 ∧ p.2 ≠ q.2 ∧ Apart (q :: r)
theorem apart_snoc : ∀ {fs : List (Nat × Bool)} {n : Nat} {c : Bool} {p : Nat × Bool}, Apart (fs ++ [(n, c)]) → c ≠ p.2 → 1 ≤ p.1 → Apart (fs ++ [(n, c)] ++ [p])
  | [], n, c, p, h, hc, hp => ⟨h, hc, hp⟩
  | [q], n, c, p, h, hc, hp => ⟨h.1, h.2.1, h.2.2, hc, hp⟩
  | q :: r :: fs, n, c, p, h, hc, hp => ⟨h.1, h.2.1, apart_snoc (fs := r :: fs) h.2.2 hc hp⟩
theorem apart_more : ∀ {fs : List (Nat × Bool)} {n : Nat} {c : Bool}, Apart (fs ++ [(n, c)]) → Apart (fs ++ [(n + 1, c)])
  | [], n, c, h => Nat.le_succ_of_le h
  | [q], n, c, h => ⟨h.1, h.2.1, Nat.le_succ_of_le h.2.2⟩
  | q :: r :: fs, n, c, h => ⟨h.1, h.2.1, apart_more (fs := r :: fs) h.2.2⟩
theorem apart_init : ∀ {fs : List (Nat × Bool)} {p : Nat × Bool}, Apart (fs ++ [p]) → Apart fs
  | [], _, _ => trivial
  | [q], _, h => h.1
  | q :: r :: fs, _, h => ⟨h.1, h.2.1, apart_init (fs := r :: fs) h.2.2⟩
theorem apart_last : ∀ {fs : List (Nat × Bool)} {p q : Nat × Bool}, Apart (fs ++ [p] ++ [q]) → p.2 ≠ q.2 ∧ 1 ≤ q.1
  | [], _, _, h => ⟨h.2.1, h.2.2⟩
  | [_], _, _, h => ⟨h.2.2.2.1, h.2.2.2.2⟩
  | _ :: r :: fs, p, q, h => apart_last (fs := r :: fs) h.2.2
theorem runs_ok : ∀ l : List Bool, ∀ k, k ≤ l.length → expB (runsB (l.take k)) = l.take k ∧ Apart (runsB (l.take k)) := by
  intro l k
  induction k with
  | zero => intro _; rw [List.take_zero]; exact ⟨rfl, trivial⟩
  | succ k ih =>
    intro hk
    obtain ⟨h1, h2⟩ := ih (by omega)
    have hb : l[k]? = some (l[k]'(by omega)) := List.getElem?_eq_getElem (by omega)
    generalize l[k]'(by omega) = b at hb
    have et : l.take (k + 1) = l.take k ++ [b] := by
      rw [List.take_succ, hb]; rfl
    rw [et, runsB_snoc]
    generalize l.take k = m at *
    generalize runsB m = fs at *
    subst h1
    rcases snoc_cases fs with rfl | ⟨gs, ⟨n, c⟩, rfl⟩
    · exact ⟨rfl, Nat.le_refl 1⟩
    · by_cases hc : c = b
      · subst hc
        rw [addB_same, expB_snoc, expB_snoc]
        exact ⟨by rw [List.replicate_succ', List.append_assoc], apart_more h2⟩
      · rw [addB_new hc, expB_snoc]
        exact ⟨rfl, apart_snoc h2 hc (Nat.le_refl 1)⟩
theorem runs_all (l : List Bool) : expB (runsB l) = l ∧ Apart (runsB l) := by
  have := runs_ok l l.length (Nat.le_refl _)
  rw [List.take_length] at this
  exact this
theorem apart_pos : ∀ {fs : List (Nat × Bool)}, Apart fs → ∀ p ∈ fs, 1 ≤ p.1
  | [], _, _, h => nomatch h
  | [q], h, p, hp => by rw [List.mem_singleton.mp hp]; exact h
  | q :: r :: fs, h, p, hp => by
    rcases List.mem_cons.mp hp with e | e
    · rw [e]; exact h.1
    · exact apart_pos (fs := r :: fs) h.2.2 p e
theorem exp_len : ∀ (fs : List (Nat × Bool)), Apart fs → fs.length ≤ (expB fs).length ∧ ∀ p ∈ fs, p.1 ≤ (expB fs).length := by
  intro fs h
  have hp := apart_pos h
  clear h
  induction fs with
  | nil => exact ⟨Nat.zero_le _, fun p h => nomatch h⟩
  | cons q fs ih =>
    obtain ⟨h1, h2⟩ := ih fun p h => hp p (List.mem_cons_of_mem _ h)
    have hq := hp q List.mem_cons_self
    have e : (expB (q :: fs)).length = q.1 + (expB fs).length := by unfold expB; simp
    refine ⟨by rw [e, List.length_cons]; omega, fun p h => ?_⟩
    rw [e]
    rcases List.mem_cons.mp h with z | z
    · rw [z]; omega
    · have := h2 p z; omega
/-! ### the text -/
def bitL (b : Bool) : Nat := if b = true then 49 else 48
def pieceL (p : Nat × Bool) : List Nat := numL p.1 ++ [120, bitL p.2]
def rowL (r : List Nat × List Bool) : List Nat := joinL [32] (r.1 :: (runsB r.2).map pieceL)
def headL (low high : Int) : List Nat := joinL [32] [tl ("from" : Str), intL low, tl ("to" : Str), intL high]
structure RecD where
  low : Int
  size : Nat
  rows : List (List Nat × List Bool)
def RecD.high (r : RecD) : Int := r.low + r.size - 1
def RecD.lines (r : RecD) : List (List Nat) := headL r.low r.high :: r.rows.map rowL
def RecD.text (r : RecD) : List Nat := (r.lines.map (· ++ [10])).flatten
theorem joinL_flat (s : List Nat) : ∀ (x : List Nat) (xs : List (List Nat)), joinL s (x :: xs) = x ++ (xs.map (s ++ ·)).flatten
  | x, [] => by show x = x ++ _; simp
  | x, y :: ys => by
    show x ++ (s ++ joinL s (y :: ys)) = _
    rw [joinL_flat s y ys]; simp
theorem joinL_end (s : List Nat) : ∀ (x : List Nat) (xs : List (List Nat)), ((x :: xs).map (· ++ s)).flatten = joinL s (x :: xs) ++ s
  | x, [] => by show (x ++ s) ++ [] = x ++ s; simp
  | x, y :: ys => by
    show (x ++ s) ++ (((y :: ys).map (· ++ s)).flatten) = (x ++ (s ++ joinL s (y :: ys))) ++ s
    rw [joinL_end s y ys]; simp
end G
namespace G
open PySem PySem.Spec PyProof.Rows L2
def topS (i : Nat) : Stmt := PySem.Challenge.pw_signoff_k88_whole_records_cut_and_glued.main.body.getD i (.Pass ⟨0, 0, 0, 0⟩)
abbrev s_same_meaning : Stmt := topS 5
abbrev s_cut : Stmt := topS 6
abbrev s_glued : Stmt := topS 7
abbrev s_between : Stmt := topS 8
abbrev s_law_pool : Stmt := topS 10
abbrev s_law_spread : Stmt := topS 11
abbrev s_law_draw : Stmt := topS 12
abbrev s_law_same : Stmt := topS 13
abbrev s_law_word : Stmt := topS 14
abbrev s_law_record : Stmt := topS 15
abbrev s_law_part : Stmt := topS 16
abbrev s_law_text : Stmt := topS 17
abbrev s_law_told : Stmt := topS 18
abbrev s_law_cut : Stmt := topS 19
abbrev s_law_agree : Stmt := topS 20
abbrev s_law_changed : Stmt := topS 21
abbrev s_law_parts : Stmt := topS 22
abbrev s_law : Stmt := topS 23
end G
namespace G
open PySem PySem.Spec PyProof.Rows L2 Evl
structure TxtL (mg : Str → Option Value) : Prop where
  int : mg "int" = none
  len : mg "len" = none
  list : mg "list" = none
  range : mg "range" = none
section
variable {P : Program} {w : World} {K : PySem.W.Frag} {mg : Str → Option Value} {base : Heap}
def spSpread : Sp := fun vs H Q _ => ∃ (c : Int), vs = [.int c] ∧ ∀ v : Int, Q (.int v) H
theorem sc_law_spread : FnScope ["cell", "mixed", "total", "k"] ["cell"] (defScope s_law_spread) := ⟨rfl, rfl, rfl, by decide +kernel, rfl, by decide +kernel, by decide +kernel⟩
theorem ok_law_spread (D : Dfd K mg "_law_spread" s_law_spread ["cell"]) (T : TxtL mg) : Has P w K mg base 1 "_law_spread" ["cell"] spSpread := by
  refine D.has fun f fd F => F.ok sc_law_spread (fun vs H Q E h => ?_) (fun cdv A outer s H vs Q E hr h => ?_)
  · obtain ⟨c, rfl, _⟩ := h
    rfl
  · obtain ⟨c, rfl, q⟩ := h
    refine ⟨_, (pss_cons (ps_set (i := 1) sc_law_spread.nd rfl (.inl rfl) (pe_op op_mod (pe_callTy call_int1 (by rfl) T.int (by decide +kernel) (pa_cons (pv 0) pa_nil)) pe_int))
      (pss_cons (ps_set (i := 2) sc_law_spread.nd rfl (.inl rfl) pe_int)
      (pss_cons (ps_for PassesOwn.never rfl (pi_range1 rfl T.range (pa_cons pe_int pa_nil)) (pg_name (i := 3) sc_law_spread.nd rfl (.inl rfl))
        (pss_cons (ps_set (i := 1) sc_law_spread.nd rfl (.inl rfl) (pe_op op_mod (pe_callTy call_int1 (by rfl) T.int (by decide +kernel) (pa_cons (pe_op op_add (pe_op op_add (pe_op op_mul (pv 1) pe_int) pe_int) (pv 3)) pa_nil)) pe_int))
        (pss_one (ps_set (i := 2) sc_law_spread.nd rfl (.inl rfl) (pe_op op_add (pe_op op_mul (pv 2) pe_int) (pv 1))))))
      (pss_one (ps_ret (pv 2)))))), ?_⟩
    refine ⟨_, rfl, .inl ⟨_, rfl, _, _, rfl, rfl, (by show (0 : Int) < 2147483647; decide), 4, rfl, by decide, by decide, for_range (n := 4) (fun _ σ H' => H' = H ∧ ∃ (x y : Int) (z : Option V), σ = [some (.int c), some (.int x), some (.int y), z]) ⟨rfl, _, _, _, rfl⟩ ?_ ?_⟩⟩
    · rintro i σ H' hi ⟨rfl, x, y, z, rfl⟩
      refine ⟨_, rfl, _, _, rfl, rfl, .inr ⟨by decide, by decide⟩, _, _, rfl, rfl, _, rfl, _, _, rfl, rfl, .inl ⟨_, rfl, _, _, rfl, rfl, (by show (0 : Int) < 2147483647; decide), _, rfl, _, _, rfl, rfl, .inr ⟨by decide, by decide⟩, _, rfl, _, _, rfl, rfl, rfl, _, _, _, rfl⟩⟩
    · rintro σ H' ⟨rfl, x, y, z, rfl⟩
      exact ⟨_, rfl, q y⟩
/-- a draw below n -/
def spDraw : Sp := fun vs H Q _ => ∃ (p a : Addr) (n : Int), vs = [.ref p, .int n] ∧ 0 < n ∧ n.natAbs.log2 < 9000 ∧ PoolOk p a H ∧ ∀ (v : Int) (o : HO), 0 ≤ v → v < n → PoolOk p a (upd H p o) → Q (.int v) (upd H p o)
theorem sc_law_draw : FnScope ["pool", "many", "cell", "mixed", "value"] ["pool", "many"] (defScope s_law_draw) := ⟨rfl, rfl, rfl, by decide +kernel, rfl, by decide +kernel, by decide +kernel⟩
theorem ok_law_draw (D : Dfd K mg "_law_draw" s_law_draw ["pool", "many"]) (T : TxtL mg) (C : Has P w K mg base 1 "_law_spread" ["cell"] spSpread) : Has P w K mg base 2 "_law_draw" ["pool", "many"] spDraw := by
  obtain ⟨f_law_spread, d_law_spread, G_law_spread, g_law_spread, k_law_spread, b_law_spread⟩ := C
  refine D.has fun f fd F => F.ok sc_law_draw (fun vs H Q E h => ?_) (fun cdv A outer s H vs Q E hr h => ?_)
  · obtain ⟨p, a, n, rfl, _⟩ := h
    rfl
  · obtain ⟨p, a, n, rfl, n0, n9, hp, q⟩ := h
    refine ⟨_, (pss_cut (ps_if (PW.pt (pw_and (pt_cmpR op_le (pe_ix ix_list (pv 0) pe_int (fun _ _ => rfl)) pe_int (nomark _)) (pw_and1 (pt_cmpR op_lt (pe_ix ix_list (pv 0) pe_int (fun _ _ => rfl)) (pe_callB call_len_seq (by rfl) T.len (by decide +kernel) (pa_cons (pe_ix ix_list (pv 0) pe_int (fun _ _ => rfl)) pa_nil)) (nomark _)))))
      (pss_cons (ps_set (i := 2) sc_law_draw.nd rfl (.inl rfl) (pe_ix ix_list (pe_ix ix_list (pv 0) pe_int (fun _ _ => rfl)) (pe_ix ix_list (pv 0) pe_int (fun _ _ => rfl)) (fun _ _ => rfl)))
      (pss_cons (ps_asg (pe_op op_add (pe_ix ix_list (pv 0) pe_int (fun _ _ => rfl)) pe_int) (pg_sub (pv 0) pe_int set_list))
      (pss_cons (ps_asg (pv 2) (pg_sub (pv 0) pe_int set_list))
      (pss_one (ps_if (pt_cmpR op_lt (pv 2) pe_int (nomark _))
        (pss_one (ps_asg (pe_call G_law_spread hr (by rfl) g_law_spread k_law_spread b_law_spread .nil pass0 (pa_cons (pv 2) pa_nil)) (pg_sub (pv 0) pe_int set_list)))
        pss_nil)))))
      pss_nil)
    (pss_cons (ps_asg (pe_op op_add (pe_ix ix_list (pv 0) pe_int (fun _ _ => rfl)) pe_int) (pg_sub (pv 0) pe_int set_list))
    (pss_cons (ps_if (pt_cmpR op_le (pe_ix ix_list (pv 0) pe_int (fun _ _ => rfl)) pe_int (nomark _))
      (pss_cons (ps_set (i := 3) sc_law_draw.nd rfl (.inl rfl) (pe_op op_mod (pe_callTy call_int1 (by rfl) T.int (by decide +kernel) (pa_cons (pe_op op_add (pe_op op_add (pe_op op_mul (pe_ix ix_list (pv 0) pe_int (fun _ _ => rfl)) pe_int) (pe_op op_mul (pe_ix ix_list (pv 0) pe_int (fun _ _ => rfl)) pe_int)) pe_int) pa_nil)) pe_int))
      (pss_cons (ps_set (i := 3) sc_law_draw.nd rfl (.inl rfl) (pe_op op_mod (pe_callTy call_int1 (by rfl) T.int (by decide +kernel) (pa_cons (pe_op op_add (pe_op op_mul (pv 3) pe_int) (pe_ix ix_list (pv 0) pe_int (fun _ _ => rfl))) pa_nil)) pe_int))
      (pss_one (ps_ret (pe_op op_mod (pe_op op_fdiv (pv 3) pe_int) (pv 1))))))
      pss_nil)
    (pss_cons (ps_set (i := 4) sc_law_draw.nd rfl (.inl rfl) (pe_op op_mod (pe_callTy call_int1 (by rfl) T.int (by decide +kernel) (pa_cons (pe_ix ix_list (pv 0) pe_int (fun _ _ => rfl)) pa_nil)) (pv 1)))
    (pss_cons (ps_asg (pe_op op_fdivW (pe_ix ix_list (pv 0) pe_int (fun _ _ => rfl)) (pv 1)) (pg_sub (pv 0) pe_int set_list))
    (pss_one (ps_ret (pv 4)))))))), ?_⟩
    obtain ⟨ns, i, c, k, s5, hl, ha, hn⟩ := hp
    have hap : a ≠ p := hid_neq ha
    have haH := hid_get ha
    -- the pool as it stands after writes
    have pk : ∀ (i' : Nat) (c' k' s' : Int), PoolOk p a (upd H p (.lst [.ref a, .int i', .int c', .int k', .int s'])) := fun i' c' k' s' =>
      ⟨ns, i', c', k', s', upd_same, by rw [hid_upd]; exact ha, hn⟩
    refine ⟨fun σ H' => ∃ (i' : Nat) (c' k' s' : Int) (o1 : Option V), σ = [some (.ref p), some (.int n), o1, none, none] ∧ H' p = some (.lst [.ref a, .int i', .int c', .int k', .int s']) ∧ (∀ o, upd H' p o = upd H p o), ?_, ?_⟩
    · refine ⟨_, rfl, _, _, _, _, rfl, rfl, SqL.of hl, atI_nat (j := 2) rfl, _, _, rfl, rfl, _, rfl, ite2 (fun e1 => ?_) (fun e1 => ?_)⟩
      · refine ⟨_, rfl, _, _, _, _, rfl, rfl, SqL.of hl, atI_nat (j := 1) rfl, _, rfl, _, _, _, _, rfl, rfl, SqL.of hl, atI_nat (j := 0) rfl, _, _, rfl, .inl (SqL.of haH), _, _, rfl, rfl, _, rfl, ite2 (fun e2 => ?_) (fun e2 => ?_)⟩
        · have hi : i < (ns.map V.int).length := by have := of_decide_eq_true e2; omega
          have hi' : i < ns.length := by rw [List.length_map] at hi; exact hi
          have gi : (ns.map V.int)[i]? = some (.int ns[i]) := by rw [List.getElem?_map, List.getElem?_eq_getElem hi']; rfl
          refine ⟨_, rfl, _, _, _, _, rfl, rfl, SqL.of hl, atI_nat (j := 0) rfl, _, rfl, _, _, _, _, rfl, rfl, SqL.of hl, atI_nat (j := 1) rfl, _, _, _, _, rfl, rfl, SqL.of haH, atI_nat gi, ?_⟩
          refine ⟨_, rfl, _, _, _, _, rfl, rfl, SqL.of hl, atI_nat (j := 1) rfl, _, _, rfl, rfl, _, rfl, _, _, _, 1, rfl, rfl, hl, rfl, ?_⟩
          refine ⟨_, rfl, _, rfl, _, _, _, 2, rfl, rfl, upd_same, rfl, ?_⟩
          refine ⟨_, rfl, _, _, rfl, rfl, _, rfl, ite2 (fun e3 => ?_) (fun e3 => ?_)⟩
          · refine ⟨_, rfl, _, rfl, fun v => ⟨_, rfl, _, _, _, 2, rfl, rfl, upd_same, rfl, ?_⟩⟩
            exact ⟨i + 1, v, k, s5, _, rfl, upd_same, fun o => by rw [upd_upd, upd_upd, upd_upd]⟩
          · exact ⟨i + 1, ns[i], k, s5, _, rfl, upd_same, fun o => by rw [upd_upd, upd_upd]⟩
        · exact ⟨i, c, k, s5, _, rfl, hl, fun _ => rfl⟩
      · exact iteF ⟨i, c, k, s5, _, rfl, hl, fun _ => rfl⟩
    · rintro σ H' ⟨i, c, k, s5, o1, rfl, hl', hu⟩
      refine ⟨_, rfl, _, _, _, _, rfl, rfl, SqL.of hl', atI_nat (j := 3) rfl, _, _, rfl, rfl, _, rfl, _, _, _, 3, rfl, rfl, hl', rfl, ?_⟩
      refine ⟨_, rfl, _, _, _, _, rfl, rfl, SqL.of upd_same, atI_nat (j := 2) rfl, _, _, rfl, rfl, _, rfl, ite2 (fun e1 => ?_) (fun e1 => ?_)⟩
      · refine ⟨_, rfl, _, _, _, _, rfl, rfl, SqL.of upd_same, atI_nat (j := 4) rfl, _, _, rfl, rfl, .inr ⟨by decide, by decide⟩, _, rfl, _, _, _, _, rfl, rfl, SqL.of upd_same, atI_nat (j := 3) rfl, _, _, rfl, rfl, .inr ⟨by decide, by decide⟩, _, _, rfl, rfl, _, _, rfl, rfl, .inl ⟨_, rfl, _, _, rfl, rfl, (by show (0 : Int) < 2147483647; decide), ?_⟩⟩
        refine ⟨_, rfl, _, _, rfl, rfl, .inr ⟨by decide, by decide⟩, _, rfl, _, _, _, _, rfl, rfl, SqL.of upd_same, atI_nat (j := 3) rfl, _, _, rfl, rfl, .inl ⟨_, rfl, _, _, rfl, rfl, (by show (0 : Int) < 2147483629; decide), ?_⟩⟩
        refine ⟨_, rfl, _, _, rfl, rfl, ⟨by decide, by decide⟩, _, rfl, _, _, rfl, rfl, n0, ?_⟩
        show Q _ _
        rw [hu]
        exact q _ _ (Int.emod_nonneg _ (by omega)) (Int.emod_lt_of_pos _ n0) (pk i c (k + 1) s5)
      · refine ⟨_, rfl, _, _, _, _, rfl, rfl, SqL.of upd_same, atI_nat (j := 2) rfl, .inl ⟨_, rfl, _, rfl, _, _, rfl, rfl, n0, ?_⟩⟩
        refine ⟨_, rfl, _, _, _, _, rfl, rfl, SqL.of upd_same, atI_nat (j := 2) rfl, _, rfl, _, _, rfl, rfl, ⟨n0, n9⟩, _, rfl, _, _, _, 2, rfl, rfl, upd_same, rfl, _, rfl, ?_⟩
        show Q _ _
        rw [upd_upd, hu]
        exact q _ _ (Int.emod_nonneg _ (by omega)) (Int.emod_lt_of_pos _ n0) (pk i (c / n) (k + 1) s5)
/-- the same, the heap behind it a letter -/
def spDrawX : Sp := fun vs H Q _ => ∃ (p a : Addr) (n : Int), vs = [.ref p, .int n] ∧ 0 < n ∧ n ≤ 2 ^ 70 ∧ PoolOk p a H ∧ ∀ (v : Nat) (H' : Hp), (v : Int) < n → Px p a H H' → (∀ b, b ≠ p → H' b = H b) → Q (.int v) H'
theorem log2_small {n : Int} (h0 : 0 < n) (h : n ≤ 2 ^ 70) : n.natAbs.log2 < 9000 := by
  have h1 : n.natAbs < 2 ^ 71 := by omega
  have := PySem.Flt.log2_lt_of (by decide : 0 < 71) h1
  omega
theorem drawX (C : Has P w K mg base 2 "_law_draw" ["pool", "many"] spDraw) : Has P w K mg base 2 "_law_draw" ["pool", "many"] spDrawX :=
  C.imp fun vs H Q E h => by
    obtain ⟨p, a, n, rfl, h0, h1, hp, q⟩ := h
    refine ⟨p, a, n, rfl, h0, log2_small h0 h1, hp, fun v o v0 v1 hq => ?_⟩
    have e : v = ((v.toNat : Nat) : Int) := by omega
    rw [e]
    exact q v.toNat _ (by omega) (Px.draw hp hq) fun b hb => upd_ne hb
end
end G
namespace G
open PySem PySem.Spec PyProof.Rows L2 Evl
/-! ## data -/
inductive D where
  | non | bl (b : Bool) | int (i : Int) | str (s : Str) | tup (l : List D) | lst (l : List D)
def okD : Nat → D → Prop
  | 0, .tup _ => False
  | 0, .lst _ => False
  | n + 1, .tup l => l.length < 2 ^ 61 ∧ ∀ d ∈ l, okD n d
  | n + 1, .lst l => l.length < 2 ^ 61 ∧ ∀ d ∈ l, okD n d
  | _, _ => True
inductive Rep (H : Hp) : V → D → Prop where
  | non : Rep H .non .non
  | bl (b : Bool) : Rep H (.bl b) (.bl b)
  | int (i : Int) : Rep H (.int i) (.int i)
  | str (s : Str) : Rep H (.str s) (.str s)
  | tup {a : Addr} {xs : List V} {ds : List D} (h : H a = some (.tup xs)) (hl : xs.length = ds.length) (hr : ∀ (i : Nat) (x : V) (d : D), xs[i]? = some x → ds[i]? = some d → Rep H x d) : Rep H (.ref a) (.tup ds)
  | lst {a : Addr} {xs : List V} {ds : List D} (h : H a = some (.lst xs)) (hl : xs.length = ds.length) (hr : ∀ (i : Nat) (x : V) (d : D), xs[i]? = some x → ds[i]? = some d → Rep H x d) : Rep H (.ref a) (.lst ds)
theorem Rep.ex {H H' : Hp} (e : Ex H H') {x : V} {d : D} (r : Rep H x d) : Rep H' x d := by
  induction r with
  | non => exact .non
  | bl b => exact .bl b
  | int i => exact .int i
  | str s => exact .str s
  | tup h hl _ ih => exact .tup (e _ _ h) hl ih
  | lst h hl _ ih => exact .lst (e _ _ h) hl ih
theorem okD.mono : ∀ {n m : Nat} {d : D}, n ≤ m → okD n d → okD m d
  | 0, 0, d, _, h => h
  | 0, m + 1, .non, _, _ => trivial
  | 0, m + 1, .bl _, _, _ => trivial
  | 0, m + 1, .int _, _, _ => trivial
  | 0, m + 1, .str _, _, _ => trivial
  | 0, m + 1, .tup _, _, h => h.elim
  | 0, m + 1, .lst _, _, h => h.elim
  | n + 1, m + 1, .non, _, _ => trivial
  | n + 1, m + 1, .bl _, _, _ => trivial
  | n + 1, m + 1, .int _, _, _ => trivial
  | n + 1, m + 1, .str _, _, _ => trivial
  | n + 1, m + 1, .tup l, le, h => ⟨h.1, fun d hd => okD.mono (Nat.le_of_succ_le_succ le) (h.2 d hd)⟩
  | n + 1, m + 1, .lst l, le, h => ⟨h.1, fun d hd => okD.mono (Nat.le_of_succ_le_succ le) (h.2 d hd)⟩
structure TxtS (mg : Str → Option Value) : Prop where
  isinstance : mg "isinstance" = none
  tuple : mg "tuple" = none
  list : mg "list" = none
  len : mg "len" = none
  range : mg "range" = none
  bool : mg "bool" = none
  int : mg "int" = none
  str : mg "str" = none
section
variable {P : Program} {w : World} {K : PySem.W.Frag} {mg : Str → Option Value} {base : Heap}
/-- equal data: the answer is True -/
def spSame : Nat → Sp
  | 0 => fun _ _ _ _ => False
  | n + 1 => fun vs H Q _ => ∃ (x y : V) (d : D), vs = [x, y] ∧ Rep H x d ∧ Rep H y d ∧ okD n d ∧ Q (.bl true) H
theorem sc_law_same : FnScope ["actual", "due", "k"] ["actual", "due"] (defScope s_law_same) := ⟨rfl, rfl, rfl, by decide +kernel, rfl, by decide +kernel, by decide +kernel⟩
theorem fn_law_same {f : Addr} {fd : FuncData} (F : Fun K "_law_same" "_law_same" s_law_same f fd) (g_law_same : mg "_law_same" = some (.ref f)) (b_law_same : Binds K fd ["actual", "due"] []) (T : TxtS mg) : ∀ n, FnOk P w K mg base CX0 n f fd ["actual", "due"] (spSame n)
  | 0 => ⟨fun _ _ _ _ h => h.elim, fun _ _ _ _ _ _ _ _ _ _ _ _ _ h => h.elim⟩
  | n + 1 => by
    have G_law_same := fn_law_same F g_law_same b_law_same T n
    have k_law_same := F.kp
    refine F.ok sc_law_same (fun vs H Q E h => ?_) (fun cdv A outer s H vs Q E hr h => ?_)
    · obtain ⟨x, y, d, rfl, _⟩ := h
      rfl
    · obtain ⟨x, y, d, rfl, rx, ry, hd, q⟩ := h
      refine ⟨_, (pss_cons (ps_if (PW.pt (pw_or (pt_val (pe_callB call_isi (by rfl) T.isinstance (by decide +kernel) (pa_cons (pv 1) (pa_cons (pe_bltn (v := .ty "tuple") (by rfl) T.tuple (by decide +kernel) rfl) pa_nil)))) (pw_or1 (pt_val (pe_callB call_isi (by rfl) T.isinstance (by decide +kernel) (pa_cons (pv 1) (pa_cons (pe_bltn (v := .ty "list") (by rfl) T.list (by decide +kernel) rfl) pa_nil)))))))
      (pss_cons (ps_if (PW.pt (pw_or (pt_cmpR op_ne (pe_callB call_isi (by rfl) T.isinstance (by decide +kernel) (pa_cons (pv 1) (pa_cons (pe_bltn (v := .ty "tuple") (by rfl) T.tuple (by decide +kernel) rfl) pa_nil))) (pe_callB call_isi (by rfl) T.isinstance (by decide +kernel) (pa_cons (pv 0) (pa_cons (pe_bltn (v := .ty "tuple") (by rfl) T.tuple (by decide +kernel) rfl) pa_nil))) (nomark _)) (pw_or1 (pt_cmpR op_ne (pe_callB call_isi (by rfl) T.isinstance (by decide +kernel) (pa_cons (pv 1) (pa_cons (pe_bltn (v := .ty "list") (by rfl) T.list (by decide +kernel) rfl) pa_nil))) (pe_callB call_isi (by rfl) T.isinstance (by decide +kernel) (pa_cons (pv 0) (pa_cons (pe_bltn (v := .ty "list") (by rfl) T.list (by decide +kernel) rfl) pa_nil))) (nomark _)))))
        (pss_one (ps_ret pe_bl))
        pss_nil)
      (pss_cons (ps_if (pt_cmpR op_ne (pe_callB call_len_seq (by rfl) T.len (by decide +kernel) (pa_cons (pv 0) pa_nil)) (pe_callB call_len_seq (by rfl) T.len (by decide +kernel) (pa_cons (pv 1) pa_nil)) (nomark _))
        (pss_one (ps_ret pe_bl))
        pss_nil)
      (pss_cons (ps_for PassesOwn.never rfl (pi_range1 rfl T.range (pa_cons (pe_callB call_len_seq (by rfl) T.len (by decide +kernel) (pa_cons (pv 1) pa_nil)) pa_nil)) (pg_name (i := 2) sc_law_same.nd rfl (.inl rfl))
        (pss_one (ps_if (pt_not (pt_val (pe_call G_law_same hr (by rfl) g_law_same k_law_same b_law_same .nil pass0 (pa_cons (pe_ix ix_seq (pv 0) (pv 2) (fun _ _ => rfl)) (pa_cons (pe_ix ix_seq (pv 1) (pv 2) (fun _ _ => rfl)) pa_nil)))))
          (pss_one (ps_ret pe_bl))
          pss_nil)))
      (pss_one (ps_ret pe_bl)))))
      pss_nil)
    (pss_cons (ps_if (pt_cmpR op_isN (pv 1) pe_non (nomark _))
      (pss_one (ps_ret (pe_cmpR op_isN (pv 0) pe_non (nomark _))))
      pss_nil)
    (pss_cons (ps_if (pt_val (pe_callB call_isi (by rfl) T.isinstance (by decide +kernel) (pa_cons (pv 1) (pa_cons (pe_bltn (v := .ty "bool") (by rfl) T.bool (by decide +kernel) rfl) pa_nil))))
      (pss_one (ps_ret (pe_and (pe_callB call_isi (by rfl) T.isinstance (by decide +kernel) (pa_cons (pv 0) (pa_cons (pe_bltn (v := .ty "bool") (by rfl) T.bool (by decide +kernel) rfl) pa_nil))) (pe_one (pe_cmpR op_eq (pv 0) (pv 1) (nomark _))))))
      pss_nil)
    (pss_cons (ps_if (pt_val (pe_callB call_isi (by rfl) T.isinstance (by decide +kernel) (pa_cons (pv 1) (pa_cons (pe_bltn (v := .ty "int") (by rfl) T.int (by decide +kernel) rfl) pa_nil))))
      (pss_one (ps_ret (pe_and (pe_callB call_isi (by rfl) T.isinstance (by decide +kernel) (pa_cons (pv 0) (pa_cons (pe_bltn (v := .ty "int") (by rfl) T.int (by decide +kernel) rfl) pa_nil))) (pe_and (pe_not (pe_callB call_isi (by rfl) T.isinstance (by decide +kernel) (pa_cons (pv 0) (pa_cons (pe_bltn (v := .ty "bool") (by rfl) T.bool (by decide +kernel) rfl) pa_nil)))) (pe_one (pe_cmpR op_eq (pv 0) (pv 1) (nomark _)))))))
      pss_nil)
    (pss_one (ps_ret (pe_and (pe_callB call_isi (by rfl) T.isinstance (by decide +kernel) (pa_cons (pv 0) (pa_cons (pe_bltn (v := .ty "str") (by rfl) T.str (by decide +kernel) rfl) pa_nil))) (pe_one (pe_cmpR op_eq (pv 0) (pv 1) (nomark _)))))))))), ?_⟩
      cases rx with
      | non =>
        cases ry
        refine ⟨_, rfl, _, _, _, _, _, rfl, .ty "tuple", .base .non, kit_ty (a := "NoneType") (r := false) (by decide +kernel), _, rfl, iteF ⟨_, rfl, _, _, _, _, _, rfl, .ty "list", .base .non, kit_ty (a := "NoneType") (r := false) (by decide +kernel), _, rfl, iteF ⟨_, rfl, rfl, _, rfl, iteT ⟨_, rfl, rfl, ?_⟩⟩⟩⟩
        exact q
      | bl b =>
        cases ry
        refine ⟨_, rfl, _, _, _, _, _, rfl, .ty "tuple", .base (.bl _), kit_ty (a := "bool") (r := false) (by decide +kernel), _, rfl, iteF ⟨_, rfl, _, _, _, _, _, rfl, .ty "list", .base (.bl _), kit_ty (a := "bool") (r := false) (by decide +kernel), _, rfl, iteF ⟨_, rfl, rfl, _, rfl, iteF ⟨_, rfl, _, _, _, _, _, rfl, .ty "bool", .base (.bl _), kit_ty (a := "bool") (r := true) (by decide +kernel), _, rfl, iteT ⟨_, rfl, _, _, _, _, _, rfl, .ty "bool", .base (.bl _), kit_ty (a := "bool") (r := true) (by decide +kernel), _, rfl, iteT ⟨_, rfl, _, rfl, rfl, ?_⟩⟩⟩⟩⟩⟩
        rw [decide_eq_true rfl]
        exact q
      | int b =>
        cases ry
        refine ⟨_, rfl, _, _, _, _, _, rfl, .ty "tuple", .base (.int _), kit_ty (a := "int") (r := false) (by decide +kernel), _, rfl, iteF ⟨_, rfl, _, _, _, _, _, rfl, .ty "list", .base (.int _), kit_ty (a := "int") (r := false) (by decide +kernel), _, rfl, iteF ⟨_, rfl, rfl, _, rfl, iteF ⟨_, rfl, _, _, _, _, _, rfl, .ty "bool", .base (.int _), kit_ty (a := "int") (r := false) (by decide +kernel), _, rfl, iteF ⟨_, rfl, _, _, _, _, _, rfl, .ty "int", .base (.int _), kit_ty (a := "int") (r := true) (by decide +kernel), _, rfl, iteT ⟨_, rfl, _, _, _, _, _, rfl, .ty "int", .base (.int _), kit_ty (a := "int") (r := true) (by decide +kernel), _, rfl, iteT ⟨_, rfl, _, _, _, _, _, rfl, .ty "bool", .base (.int _), kit_ty (a := "int") (r := false) (by decide +kernel), _, rfl, _, rfl, iteT ⟨_, rfl, _, rfl, rfl, ?_⟩⟩⟩⟩⟩⟩⟩⟩
        rw [decide_eq_true rfl]
        exact q
      | str b =>
        cases ry
        refine ⟨_, rfl, _, _, _, _, _, rfl, .ty "tuple", .base (.str _), kit_ty (a := "str") (r := false) (by decide +kernel), _, rfl, iteF ⟨_, rfl, _, _, _, _, _, rfl, .ty "list", .base (.str _), kit_ty (a := "str") (r := false) (by decide +kernel), _, rfl, iteF ⟨_, rfl, rfl, _, rfl, iteF ⟨_, rfl, _, _, _, _, _, rfl, .ty "bool", .base (.str _), kit_ty (a := "str") (r := false) (by decide +kernel), _, rfl, iteF ⟨_, rfl, _, _, _, _, _, rfl, .ty "int", .base (.str _), kit_ty (a := "str") (r := false) (by decide +kernel), _, rfl, iteF ⟨_, rfl, _, _, _, _, _, rfl, .ty "str", .base (.str _), kit_ty (a := "str") (r := true) (by decide +kernel), _, rfl, iteT ⟨_, rfl, _, rfl, rfl, ?_⟩⟩⟩⟩⟩⟩⟩
        rw [decide_eq_true rfl]
        exact q
      | @tup a xs ds hx lx rx =>
        cases ry with
        | @tup b ys _ hy ly ry =>
          cases n with
          | zero => exact hd.elim
          | succ m =>
            obtain ⟨hlen, hall⟩ := hd
            refine ⟨_, rfl, _, _, _, _, _, rfl, .ty "tuple", .base (.tup hy), kit_ty (a := "tuple") (r := true) (by decide +kernel), _, rfl, iteT (iteT ⟨_, rfl, _, _, _, _, _, rfl, .ty "tuple", .base (.tup hy), kit_ty (a := "tuple") (r := true) (by decide +kernel), _, rfl, _, _, _, _, _, rfl, .ty "tuple", .base (.tup hx), kit_ty (a := "tuple") (r := true) (by decide +kernel), rfl, _, rfl, iteF ⟨_, rfl, _, _, _, _, _, rfl, .ty "list", .base (.tup hy), kit_ty (a := "tuple") (r := false) (by decide +kernel), _, rfl, _, _, _, _, _, rfl, .ty "list", .base (.tup hx), kit_ty (a := "tuple") (r := false) (by decide +kernel), rfl, _, rfl, iteF ⟨_, rfl, _, _, rfl, .inr (SqT.of hx), _, rfl, _, _, rfl, .inr (SqT.of hy), rfl, _, rfl, ?_⟩⟩⟩)⟩
            have el : decide (V.int (xs.length : Int) = V.int (ys.length : Int)) = true := decide_eq_true (by rw [lx, ly])
            rw [el]
            refine ⟨_, rfl, _, _, rfl, .inr (SqT.of hy), _, rfl, by omega, by omega, for_range (n := (ys.length : Int).toNat) (fun _ σ H' => H' = H ∧ ∃ z : Option V, σ = [some (.ref a), some (.ref b), z]) ⟨rfl, _, rfl⟩ ?_ ?_⟩
            · rintro i σ H' hi ⟨rfl, z, rfl⟩
              have hi' : i < ds.length := by omega
              have e0 : (0 : Int) + (i : Int) = (i : Int) := Int.zero_add _
              have g1 : xs[i]? = some xs[i] := List.getElem?_eq_getElem (by omega)
              have g2 : ys[i]? = some ys[i] := List.getElem?_eq_getElem (by omega)
              have g3 : ds[i]? = some ds[i] := List.getElem?_eq_getElem hi'
              rw [e0]
              refine ⟨_, rfl, _, rfl, .inr (.inl ⟨_, _, _, _, rfl, rfl, SqT.of hx, atI_nat g1, _, rfl, _, rfl, .inr (.inl ⟨_, _, _, _, rfl, rfl, SqT.of hy, atI_nat g2, ?_⟩)⟩)⟩
              exact ⟨_, _, ds[i], rfl, rx i _ _ g1 g3, ry i _ _ g2 g3, hall _ (List.getElem_mem hi'), _, rfl, rfl, _, rfl⟩
            · rintro σ H' ⟨rfl, z, rfl⟩
              exact q
      | @lst a xs ds hx lx rx =>
        cases ry with
        | @lst b ys _ hy ly ry =>
          cases n with
          | zero => exact hd.elim
          | succ m =>
            obtain ⟨hlen, hall⟩ := hd
            refine ⟨_, rfl, _, _, _, _, _, rfl, .ty "tuple", .base (.lst hy), kit_ty (a := "list") (r := false) (by decide +kernel), _, rfl, iteF ⟨_, rfl, _, _, _, _, _, rfl, .ty "list", .base (.lst hy), kit_ty (a := "list") (r := true) (by decide +kernel), _, rfl, iteT ⟨_, rfl, _, _, _, _, _, rfl, .ty "tuple", .base (.lst hy), kit_ty (a := "list") (r := false) (by decide +kernel), _, rfl, _, _, _, _, _, rfl, .ty "tuple", .base (.lst hx), kit_ty (a := "list") (r := false) (by decide +kernel), rfl, _, rfl, iteF ⟨_, rfl, _, _, _, _, _, rfl, .ty "list", .base (.lst hy), kit_ty (a := "list") (r := true) (by decide +kernel), _, rfl, _, _, _, _, _, rfl, .ty "list", .base (.lst hx), kit_ty (a := "list") (r := true) (by decide +kernel), rfl, _, rfl, iteF ⟨_, rfl, _, _, rfl, .inl (SqL.of hx), _, rfl, _, _, rfl, .inl (SqL.of hy), rfl, _, rfl, ?_⟩⟩⟩⟩⟩
            have el : decide (V.int (xs.length : Int) = V.int (ys.length : Int)) = true := decide_eq_true (by rw [lx, ly])
            rw [el]
            refine ⟨_, rfl, _, _, rfl, .inl (SqL.of hy), _, rfl, by omega, by omega, for_range (n := (ys.length : Int).toNat) (fun _ σ H' => H' = H ∧ ∃ z : Option V, σ = [some (.ref a), some (.ref b), z]) ⟨rfl, _, rfl⟩ ?_ ?_⟩
            · rintro i σ H' hi ⟨rfl, z, rfl⟩
              have hi' : i < ds.length := by omega
              have e0 : (0 : Int) + (i : Int) = (i : Int) := Int.zero_add _
              have g1 : xs[i]? = some xs[i] := List.getElem?_eq_getElem (by omega)
              have g2 : ys[i]? = some ys[i] := List.getElem?_eq_getElem (by omega)
              have g3 : ds[i]? = some ds[i] := List.getElem?_eq_getElem hi'
              rw [e0]
              refine ⟨_, rfl, _, rfl, .inl ⟨_, _, _, _, rfl, rfl, SqL.of hx, atI_nat g1, _, rfl, _, rfl, .inl ⟨_, _, _, _, rfl, rfl, SqL.of hy, atI_nat g2, ?_⟩⟩⟩
              exact ⟨_, _, ds[i], rfl, rx i _ _ g1 g3, ry i _ _ g2 g3, hall _ (List.getElem_mem hi'), _, rfl, rfl, _, rfl⟩
            · rintro σ H' ⟨rfl, z, rfl⟩
              exact q
theorem ok_law_same (D : Dfd K mg "_law_same" s_law_same ["actual", "due"]) (T : TxtS mg) (n : Nat) : Has P w K mg base n "_law_same" ["actual", "due"] (spSame n) := by
  obtain ⟨f, fd, F, g, b⟩ := D
  exact ⟨f, fd, fn_law_same F g b T n, g, F.kp, b⟩
end
/-! ## data made of flat lists -/
theorem rep_map {H : Hp} {α : Type} {f : α → V} {g : α → D} {l : List α} (h : ∀ x, Rep H (f x) (g x)) : (l.map f).length = (l.map g).length ∧ ∀ (i : Nat) (x : V) (d : D), (l.map f)[i]? = some x → (l.map g)[i]? = some d → Rep H x d := by
  refine ⟨by rw [List.length_map, List.length_map], fun i x d hx hd => ?_⟩
  rw [List.getElem?_map] at hx hd
  cases e : l[i]? with
  | none => rw [e] at hx; cases hx
  | some y =>
    rw [e] at hx hd
    have e1 : f y = x := Option.some.inj hx
    have e2 : g y = d := Option.some.inj hd
    rw [← e1, ← e2]
    exact h y
theorem rep_ints {H : Hp} {a : Addr} {l : List Int} (h : H a = some (.lst (l.map V.int))) : Rep H (.ref a) (.lst (l.map D.int)) :=
  let r := rep_map (H := H) (f := V.int) (g := D.int) (l := l) fun i => .int i
  .lst h r.1 r.2
theorem rep_bls {H : Hp} {a : Addr} {l : List Bool} (h : H a = some (.tup (l.map V.bl))) : Rep H (.ref a) (.tup (l.map D.bl)) :=
  let r := rep_map (H := H) (f := V.bl) (g := D.bl) (l := l) fun i => .bl i
  .tup h r.1 r.2
theorem okD_ints {l : List Int} (h : l.length < 2 ^ 61) : okD 1 (.lst (l.map D.int)) := ⟨by rw [List.length_map]; exact h, fun d hd => by obtain ⟨_, _, rfl⟩ := List.mem_map.mp hd; trivial⟩
end G
namespace G
open PySem PySem.Spec PyProof.Rows L2 Evl
section
variable {P : Program} {w : World} {K : PySem.W.Frag} {mg : Str → Option Value} {base : Heap}
theorem cutV_mem {xs : List V} {lo hi : Option Int} {i : Nat} {x : V} (h : (cutV xs lo hi)[i]? = some x) : x ∈ xs := by
  unfold cutV at h
  exact List.mem_of_mem_drop (List.mem_of_mem_take (List.mem_of_getElem? h))
theorem int_of {ns : List Int} {x : V} (h : x ∈ ns.map V.int) : ∃ z, x = .int z := by
  obtain ⟨z, _, e⟩ := List.mem_map.mp h
  exact ⟨z, e.symm⟩
def spPool (K : PySem.W.Frag) : Sp := fun vs H Q _ => ∃ (s : Addr) (ns : List Int), vs = [.ref s] ∧ SqL K H s (ns.map V.int) ∧ ns.length ≤ 1000 ∧ ∀ (p a : Addr) (H' : Hp), PoolOk p a H' → Ex H H' → H p = none → Q (.ref p) H'
theorem sc_law_pool : FnScope ["script", "salt", "cell"] ["script"] (defScope s_law_pool) := ⟨rfl, rfl, rfl, by decide +kernel, rfl, by decide +kernel, by decide +kernel⟩
theorem ok_law_pool (D : Dfd K mg "_law_pool" s_law_pool ["script"]) (T : TxtL mg) : Has P w K mg base 1 "_law_pool" ["script"] (spPool K) := by
  refine D.has fun f fd F => F.ok sc_law_pool (fun vs H Q E h => ?_) (fun cdv A outer s H vs Q E hr h => ?_)
  · obtain ⟨c, _, rfl, _⟩ := h
    rfl
  · obtain ⟨sa, ns, rfl, hs, hn, q⟩ := h
    refine ⟨_, (pss_cons (ps_set (i := 1) sc_law_pool.nd rfl (.inl rfl) pe_int)
      (pss_cons (ps_for PassesOwn.never rfl (pi_list (pe_slice sl_list (pv 0) po_none (po_some pe_int))) (pg_name (i := 2) sc_law_pool.nd rfl (.inl rfl))
        (pss_one (ps_set (i := 1) sc_law_pool.nd rfl (.inl rfl) (pe_op op_mod (pe_callTy call_int1 (by rfl) T.int (by decide +kernel) (pa_cons (pe_op op_add (pe_op op_mul (pv 1) pe_int) (pv 2)) pa_nil)) pe_int))))
      (pss_one (ps_ret (pe_lst (pa_cons (pe_callTy call_list_of (by rfl) T.list (by decide +kernel) (pa_cons (pv 0) pa_nil)) (pa_cons pe_int (pa_cons pe_int (pa_cons pe_int (pa_cons (pv 1) pa_nil)))))))))), ?_⟩
    refine ⟨_, rfl, _, rfl, sa, _, rfl, hs, fun c nc => ⟨c, rfl, ⟨_, SqL.of upd_same⟩, for_list (K := K) (a := c) (xs := cutV (ns.map V.int) none (some 63)) (fun _ σ H' => H' = upd H c (.lst (cutV (ns.map V.int) none (some 63))) ∧ ∃ (x : Int) (z : Option V), σ = [some (.ref sa), some (.int x), z]) ⟨rfl, _, _, rfl⟩ ?_ ?_ ?_⟩⟩
    · rintro i σ H' _ ⟨rfl, _⟩
      exact SqL.of upd_same
    · rintro i x σ H' hi ⟨rfl, y, z, rfl⟩
      obtain ⟨m, rfl⟩ := int_of (cutV_mem hi)
      exact ⟨_, rfl, _, _, rfl, rfl, .inr ⟨by decide, by decide⟩, _, rfl, _, _, rfl, rfl, .inl ⟨_, rfl, _, _, rfl, rfl, (by show (0 : Int) < 1000003; decide), rfl, _, _, rfl⟩⟩
    · rintro σ H' ⟨rfl, y, z, rfl⟩
      have e1 : Ex H (upd H c (.lst (cutV (ns.map V.int) none (some 63)))) := Ex.new nc
      refine ⟨_, rfl, _, _, rfl, .inl (ex_l e1 hs), fun l nl => ⟨_, rfl, (by show 5 ≤ sizeLine; decide), fun p np => ?_⟩⟩
      have e2 := e1.trans (Ex.new (o := .lst (ns.map V.int)) nl)
      have npl : l ≠ p := ne_of_none upd_same np
      exact q p l _ ⟨ns, 0, 0, 0, y, upd_same, by rw [hid_ne npl, upd_ne npl]; exact upd_same, hn⟩ (e2.trans (Ex.new np)) (fresh_back e2 np)
end
end G
namespace G
open PySem PySem.Spec PyProof.Rows L2 Evl
/-! ## own classes of errors -/
def HasX (P : Program) (w : World) (K : PySem.W.Frag) (mg : Str → Option Value) (base : Heap) (k : Nat) (x : Str) (ps : List Str) (sp : Sp) : Prop :=
  ∃ (f : Addr) (fd : FuncData), FnOk P w K mg base (L2.CX P w) k f fd ps sp ∧ mg x = some (.ref f) ∧ PySem.W.keepIn K (.ref f) = true ∧ Binds K fd ps []
theorem passX0 {X : Cx} {P : Program} {w : World} : Passes (L2.CX P w) X (fun _ _ _ => False) := fun _ _ _ _ _ _ _ h => by
  obtain ⟨_, _, _, _, _, _, _, _, _, _, _, _, h⟩ := h
  exact h.elim
/-- an own class over ValueError without __init__, at C -/
structure ExcT (K : PySem.W.Frag) (mg : Str → Option Value) (x : Str) (C : Addr) : Prop where
  gC : mg x = some (.ref C)
  xP : PySem.W.excIn K C [.type "ValueError", .type "Exception", .type "BaseException", .type "object"] "ValueError.__new__" = true
  kC : PySem.W.keepIn K (.ref C) = true
  bC : PySem.W.subIn K (.ref C) (.type "BaseException") = some true
  tC : PySem.W.typeIn K (.ref C) = some (.type "type")
/-- what an except clause asks of the class that it names -/
structure ExcH (K : PySem.W.Frag) (mg : Str → Option Value) (x : Str) (C : Addr) : Prop where
  u : ExcT K mg x C
  dict : PySem.W.hasDictIn K C = true
  self : PySem.W.subIn K (.ref C) (.ref C) = some true
theorem ExcH.hit {K : PySem.W.Frag} {mg : Str → Option Value} {x : Str} {C : Addr} (U : ExcH K mg x C) : PySem.W.exmOne K (.ref C) (.ref C) = some true := PySem.W.exm_ref U.u.bC U.dict U.u.tC U.self
end G
namespace G
open PySem PySem.Spec PyProof.Rows L2 Evl
/-! ## methods of built-in types within a suite: the written part by its letter -/
theorem kBm {X : Cx} {K : PySem.W.Frag} {T name id : String} {r : V → List V → Hp → VK → Prop} {o e : Expr} {es : List Expr} {to_ : TE} {t : TA} {apos cpos : Pos} (h : X.K = K) (p1 : PlainAttrs T) (p2 : Slot T name id) (p3 : typeOf (.builtin id) = pure (.type "method_descriptor")) (p4 : MtR X id r) (p5 : PE X o to_) (p6 : PA X (e :: es) t)
    (p7 : attributeBase o name X.env (eval o X.env) = eval o X.env := by rfl) (p8 : ((backTo cpos (starEach (e :: es) X.env)).all (fun x => !x.1) && (backToKw cpos (keywordEach [] X.env)).all (fun x => x.1.isSome) && decide ((e :: es).length + ([] : List Keyword).length + (if ([] : List Keyword).isEmpty then 0 else 1) < 30)) = true := by rfl)
    (p9 : (apos.endLine == cpos.line) = true := by rfl) (p10 : starEach (e :: es) X.env = (false, eval e X.env) :: starEach es X.env := by rfl) (p11 : (backTo cpos (starEach es X.env)).any (·.1) = false := by rfl) : PE X (.Call (.Attribute o name apos) (e :: es) [] cpos) (tBM K T r to_ t) := by
  subst h
  exact pe_bm p1 p2 p3 p4 p5 p6 p7 p8 p9 p10 p11
theorem kMtIndex {X : Cx} {K : PySem.W.Frag} (h : X.K = K) : MtR X "list.index" (rIndex K) := by subst h; exact mt_index
end G
namespace G
open PySem PySem.Spec PyProof.Rows L2 Evl
/-! ## own errors: caught by name or by a class above, asked for their class -/
structure ExcI (K : PySem.W.Frag) (mg : Str → Option Value) (x : Str) (C : Addr) : Prop where
  u : ExcT K mg x C
  dict : PySem.W.hasDictIn K C = true
  self : PySem.W.subIn K (.ref C) (.ref C) = some true
  isc : ExcC K C
def IsK (K : PySem.W.Frag) (mg : Str → Option Value) (C : Addr) (d : Str) (b : Bool) : Prop := ∃ D : Addr, mg d = some (.ref D) ∧ PySem.W.kitOne K (.ref C) (.ref D) = some b
def CatchK (K : PySem.W.Frag) (mg : Str → Option Value) (C : Addr) (s : Str) : Prop := ∃ D : Addr, mg s = some (.ref D) ∧ PySem.W.exmOne K (.ref C) (.ref D) = some true
theorem ExcI.hit {K : PySem.W.Frag} {mg : Str → Option Value} {x : Str} {C : Addr} (U : ExcI K mg x C) : PySem.W.exmOne K (.ref C) (.ref C) = some true := PySem.W.exm_ref U.u.bC U.dict U.u.tC U.self
theorem IsK.at_ {K : PySem.W.Frag} {mg : Str → Option Value} {C D : Addr} {d : Str} {b : Bool} (h : IsK K mg C d b) (g : mg d = some (.ref D)) : PySem.W.kitOne K (.ref C) (.ref D) = some b := by
  obtain ⟨D', g', k⟩ := h
  rw [g] at g'
  cases g'; exact k
theorem CatchK.at_ {K : PySem.W.Frag} {mg : Str → Option Value} {C D : Addr} {s : Str} (h : CatchK K mg C s) (g : mg s = some (.ref D)) : PySem.W.exmOne K (.ref C) (.ref D) = some true := by
  obtain ⟨D', g', k⟩ := h
  rw [g] at g'
  cases g'; exact k
theorem pe_ex {X : Cx} {e : Expr} {α : Type} {p : α → Prop} {t : α → TE} (h : ∀ x, p x → PE X e (t x)) : PE X e (fun σ H Q => ∃ x, p x ∧ t x σ H Q) := by
  refine ⟨fun ps s σ H Q I z => ?_⟩
  obtain ⟨x, px, hx⟩ := z
  exact (h x px).run ps s σ H Q I hx
/-- isinstance of the error that the suite holds: whichever own error it is -/
theorem pe_isE {X : Cx} {a : Addr} {oe : Obj} {pn : List (Addr × Obj)} {cls : Value} {dd : Option Addr} {e : Expr} {t : Addr → TE} (hz : Zc cls dd oe) (hf : ∃ vs, oe.data = .fields vs)
    (h : ∀ D : Addr, Zc (.ref D) none oe → ExcC X.K D → PE (X.suite a ((a, oe) :: pn)) e (t D)) : PE (X.suite a ((a, oe) :: pn)) e (fun σ H Q => ∃ D : Addr, (cls = .ref D ∧ dd = none ∧ ExcC X.K D) ∧ t D σ H Q) :=
  pe_ex (p := fun D => cls = .ref D ∧ dd = none ∧ ExcC X.K D) fun D z => by
    obtain ⟨rfl, rfl, ic⟩ := z
    exact h D hz ic
/-! ## methods and classes called where what is raised is taken at the slots -/
section
variable {X : Cx} {CX : CXT} {k : Nat} {f C : Addr} {fd : FuncData} {ps : List Str} {sp : Sp} {dvs : List V} {ds : List Value} {E : L2.St → XK} {x m : Str} {p pos apos : Pos} {e o : Expr} {es : List Expr} {to_ : TE} {t : TA}
def tMethX (C : Addr) (m : Str) (sp : Sp) (dvs : List V) (E : L2.St → XK) (to_ : TE) (t : TA) : TE := fun σ H Q => to_ σ H fun x H1 => ∃ a dx fs, x = .ref a ∧ H1 a = some (.ins C dx fs) ∧ fs.lookup m = none ∧ t σ H1 fun vs H2 => sp (x :: (vs ++ dvs)) H2 Q (E σ)
def tMakeX (C : Addr) (sp : Sp) (dvs : List V) (E : L2.St → XK) (t : TA) : TE := fun σ H Q => t σ H fun vs H1 => ∀ x dx, H1 x = none → H1 dx = none → dx ≠ x → sp (.ref x :: (vs ++ dvs)) (upd (upd H1 dx (.own x)) x (.ins C dx [])) (fun v H2 => v = .non ∧ Q (.ref x) H2) (E σ)
theorem pe_methX {pl : Sem Bool} (ho : PE X o to_) (cc : Cls X.K C) (mm : Meth X.K C m f) (Fk : FnOk X.prog X.w X.K X.mg X.base CX k f fd ps sp) (rm : Room k X.A) (bd : Binds X.K fd ps ds) (dv : Vals dvs ds)
    (px : ∀ σ, PassesAt CX X σ (E σ)) (pa : PA X (e :: es) t) (s1 : starEach (e :: es) X.env = (false, eval e X.env) :: starEach es X.env := by rfl) (s2 : (backTo pos (starEach es X.env)).any (·.1) = false := by rfl)
    (s3 : eval (.Call (.Attribute o m apos) (e :: es) [] pos) X.env = (do let ov ← eval o X.env; standAt apos.atName; let (f, first) ← holding [ov] (getMethod ov m pl); callWith pos f first (backTo pos (starEach (e :: es) X.env)) (backToKw pos (keywordEach [] X.env))) := by rfl) :
    PE X (.Call (.Attribute o m apos) (e :: es) [] pos) (tMethX C m sp dvs E to_ t) := by
  refine ⟨fun pins st σ H Q I z => PySem.W.methodCall_KW (pl := pl) (thn (ho.run pins st σ H _ I z) fun q0 st1 ⟨y, H1, I1, ry, b, dx, fl, ey, eb, lk, z1⟩ => ?_) s3⟩
  subst ey
  cases (show q0 = Value.ref b from ry)
  exact getmeth_ok I1 eb cc mm lk (PySem.W.callWith_K (first := [.ref b]) (h₀ := X.base) I.ok.mod.kin mm.kp (thn (pa.run pos pins st1 σ H1 _ I1 z1) fun ws st2 ⟨vs, H2, I2, rs, z2⟩ => ⟨I2.kIn, run_fnSD (us := .ref b :: ws) (vs := .ref b :: vs) Fk rm bd dv (px σ) I2 (.cons rfl rs) z2⟩) s1 s2)
theorem run_makeX {pins : List (Addr × Obj)} {σ : L2.St} {H : Hp} {st : Shared} {Q : VK} {us : List Value} {vs : List V} (M : Mk X.K C f) (Fk : FnOk X.prog X.w X.K X.mg X.base CX k f fd ps sp) (rm : Room (k + 1) X.A) (bd : Binds X.K fd ps ds) (dv : Vals dvs ds)
    (px : PassesAt CX X σ (E σ)) (I : Inv X pins σ H st) (rs : Vals vs us)
    (z : ∀ x dx, H x = none → H dx = none → dx ≠ x → sp (.ref x :: (vs ++ dvs)) (upd (upd H dx (.own x)) x (.ins C dx [])) (fun v H2 => v = .non ∧ Q (.ref x) H2) (E σ)) :
    wpAny (model X.prog X.w) X.A (call (.ref C) us) (EP X pins σ Q) X.xe st := by
  have z1 := z (st.heap.objs.size + 1) st.heap.objs.size (I.hok.fresh (Nat.le_succ _)) (I.hok.fresh (Nat.le_refl _)) (Nat.ne_of_lt (Nat.lt_succ_self _))
  have J := Inv.made (C := C) I
  have rr : Vals (V.ref (st.heap.objs.size + 1) :: (vs ++ dvs)) (Value.ref (st.heap.objs.size + 1) :: (us ++ ds)) := .cons rfl (rs.append dv)
  have len : (Value.ref (st.heap.objs.size + 1) :: us ++ ds).length = ps.length := (rr.length.symm.trans (Fk.len _ _ _ _ z1))
  refine wpAny_call (make_map (f := f) I.kIn M.makes M.init (beq_iff_eq.mp M.fn) (codeAny_mono (Fk.run _ X.stack _ _ ⟨Value.ref (st.heap.objs.size + 1) :: us, []⟩ (Value.ref (st.heap.objs.size + 1) :: (us ++ ds)) _ _ (E σ) (rm.make C us []) (J.env0.make C us []) (bd _ (Value.ref (st.heap.objs.size + 1) :: us) J.kIn len) rr z1) fun r st' h => ?_))
  match r, h with
  | .error er, h => exact px pins _ _ er st' J h
  | .ok (.ret u), h =>
    obtain ⟨v, H', I3, rv, ev, q3⟩ := J.after h
    subst ev
    exact ⟨rv, ⟨V.ref (st.heap.objs.size + 1), H', I3, rfl, q3⟩⟩
  | .ok .next, h => exact h.elim
  | .ok .brk, h => exact h.elim
  | .ok .cont, h => exact h.elim
theorem pe_makeX (M : Mk X.K C f) (Fk : FnOk X.prog X.w X.K X.mg X.base CX k f fd ps sp) (rm : Room (k + 1) X.A) (gl : Gl X x) (gm : X.mg x = some (.ref C)) (bd : Binds X.K fd ps ds) (dv : Vals dvs ds) (px : ∀ σ, PassesAt CX X σ (E σ)) (pa : PA X (e :: es) t)
    (s0 : (x == ("__debug__" : Str)) = false := by decide) (s1 : starEach (e :: es) X.env = (false, eval e X.env) :: starEach es X.env := by rfl) (s2 : (backTo pos (starEach es X.env)).any (·.1) = false := by rfl) : PE X (.Call (.Name x p) (e :: es) [] pos) (tMakeX C sp dvs E t) :=
  ⟨fun pins st σ H Q I z => wpAny_Call_Name_kw (ld_glob I gl gm (PySem.W.callWith_K (h₀ := X.base) I.ok.mod.kin M.kp (thn (pa.run pos pins st σ H _ I z) fun us st1 ⟨vs, H1, I1, r, q⟩ => ⟨I1.kIn, run_makeX M Fk rm bd dv (px σ) I1 r q⟩) s1 s2) s0)⟩
end
end G
namespace G
open PySem PySem.Spec PyProof.Rows L2 Evl TL
/-! ## words -/
theorem iteY {b : Bool} {A B : Prop} (h : b = true) (a : A) : if b = true then A else B := by rw [if_pos h]; exact a
theorem iteN {b : Bool} {A B : Prop} (h : b = false) (a : B) : if b = true then A else B := by rw [if_neg (by rw [h]; decide)]; exact a
def sLET : Str := "abcdefghijklmnopqrstuvwxyz"
def sDIG : Str := "0123456789"
def sRUN : Str := "abcdefghijklmnopqrstuvwxyz0123456789_"
def kwds : List Str := ["cell", "pin", "module", "gate", "part", "reg", "edge", "out", "setup", "hold", "start"]
def isRun (c : Nat) : Bool := decide (c ∈ tl sRUN)
def isWord (T : List Nat) : Bool := match T with
  | [] => false
  | c :: _ => decide (c ∈ tl sLET) && T.all isRun
theorem let_run : ∀ c ∈ tl sLET, isRun c = true := by decide +kernel
theorem inV_strs {k : Str} {l : List Str} : inV (.str k) (l.map V.str) = decide (k ∈ l) := by
  unfold inV
  rw [List.any_map, Bool.eq_iff_iff, List.any_eq_true, decide_eq_true_iff]
  constructor
  · rintro ⟨y, hy, h⟩
    have h' : (y == k) = true := h
    rw [← eq_of_beq h']; exact hy
  · intro h
    exact ⟨k, h, (beq_self_eq_true k : (k == k) = true)⟩
theorem kw_more : ∀ k ∈ kwds, k ++ "_" ∉ kwds ∧ isWord (tl (k ++ "_")) = true ∧ (tl (k ++ "_")).length ≤ 20 := by decide +kernel
structure TxtRW (mg : Str → Option Value) : Prop where
  all : mg "all" = none
  LETTERS : ∃ t, mg "LETTERS" = some (.str sLET t)
  RUN : ∃ t, mg "RUN_CHARACTERS" = some (.str sRUN t)
section
variable {P : Program} {w : World} {K : PySem.W.Frag} {mg : Str → Option Value} {base : Heap}
def spIsWord : Sp := fun vs H Q _ => ∃ T : List Nat, vs = [.str (mk T)] ∧ T ≠ [] ∧ T.length ≤ 50000 ∧ ∀ H', Ex H H' → Q (.bl (isWord T)) H'
theorem all_bl {l : List Nat} {g : Nat → Bool} : (l.map fun c => V.bl (g c)) = (l.map g).map V.bl := by rw [List.map_map]; rfl
def spWord : Sp := fun vs H Q _ => ∃ (p a : Addr), vs = [.ref p] ∧ PoolOk p a H ∧ ∀ (T : List Nat) (H' : Hp), isWord T = true → mk T ∉ kwds → T.length ≤ 20 → Px p a H H' → Q (.str (mk T)) H'
theorem item_of {L : List Nat} {v : Nat} (h : v < L.length) : ∃ c, L[v]? = some c ∧ c ∈ L := ⟨L[v], List.getElem?_eq_getElem h, List.getElem_mem h⟩
theorem sc_law_word : FnScope ["pool", "heads", "rest", "word", "k"] ["pool"] (defScope s_law_word) := ⟨rfl, rfl, rfl, by decide +kernel, rfl, by decide +kernel, by decide +kernel⟩
theorem ok_law_word (D : Dfd K mg "_law_word" s_law_word ["pool"]) (T : TxtS mg) (C : Has P w K mg base 2 "_law_draw" ["pool", "many"] spDrawX) : Has P w K mg base 3 "_law_word" ["pool"] spWord := by
  obtain ⟨f_law_draw, d_law_draw, G_law_draw, g_law_draw, k_law_draw, b_law_draw⟩ := C
  refine D.has fun f fd F => F.ok sc_law_word (fun vs H Q E h => ?_) (fun cdv A outer s H vs Q E hr h => ?_)
  · obtain ⟨_, _, rfl, _⟩ := h
    rfl
  · obtain ⟨p, a, rfl, hp, q⟩ := h
    refine ⟨_, (pss_cons (ps_set (i := 1) sc_law_word.nd rfl (.inl rfl) pe_str)
    (pss_cons (ps_set (i := 2) sc_law_word.nd rfl (.inl rfl) pe_str)
    (pss_cons (ps_set (i := 3) sc_law_word.nd rfl (.inl rfl) (pe_ix ix_str (pv 1) (pe_call G_law_draw (hr.mono (by omega)) (by rfl) g_law_draw k_law_draw b_law_draw .nil pass0 (pa_cons (pv 0) (pa_cons pe_int pa_nil))) (fun _ _ => rfl)))
    (pss_cons (ps_for PassesOwn.never rfl (pi_range1 rfl T.range (pa_cons (pe_ix ix_list (pe_lst (pa_cons pe_int (pa_cons pe_int (pa_cons pe_int (pa_cons pe_int (pa_cons pe_int (pa_cons pe_int (pa_cons pe_int (pa_cons pe_int pa_nil))))))))) (pe_call G_law_draw (hr.mono (by omega)) (by rfl) g_law_draw k_law_draw b_law_draw .nil pass0 (pa_cons (pv 0) (pa_cons pe_int pa_nil))) (fun _ _ => rfl)) pa_nil)) (pg_name (i := 4) sc_law_word.nd rfl (.inl rfl))
      (pss_one (ps_set (i := 3) sc_law_word.nd rfl (.inl rfl) (pe_op op_add_str (pv 3) (pe_ix ix_str (pv 2) (pe_call G_law_draw (hr.mono (by omega)) (by rfl) g_law_draw k_law_draw b_law_draw .nil pass0 (pa_cons (pv 0) (pa_cons pe_int pa_nil))) (fun _ _ => rfl))))))
    (pss_cons (ps_if (pt_cmpR op_in_seq (pv 3) (pe_lst (pa_cons pe_str (pa_cons pe_str (pa_cons pe_str (pa_cons pe_str (pa_cons pe_str (pa_cons pe_str (pa_cons pe_str (pa_cons pe_str (pa_cons pe_str (pa_cons pe_str (pa_cons pe_str pa_nil)))))))))))) (by rfl))
      (pss_one (ps_set (i := 3) sc_law_word.nd rfl (.inl rfl) (pe_op op_add_str (pv 3) pe_str)))
      pss_nil)
    (pss_one (ps_ret (pv 3)))))))), ?_⟩
    have l26 : (tl sLET).length = 26 := by decide +kernel
    have l37 : (tl sRUN).length = 37 := by decide +kernel
    refine ⟨_, rfl, _, rfl, p, a, 26, rfl, by decide, by decide, hp, fun v H1 hv X1 _ => ?_⟩
    obtain ⟨c, hc, hm⟩ := item_of (L := tl sLET) (v := v) (by rw [l26]; omega)
    refine ⟨sLET, _, c, rfl, rfl, by decide, atI_nat hc, ?_⟩
    refine ⟨(by show 8 ≤ sizeLine; decide), fun l nl => ⟨_, rfl, p, a, 8, rfl, by decide, by decide, (X1.new nl).pool, fun v2 H2 hv2 X2 k2 => ?_⟩⟩
    have hl2 : H2 l = some (.lst [.int 0, .int 0, .int 1, .int 1, .int 2, .int 3, .int 5, .int 12]) := by rw [k2 _ (X1.pool.ne nl)]; exact upd_same
    have hit : ∃ n : Nat, ([.int 0, .int 0, .int 1, .int 1, .int 2, .int 3, .int 5, .int 12] : List V)[v2]? = some (.int (n : Int)) ∧ n ≤ 12 := by
      have h8 : v2 < 8 := by omega
      match v2, h8 with
      | 0, _ => exact ⟨0, rfl, by decide⟩
      | 1, _ => exact ⟨0, rfl, by decide⟩
      | 2, _ => exact ⟨1, rfl, by decide⟩
      | 3, _ => exact ⟨1, rfl, by decide⟩
      | 4, _ => exact ⟨2, rfl, by decide⟩
      | 5, _ => exact ⟨3, rfl, by decide⟩
      | 6, _ => exact ⟨5, rfl, by decide⟩
      | 7, _ => exact ⟨12, rfl, by decide⟩
      | n + 8, h => omega
    obtain ⟨n, hn, hn12⟩ := hit
    have X3 := (X1.new nl).trans X2
    refine ⟨_, _, _, _, rfl, rfl, SqL.of hl2, atI_nat hn, _, rfl, by omega, by omega, for_range (n := ((n : Nat) : Int).toNat)
      (fun i σ H' => Px p a H H' ∧ ∃ (W : List Nat) (z : Option V), isWord W = true ∧ W.length = i + 1 ∧ σ = [some (.ref p), some (.str sLET), some (.str sRUN), some (.str (mk W)), z]) ⟨X3, [c], _, ?_, rfl, rfl⟩ ?_ ?_⟩
    · show (decide (c ∈ tl sLET) && [c].all isRun) = true
      rw [decide_eq_true hm, List.all_cons, let_run c hm]; rfl
    · rintro i σ H3 hi ⟨X4, W, z, hW, hWl, rfl⟩
      refine ⟨_, rfl, _, rfl, _, rfl, p, a, 37, rfl, by decide, by decide, X4.pool, fun v3 H4 hv3 X5 _ => ?_⟩
      obtain ⟨d, hd, hdm⟩ := item_of (L := tl sRUN) (v := v3) (by rw [l37]; omega)
      refine ⟨sRUN, _, d, rfl, rfl, by decide, atI_nat hd, _, _, rfl, rfl, ?_, X4.trans X5, W ++ [d], some (.int (0 + (i : Int))), ?_, by rw [List.length_append, hWl]; rfl, ?_⟩
      · rw [mk_len]
        show _ + 1 ≤ sizeLine
        exact sz_of (by omega)
      · cases W with
        | nil => cases hW
        | cons c' r' =>
          have h' : (decide (c' ∈ tl sLET) && (c' :: r').all isRun) = true := hW
          rw [Bool.and_eq_true] at h'
          show (decide (c' ∈ tl sLET) && (c' :: r' ++ [d]).all isRun) = true
          rw [h'.1, List.all_append, h'.2]
          show (true && (true && (isRun d && true))) = true
          rw [show isRun d = true from decide_eq_true hdm]; rfl
      · rw [mk_one, mk_app]; rfl
    · rintro σ H3 ⟨X4, W, z, hW, hWl, rfl⟩
      have hWl' : W.length ≤ 13 := by omega
      refine ⟨_, rfl, (by show 11 ≤ sizeLine; decide), fun l2 nl2 => ⟨l2, kwds.map V.str, rfl, .inl (SqL.of upd_same), rfl, flat_map (fun _ => rfl) _, _, rfl, ?_⟩⟩
      show if (if false = true then !inV (.str (mk W)) (kwds.map V.str) else inV (.str (mk W)) (kwds.map V.str)) = true then _ else _
      rw [if_neg Bool.false_ne_true, inV_strs]
      by_cases hk : mk W ∈ kwds
      · rw [decide_eq_true hk]
        refine iteT ⟨_, rfl, _, _, rfl, rfl, ?_, _, rfl, ?_⟩
        · rw [mk_len]
          show W.length + 1 ≤ sizeLine
          exact sz_of (by omega)
        · obtain ⟨h1, h2, h4⟩ := kw_more _ hk
          have e : mk W ++ ("_" : Str) = mk (W ++ [95]) := mk_app W [95]
          rw [e] at h1 h2 h4
          show Q (.str (mk W ++ ("_" : Str))) _
          rw [e]
          exact q _ _ h2 h1 h4 (X4.new nl2)
      · rw [decide_eq_false hk]
        exact iteF ⟨_, rfl, q _ _ hW hk (by omega) (X4.new nl2)⟩

end
end G
namespace G
open PySem PySem.Spec PyProof.Rows L2 Evl TL
structure TxtR1 (mg : Str → Option Value) : Prop where
  len : mg "len" = none
  any : mg "any" = none
  int : mg "int" = none
  str : mg "str" = none
  tuple : mg "tuple" = none
  DIG : ∃ t, mg "DIGITS" = some (.str "0123456789" t)
  MOST : ∃ t, mg "MOST_DIGITS" = some (.int 60 t)
theorem ends_snoc (l : List Nat) (c : Nat) : Txt.endswith (mk (l ++ [c])) (mk [c]) = true := by
  show (decide (0 + (mk [c]).length ≤ (mk (l ++ [c])).length) && PySem.Builtin.Str.subAt (mk (l ++ [c])) (mk [c]) ((mk (l ++ [c])).length - (mk [c]).length)) = true
  rw [PySem.StrLaws.subAt_eq]
  show (_ && (((tl (mk (l ++ [c]))).drop _).take _ == tl (mk [c]))) = true
  rw [tl_mkS, tl_mkS, mk_len, mk_len, List.length_append]
  show (decide (0 + 1 ≤ l.length + 1) && (((l ++ [c]).drop (l.length + 1 - 1)).take 1 == [c])) = true
  rw [Nat.add_sub_cancel, List.drop_left, decide_eq_true (by omega)]
  simp
theorem cut_snoc (l : List Nat) (c : Nat) : cutS (mk (l ++ [c])) none (some (-1)) = mk l := by
  unfold cutS
  refine ext_tl ?_
  rw [HT.sIx_none]
  have e : HT.sIx (mk (l ++ [c])).length (mk (l ++ [c])).length (some (-1)) = l.length := by
    show (if (-1 : Int) < 0 then ((-1 : Int) + ((mk (l ++ [c])).length : Int)).toNat else min (-1 : Int).toNat (mk (l ++ [c])).length) = _
    rw [if_pos (by decide), mk_len, List.length_append]
    show ((-1 : Int) + ((l.length + 1 : Nat) : Int)).toNat = _
    omega
  rw [e]
  show (((tl (mk (l ++ [c]))).drop 0).take (l.length - 0)) = l
  rw [tl_mkS, List.drop_zero, Nat.sub_zero, List.take_left]
theorem few_log {i : Int} (h : Few i) : i.natAbs.log2 < 1920 := by
  unfold Few at h
  have h1 : i.natAbs < 2 ^ 200 := Nat.lt_of_lt_of_le h (by decide)
  have := PySem.Flt.log2_lt_of (by decide : 0 < 200) h1
  omega
end G
namespace G
open PySem PySem.Spec PyProof.Rows L2 Evl TL
/-! ## texts that are joined -/
def strV (ts : List (List Nat)) : List V := ts.map fun T => V.str (mk T)
theorem str_len_app (a b : Str) : (a ++ b).length = a.length + b.length := by rw [len_tl, tl_append, List.length_append, ← len_tl, ← len_tl]
theorem l_from : ("from " : Str).length = 5 := by decide +kernel
theorem l_to : (" to " : Str).length = 4 := by decide +kernel
theorem l_emp : (Str.empty).length = 0 := rfl
theorem l_x : ("x" : Str).length = 1 := by decide +kernel
theorem sum_len {m : Nat} : ∀ l : List (List Nat), (∀ p ∈ l, p.length ≤ m) → ((l.map mk).map (·.length)).sum ≤ l.length * m
  | [], _ => Nat.zero_le _
  | x :: l, h => by
    have h1 := h x List.mem_cons_self
    have h2 := sum_len l fun p hp => h p (List.mem_cons_of_mem _ hp)
    rw [List.map_cons, List.map_cons, List.sum_cons, List.length_cons, Nat.succ_mul]
    have : (mk x).length = x.length := mk_len x
    omega
theorem join_mk (s x : List Nat) (xs : List (List Nat)) : Txt.join (mk s) ((x :: xs).map mk) = mk (joinL s (x :: xs)) := by
  rw [join_eq]
  refine ext_tl ?_
  rw [tl_join, tl_mkS, tl_mkS, List.map_map]
  show joinL s ((x :: xs).map id) = _
  rw [List.map_id]
theorem joinL_nil : ∀ (x : List Nat) (xs : List (List Nat)), joinL [] (x :: xs) = (x :: xs).flatten
  | x, [] => by show x = x ++ []; simp
  | x, y :: ys => by show x ++ ([] ++ joinL [] (y :: ys)) = x ++ (y :: ys).flatten; rw [joinL_nil y ys]; rfl
/-- what a name is -/
def NameL (n : List Nat) : Prop := ∃ (x : List Nat) (xs : List (List Nat)), n = joinL [47] (x :: xs) ∧ xs.length ≤ 2 ∧ ∀ p ∈ x :: xs, isWord p = true ∧ p.length ≤ 20
theorem word_free {T : List Nat} (h : isWord T = true) {s : Nat} (hs : isRun s = false) : s ∉ T := fun hm => by
  cases T with
  | nil => cases h
  | cons c r =>
    have h' : (decide (c ∈ tl sLET) && (c :: r).all isRun) = true := h
    rw [Bool.and_eq_true, List.all_eq_true] at h'
    rw [h'.2 s hm] at hs; cases hs
theorem joinL_mem (s : List Nat) : ∀ (x : List Nat) (xs : List (List Nat)) (c : Nat), c ∈ joinL s (x :: xs) → (∃ p ∈ x :: xs, c ∈ p) ∨ c ∈ s
  | x, [], c, h => .inl ⟨x, List.mem_cons_self, h⟩
  | x, y :: ys, c, h => by
    have h : c ∈ x ++ (s ++ joinL s (y :: ys)) := h
    rcases List.mem_append.mp h with z | z
    · exact .inl ⟨x, List.mem_cons_self, z⟩
    · rcases List.mem_append.mp z with z | z
      · exact .inr z
      · rcases joinL_mem s y ys c z with ⟨p, hp, hc⟩ | z
        · exact .inl ⟨p, List.mem_cons_of_mem _ hp, hc⟩
        · exact .inr z
theorem joinL_len (s : List Nat) (m : Nat) : ∀ (x : List Nat) (xs : List (List Nat)), (∀ p ∈ x :: xs, p.length ≤ m) → (joinL s (x :: xs)).length ≤ m + xs.length * (m + s.length)
  | x, [], h => by
    have := h x List.mem_cons_self
    show x.length ≤ _
    omega
  | x, y :: ys, h => by
    have h1 := h x List.mem_cons_self
    have h2 := joinL_len s m y ys fun p hp => h p (List.mem_cons_of_mem _ hp)
    show (x ++ (s ++ joinL s (y :: ys))).length ≤ _
    rw [List.length_append, List.length_append, List.length_cons, Nat.succ_mul]
    omega
theorem run_signs : isRun 47 = false ∧ isRun 32 = false ∧ isRun 10 = false := by decide +kernel
theorem name_free {n : List Nat} (h : NameL n) {s : Nat} (hs : isRun s = false) (h47 : s ≠ 47) : s ∉ n := fun hm => by
  obtain ⟨x, xs, rfl, _, hw⟩ := h
  rcases joinL_mem _ _ _ _ hm with ⟨p, hp, hc⟩ | z
  · exact word_free (hw p hp).1 hs hc
  · exact h47 (List.mem_singleton.mp z)
theorem name_len {n : List Nat} (h : NameL n) : n.length ≤ 62 := by
  obtain ⟨x, xs, rfl, hl, hw⟩ := h
  have := joinL_len [47] 20 x xs fun p hp => (hw p hp).2
  have e : ([47] : List Nat).length = 1 := rfl
  rw [e] at this
  have : xs.length * (20 + 1) ≤ 2 * 21 := Nat.mul_le_mul_right _ hl
  omega
end G
namespace G
open PySem PySem.Spec PyProof.Rows L2 Evl TL
/-- draws out of many -/
def spDrawXL : Sp := fun vs H Q _ => ∃ (p a : Addr) (n : Int), vs = [.ref p, .int n] ∧ 0 < n ∧ n ≤ 2 ^ 210 ∧ PoolOk p a H ∧ ∀ (v : Nat) (H' : Hp), (v : Int) < n → Px p a H H' → (∀ b, b ≠ p → H' b = H b) → Q (.int v) H'
theorem log2_smallL {n : Int} (h0 : 0 < n) (h : n ≤ 2 ^ 210) : n.natAbs.log2 < 9000 := by
  have h1 : n.natAbs < 2 ^ 211 := by omega
  have := PySem.Flt.log2_lt_of (by decide : 0 < 211) h1
  omega
section
variable {P : Program} {w : World} {K : PySem.W.Frag} {mg : Str → Option Value} {base : Heap}
theorem drawXL (C : Has P w K mg base 2 "_law_draw" ["pool", "many"] spDraw) : Has P w K mg base 2 "_law_draw" ["pool", "many"] spDrawXL :=
  C.imp fun vs H Q E h => by
    obtain ⟨p, a, n, rfl, h0, h1, hp, q⟩ := h
    refine ⟨p, a, n, rfl, h0, log2_smallL h0 h1, hp, fun v o v0 v1 hq => ?_⟩
    have e : v = ((v.toNat : Nat) : Int) := by omega
    rw [e]
    exact q v.toNat _ (by omega) (Px.draw hp hq) fun b hb => upd_ne hb
end
def TupEx (H H' : Hp) : Prop := ∀ (b : Addr) (xs : List V), H b = some (.tup xs) → H' b = some (.tup xs)
theorem Px.tup {p a : Addr} {H H' : Hp} (X : Px p a H H') : TupEx H H' := fun b xs z => by
  obtain ⟨_, _, _, _, _, e, _⟩ := X.was
  exact X.at_ (by rw [hid_ne (ne_of z e (by intro y; cases y))]; exact z)
end G
namespace G
open PySem PySem.Spec PyProof.Rows L2 Evl TL
/-- a pair of how many and which bit -/
def PcAt (H : Hp) (c : Addr) (p : Nat × Bool) : Prop := H c = some (.tup [.int (p.1 : Nat), .bl p.2])
theorem neg_last (n : Nat) : ixN (n + 1) (-1) = some n := by
  unfold ixN
  rw [if_neg (by decide), if_pos (by omega)]
  congr 1
  omega
theorem All2.unsnoc {α β : Type} {R : α → β → Prop} {as : List α} {bs : List β} {a : α} {b : β} (h : All2 R (as ++ [a]) (bs ++ [b])) : All2 R as bs ∧ R a b := by
  have hl : as.length = bs.length := by have := h.1; rw [List.length_append, List.length_append] at this; exact Nat.succ.inj this
  refine ⟨⟨hl, fun i x y h1 h2 => h.2 i x y ?_ ?_⟩, h.2 as.length a b ?_ ?_⟩
  · rw [List.getElem?_append_left (List.getElem?_eq_some_iff.mp h1).1]; exact h1
  · rw [List.getElem?_append_left (List.getElem?_eq_some_iff.mp h2).1]; exact h2
  · rw [List.getElem?_append_right (Nat.le_refl _), Nat.sub_self]; rfl
  · rw [hl, List.getElem?_append_right (Nat.le_refl _), Nat.sub_self]; rfl
theorem runs_len_le (l : List Bool) (k : Nat) (h : k ≤ l.length) : (runsB (l.take k)).length ≤ k ∧ ∀ p ∈ runsB (l.take k), p.1 ≤ k := by
  obtain ⟨h1, h2⟩ := runs_ok l k h
  have := exp_len _ h2
  rw [h1, List.length_take] at this
  exact ⟨by omega, fun p hp => by have := this.2 p hp; omega⟩
def RowAt (H : Hp) (a : Addr) (r : List Nat × List Bool) : Prop := ∃ bt, H a = some (.tup [.str (mk r.1), .ref bt]) ∧ H bt = some (.tup (r.2.map V.bl))
theorem RowAt.ex {H H' : Hp} {a : Addr} {r : List Nat × List Bool} (h : RowAt H a r) (e : Ex H H') : RowAt H' a r := by
  obtain ⟨bt, h1, h2⟩ := h
  exact ⟨bt, e _ _ h1, e _ _ h2⟩
def RecAt (H : Hp) (a : Addr) (r : RecD) : Prop := ∃ (rt : Addr) (ra : List Addr), H a = some (.tup [.int r.low, .int r.high, .ref rt]) ∧ H rt = some (.tup (ra.map V.ref)) ∧ All2 (RowAt H) ra r.rows
structure RecOk (r : RecD) : Prop where
  low : Few r.low
  high : Few r.high
  one : 1 ≤ r.size
  size : r.size ≤ 41
  rows : r.rows.length ≤ 4
  row : ∀ x ∈ r.rows, NameL x.1 ∧ x.2.length = r.size
theorem piece_free {p : Nat × Bool} {s : Nat} (h : s < 48 ∨ 57 < s) (h2 : s ≠ 120) : s ∉ pieceL p := fun hm => by
  unfold pieceL at hm
  rcases List.mem_append.mp hm with z | z
  · exact numL_free h z
  · rcases List.mem_cons.mp z with z | z
    · exact h2 z
    · have := List.mem_singleton.mp z
      unfold bitL at this
      split at this <;> omega
theorem piece_len {p : Nat × Bool} (h : p.1 < 1000) : (pieceL p).length ≤ 5 := by
  unfold pieceL
  have := numL_len (n := p.1) (k := 3) (by decide) h
  rw [List.length_append]
  show _ + 2 ≤ 5
  omega
theorem row_len {r : List Nat × List Bool} (hn : NameL r.1) (hb : r.2.length ≤ 41) : (rowL r).length ≤ 10000 := by
  unfold rowL
  have h1 := runs_len_le r.2 r.2.length (Nat.le_refl _)
  rw [List.take_length] at h1
  have := joinL_len [32] 62 r.1 ((runsB r.2).map pieceL) fun p hp => by
    rcases List.mem_cons.mp hp with z | z
    · rw [z]; exact name_len hn
    · obtain ⟨q, hq, rfl⟩ := List.mem_map.mp z
      have := piece_len (p := q) (by have := h1.2 q hq; omega)
      omega
  rw [List.length_map] at this
  have e : ([32] : List Nat).length = 1 := rfl
  rw [e] at this
  have : (runsB r.2).length * (62 + 1) ≤ 41 * 63 := Nat.mul_le_mul_right _ (by omega)
  omega
theorem head_len {low high : Int} (h1 : Few low) (h2 : Few high) : (headL low high).length ≤ 1000 := by
  unfold headL
  have := few_len h1
  have := few_len h2
  have := joinL_len [32] 61 (tl ("from" : Str)) [intL low, tl ("to" : Str), intL high] fun p hp => by
    simp only [List.mem_cons, List.not_mem_nil, or_false] at hp
    rcases hp with z | z | z | z <;> rw [z]
    · decide +kernel
    · assumption
    · decide +kernel
    · assumption
  have e : ([32] : List Nat).length = 1 := rfl
  rw [e] at this
  exact Nat.le_trans this (by show 61 + 3 * (61 + 1) ≤ 1000; decide)
theorem apart_take : ∀ {fs : List (Nat × Bool)}, Apart fs → ∀ k, Apart (fs.take k)
  | [], _, k => by rw [List.take_nil]; trivial
  | [p], h, k => by
    cases k with
    | zero => trivial
    | succ k => rw [List.take_of_length_le (by show 1 ≤ _; omega)]; exact h
  | p :: q :: r, h, k => by
    match k with
    | 0 => trivial
    | 1 => exact h.1
    | k + 2 =>
      have := apart_take (fs := q :: r) h.2.2 (k + 1)
      exact ⟨h.1, h.2.1, this⟩
theorem exp_take (fs : List (Nat × Bool)) (k : Nat) : (expB (fs.take k)).length ≤ (expB fs).length := by
  have e : expB fs = expB (fs.take k) ++ expB (fs.drop k) := by
    unfold expB
    rw [← List.flatten_append, ← List.map_append, List.take_append_drop]
  rw [e, List.length_append]; omega
theorem head_free {low high : Int} : 10 ∉ headL low high := fun hm => by
  unfold headL at hm
  rcases joinL_mem _ _ _ _ hm with ⟨p, hp, hc⟩ | z
  · simp only [List.mem_cons, List.not_mem_nil, or_false] at hp
    rcases hp with e | e | e | e <;> rw [e] at hc
    · exact absurd hc (by decide +kernel)
    · exact intL_free (by decide) hc
    · exact absurd hc (by decide +kernel)
    · exact intL_free (by decide) hc
  · exact absurd z (by decide)
theorem row_free {r : List Nat × List Bool} (hn : NameL r.1) : 10 ∉ rowL r := fun hm => by
  unfold rowL at hm
  rcases joinL_mem _ _ _ _ hm with ⟨p, hp, hc⟩ | z
  · rcases List.mem_cons.mp hp with e | e
    · rw [e] at hc; exact name_free hn run_signs.2.2 (by decide) hc
    · obtain ⟨q, _, rfl⟩ := List.mem_map.mp e
      exact piece_free (by decide) (by decide) hc
  · exact absurd z (by decide)
theorem lines_len {r : RecD} (ok : RecOk r) : r.lines.length ≤ 5 ∧ ∀ l ∈ r.lines, l.length ≤ 10000 := by
  constructor
  · unfold RecD.lines; rw [List.length_cons, List.length_map]; have := ok.rows; omega
  · intro l hl
    unfold RecD.lines at hl
    rcases List.mem_cons.mp hl with z | z
    · rw [z]; exact Nat.le_trans (head_len ok.low ok.high) (by decide)
    · obtain ⟨x, hx, rfl⟩ := List.mem_map.mp z
      obtain ⟨h1, h2⟩ := ok.row x hx
      exact row_len h1 (by rw [h2]; exact ok.size)
theorem RowAt.put {H : Hp} {a b : Addr} {r : List Nat × List Bool} {xs : List V} {o : HO} (h : RowAt H a r) (hb : H b = some (.lst xs)) : RowAt (upd H b o) a r := by
  obtain ⟨bt, h1, h2⟩ := h
  exact ⟨bt, by rw [upd_ne (ne_of h1 hb (by intro y; cases y))]; exact h1, by rw [upd_ne (ne_of h2 hb (by intro y; cases y))]; exact h2⟩
theorem joinL_part (s : List Nat) : ∀ (x : List Nat) (xs : List (List Nat)) (p : List Nat), p ∈ x :: xs → p.length ≤ (joinL s (x :: xs)).length
  | x, [], p, h => by rw [List.mem_singleton.mp h]; exact Nat.le_refl _
  | x, y :: ys, p, h => by
    show p.length ≤ (x ++ (s ++ joinL s (y :: ys))).length
    rw [List.length_append, List.length_append]
    rcases List.mem_cons.mp h with z | z
    · rw [z]; omega
    · have := joinL_part s y ys p z; omega
theorem k32 : (mk [32]).cps.all (· < 256) = true := by decide +kernel
theorem k47 : (mk [47]).cps.all (· < 256) = true := by decide +kernel
theorem k10 : (mk [10]).cps.all (· < 256) = true := by decide +kernel
theorem part_len {s : Nat} {x : List Nat} {xs : List (List Nat)} {n : Nat} (h : (joinL [s] (x :: xs)).length ≤ n) : ∀ p ∈ x :: xs, p.length ≤ n := fun p hp => Nat.le_trans (joinL_part [s] x xs p hp) h
theorem join_count (s : List Nat) : ∀ (x : List Nat) (xs : List (List Nat)), xs.length * s.length ≤ (joinL s (x :: xs)).length
  | x, [] => by show 0 * _ ≤ _; omega
  | x, y :: ys => by
    have := join_count s y ys
    show (ys.length + 1) * s.length ≤ (x ++ (s ++ joinL s (y :: ys))).length
    rw [List.length_append, List.length_append, Nat.succ_mul]; omega
end G
namespace G
open PySem PySem.Spec PyProof.Rows L2 Evl TL
theorem RowAt.te {H H' : Hp} {a : Addr} {r : List Nat × List Bool} (h : RowAt H a r) (t : TupEx H H') : RowAt H' a r := by
  obtain ⟨bt, h1, h2⟩ := h
  exact ⟨bt, t _ _ h1, t _ _ h2⟩
theorem eqv_nilB (l : List Bool) : PyData.eqv (.list (l.map PyData.bool)) (.list []) = decide (l = []) := by
  cases l <;> simp [PyData.eqv, PyData.eqvAll]
theorem shaped_blsL (l : List Bool) : SeqAt.shaped (.list (l.map PyData.bool)) = true := by
  have : PyData.canLayAll0 (l.map PyData.bool) = true ∧ PyData.depthAll (l.map PyData.bool) = 0 := by
    induction l with
    | nil => exact ⟨rfl, rfl⟩
    | cons b bs h => exact ⟨by simp [PyData.canLayAll0, PyData.canLay0, h.1], by simp [PyData.depthAll, PyData.depth, h.2]⟩
  simp [SeqAt.shaped, PyData.canLay0, PyData.depth, this.1, this.2]
theorem dp_blsL {K : PySem.W.Frag} {H : Hp} {a : Addr} {l : List Bool} (h : H a = some (.lst (l.map V.bl))) : Dp K H (.ref a) (.list (l.map PyData.bool)) := .lst (SqL.of h) (dpAll_map (fun x => .bl x) l)
def partsL : List Str := ["reg", "cell", "out", "from", "to"]
theorem parts_word : ∀ k ∈ partsL, isWord (tl k) = true ∧ (tl k).length ≤ 20 := by decide +kernel
section
variable {P : Program} {w : World} {K : PySem.W.Frag} {mg : Str → Option Value} {base : Heap}
def spPart : Sp := fun vs H Q _ => ∃ (p a : Addr), vs = [.ref p] ∧ PoolOk p a H ∧ ∀ (T : List Nat) (H' : Hp), isWord T = true → T.length ≤ 20 → Px p a H H' → Q (.str (mk T)) H'
theorem sc_law_part : FnScope ["pool"] ["pool"] (defScope s_law_part) := ⟨rfl, rfl, rfl, by decide +kernel, rfl, by decide +kernel, by decide +kernel⟩
theorem ok_law_part (D : Dfd K mg "_law_part" s_law_part ["pool"]) (C1 : Has P w K mg base 2 "_law_draw" ["pool", "many"] spDrawX) (C2 : Has P w K mg base 3 "_law_word" ["pool"] spWord) : Has P w K mg base 4 "_law_part" ["pool"] spPart := by
  obtain ⟨f_law_draw, d_law_draw, G_law_draw, g_law_draw, k_law_draw, b_law_draw⟩ := C1
  obtain ⟨f_law_word, d_law_word, G_law_word, g_law_word, k_law_word, b_law_word⟩ := C2
  refine D.has fun f fd F => F.ok sc_law_part (fun vs H Q E h => ?_) (fun cdv A outer s H vs Q E hr h => ?_)
  · obtain ⟨_, _, rfl, _⟩ := h
    rfl
  · obtain ⟨p, a, rfl, hp, q⟩ := h
    refine ⟨_, (pss_cons (ps_if (pt_cmpR op_eq (pe_call G_law_draw (hr.mono (by omega)) (by rfl) g_law_draw k_law_draw b_law_draw .nil pass0 (pa_cons (pv 0) (pa_cons pe_int pa_nil))) pe_int (nomark _))
      (pss_one (ps_ret (pe_ix ix_list (pe_lst (pa_cons pe_str (pa_cons pe_str (pa_cons pe_str (pa_cons pe_str (pa_cons pe_str pa_nil)))))) (pe_call G_law_draw (hr.mono (by omega)) (by rfl) g_law_draw k_law_draw b_law_draw .nil pass0 (pa_cons (pv 0) (pa_cons pe_int pa_nil))) (fun _ _ => rfl))))
      pss_nil)
    (pss_one (ps_ret (pe_call G_law_word (hr.mono (by omega)) (by rfl) g_law_word k_law_word b_law_word .nil pass0 (pa_cons (pv 0) pa_nil))))), ?_⟩
    refine ⟨_, rfl, p, a, 4, rfl, by decide, by decide, hp, fun v H1 hv X1 _ => ⟨rfl, _, rfl, ite2 (fun c1 => ?_) (fun c1 => ?_)⟩⟩
    · refine ⟨(by show 5 ≤ sizeLine; decide), fun l nl => ⟨_, rfl, p, a, 5, rfl, by decide, by decide, (X1.new nl).pool, fun v2 H2 hv2 X2 k2 => ?_⟩⟩
      have hl2 : H2 l = some (.lst (partsL.map V.str)) := by rw [k2 _ (X1.pool.ne nl)]; exact upd_same
      have l5 : partsL.length = 5 := rfl
      obtain ⟨k, hk⟩ : ∃ k, partsL[v2]? = some k := ⟨_, List.getElem?_eq_getElem (by omega)⟩
      obtain ⟨h1, h2⟩ := parts_word k (List.mem_of_getElem? hk)
      refine ⟨_, _, _, _, rfl, rfl, SqL.of hl2, at_of (j := v2) rfl (by rw [List.getElem?_map, hk]; rfl), ?_⟩
      have := q (tl k) H2 h1 h2 ((X1.new nl).trans X2)
      rw [mk_tlS] at this
      exact this
    · exact ⟨_, rfl, p, a, rfl, X1.pool, fun T H2 hT _ hTl X2 => q T H2 hT hTl (X1.trans X2)⟩
def spRecord : Sp := fun vs H Q _ => ∃ (p a : Addr), vs = [.ref p] ∧ PoolOk p a H ∧ ∀ (c : Addr) (r : RecD) (H' : Hp), Px p a H H' → RecOk r → RecAt H' c r → Q (.ref c) H'
theorem sc_law_record : FnScope ["pool", "low", "size", "rows", "k", "j", "name", "bits", "bit"] ["pool"] (defScope s_law_record) := ⟨rfl, rfl, rfl, by decide +kernel, rfl, by decide +kernel, by decide +kernel⟩
theorem ok_law_record (D : Dfd K mg "_law_record" s_law_record ["pool"]) (T : TxtS mg) (C1 : Has P w K mg base 2 "_law_draw" ["pool", "many"] spDrawXL) (C2 : Has P w K mg base 4 "_law_part" ["pool"] spPart) : Has P w K mg base 5 "_law_record" ["pool"] spRecord := by
  obtain ⟨f_law_draw, d_law_draw, G_law_draw, g_law_draw, k_law_draw, b_law_draw⟩ := C1
  obtain ⟨f_law_part, d_law_part, G_law_part, g_law_part, k_law_part, b_law_part⟩ := C2
  refine D.has fun f fd F => F.ok sc_law_record (fun vs H Q E h => ?_) (fun cdv A outer s H vs Q E hr h => ?_)
  · obtain ⟨_, _, rfl, _⟩ := h
    rfl
  · obtain ⟨p, a, rfl, hp, q⟩ := h
    refine ⟨_, (pss_cons (ps_set (i := 1) sc_law_record.nd rfl (.inl rfl) (pe_ix ix_list (pe_lst (pa_cons (pe_op op_sub (pe_call G_law_draw (hr.mono (by omega)) (by rfl) g_law_draw k_law_draw b_law_draw .nil pass0 (pa_cons (pv 0) (pa_cons pe_int pa_nil))) pe_int) (pa_cons (pe_call G_law_draw (hr.mono (by omega)) (by rfl) g_law_draw k_law_draw b_law_draw .nil pass0 (pa_cons (pv 0) (pa_cons (pe_op op_pow pe_int pe_int) pa_nil))) (pa_cons (pe_un un_neg (pe_call G_law_draw (hr.mono (by omega)) (by rfl) g_law_draw k_law_draw b_law_draw .nil pass0 (pa_cons (pv 0) (pa_cons (pe_op op_pow pe_int pe_int) pa_nil)))) pa_nil)))) (pe_call G_law_draw (hr.mono (by omega)) (by rfl) g_law_draw k_law_draw b_law_draw .nil pass0 (pa_cons (pv 0) (pa_cons pe_int pa_nil))) (fun _ _ => rfl)))
    (pss_cons (ps_set (i := 2) sc_law_record.nd rfl (.inl rfl) (pe_op op_add pe_int (pe_ix ix_list (pe_lst (pa_cons (pe_call G_law_draw (hr.mono (by omega)) (by rfl) g_law_draw k_law_draw b_law_draw .nil pass0 (pa_cons (pv 0) (pa_cons pe_int pa_nil))) (pa_cons (pe_call G_law_draw (hr.mono (by omega)) (by rfl) g_law_draw k_law_draw b_law_draw .nil pass0 (pa_cons (pv 0) (pa_cons pe_int pa_nil))) pa_nil))) (pe_call G_law_draw (hr.mono (by omega)) (by rfl) g_law_draw k_law_draw b_law_draw .nil pass0 (pa_cons (pv 0) (pa_cons pe_int pa_nil))) (fun _ _ => rfl))))
    (pss_cons (ps_set (i := 3) sc_law_record.nd rfl (.inl rfl) (pe_lst pa_nil))
    (pss_cons (ps_for PassesOwn.never rfl (pi_range1 rfl T.range (pa_cons (pe_call G_law_draw (hr.mono (by omega)) (by rfl) g_law_draw k_law_draw b_law_draw .nil pass0 (pa_cons (pv 0) (pa_cons pe_int pa_nil))) pa_nil)) (pg_name (i := 4) sc_law_record.nd rfl (.inl rfl))
      (pss_cons (ps_set (i := 6) sc_law_record.nd rfl (.inl rfl) (pe_join pe_str (pe_lc (own := [("j", 5)]) (g := gName 5) (tt := tYes) rfl sc_law_record.nd (pi_range1 rfl T.range (pa_cons (pe_op op_add pe_int (pe_call G_law_draw (hr.mono (by omega)) (by rfl) g_law_draw k_law_draw b_law_draw .nil pass0 (pa_cons (pv 0) (pa_cons pe_int pa_nil)))) pa_nil)) (blkOk_by (N := ["pool", "low", "size", "rows", "k", "j", "name", "bits", "bit"]) (sc := defScope s_law_record) (own := [("j", 5)]) (by decide +kernel)) (fun _ _ _ _ _ => (pg_name (i := 5) sc_law_record.nd rfl (.inl rfl))) (fun _ _ _ _ _ => pts_nil) (fun _ _ _ _ _ => (pe_call G_law_part (hr.mono (by omega)) (by rfl) g_law_part k_law_part b_law_part .nil pass0 (pa_cons (pv 0) pa_nil))))))
      (pss_cons (ps_set (i := 7) sc_law_record.nd rfl (.inl rfl) (pe_lst pa_nil))
      (pss_cons (ps_for PassesOwn.never rfl (pi_range1 rfl T.range (pa_cons (pv 2) pa_nil)) (pg_name (i := 5) sc_law_record.nd rfl (.inl rfl))
        (pss_cons (ps_set (i := 8) sc_law_record.nd rfl (.inl rfl) (pe_cmpR op_eq (pe_call G_law_draw (hr.mono (by omega)) (by rfl) g_law_draw k_law_draw b_law_draw .nil pass0 (pa_cons (pv 0) (pa_cons pe_int pa_nil))) pe_int (nomark _)))
        (pss_cut (ps_if (PW.pt (pw_and (pt_cmpR (op_neD hr.units) (pv 7) (pe_lst pa_nil) (nomark _)) (pw_and1 (pt_cmpR op_gt (pe_call G_law_draw (hr.mono (by omega)) (by rfl) g_law_draw k_law_draw b_law_draw .nil pass0 (pa_cons (pv 0) (pa_cons pe_int pa_nil))) pe_int (nomark _)))))
          (pss_one (ps_set (i := 8) sc_law_record.nd rfl (.inl rfl) (pe_ix ix_list (pv 7) (pe_un un_neg pe_int) (fun _ _ => rfl))))
          pss_nil)
        (pss_one (ps_expr (pe_bm PySem.F.plainAttrs_list PySem.F.slot_list_append PySem.F.type_list_append mt_append (pv 7) (pa_cons (pv 8) pa_nil)))))))
      (pss_one (ps_expr (pe_bm PySem.F.plainAttrs_list PySem.F.slot_list_append PySem.F.type_list_append mt_append (pv 3) (pa_cons (pe_tup (pa_cons (pv 6) (pa_cons (pe_callTy call_tuple_of (by rfl) T.tuple (by decide +kernel) (pa_cons (pv 7) pa_nil)) pa_nil))) pa_nil))))))))
    (pss_one (ps_ret (pe_tup (pa_cons (pv 1) (pa_cons (pe_op op_sub (pe_op op_add (pv 1) (pv 2)) pe_int) (pa_cons (pe_callTy call_tuple_of (by rfl) T.tuple (by decide +kernel) (pa_cons (pv 3) pa_nil)) pa_nil)))))))))), ?_⟩
    refine ⟨_, rfl, p, a, 9, rfl, by decide, by decide, hp, fun v1 H1 h1 X1 _ => ⟨_, _, rfl, rfl, _, rfl, _, _, rfl, rfl, ⟨by decide, by decide, by decide⟩, p, a, _, rfl, by decide +kernel, by decide +kernel, X1.pool, fun v2 H2 h2 X2 _ => ⟨_, rfl, _, _, rfl, rfl, ⟨by decide, by decide, by decide +kernel⟩, p, a, _, rfl, by decide +kernel, by decide +kernel, X2.pool, fun v3 H3 h3 X3 _ => ⟨_, rfl, (by show 3 ≤ sizeLine; decide), fun l nl => ?_⟩⟩⟩⟩
    have X13 := (X1.trans (X2.trans X3)).new (o := .lst [.int ((v1 : Nat) - 4), .int (v2 : Nat), .int (-((v3 : Nat) : Int))]) nl
    refine ⟨_, rfl, p, a, 3, rfl, by decide, by decide, X13.pool, fun v4 H4 hv4 X4 k4 => ?_⟩
    have hl4 : H4 l = some (.lst [.int ((v1 : Nat) - 4), .int (v2 : Nat), .int (-((v3 : Nat) : Int))]) := by rw [k4 _ (X3.pool.ne nl)]; exact upd_same
    have h2' : v2 < 10 ^ 15 := by
      have h2 : (v2 : Int) < (10 : Int) ^ 15 := h2
      have e : (10 : Int) ^ 15 = ((10 ^ 15 : Nat) : Int) := by decide +kernel
      rw [e] at h2
      exact Int.ofNat_lt.mp h2
    have h3' : v3 < 10 ^ 40 := by
      have h3 : (v3 : Int) < (10 : Int) ^ 40 := h3
      have e : (10 : Int) ^ 40 = ((10 ^ 40 : Nat) : Int) := by decide +kernel
      rw [e] at h3
      exact Int.ofNat_lt.mp h3
    have p40 : (10 : Nat) ^ 15 ≤ 10 ^ 40 := by decide +kernel
    have p9 : 9 ≤ (10 : Nat) ^ 40 := by decide +kernel
    obtain ⟨low, hlow, fewl⟩ : ∃ low : Int, ([.int ((v1 : Nat) - 4), .int (v2 : Nat), .int (-((v3 : Nat) : Int))] : List V)[v4]? = some (.int low) ∧ low.natAbs ≤ 10 ^ 40 := by
      generalize (10 : Nat) ^ 40 = Z at *
      match v4, hv4 with
      | 0, _ => exact ⟨_, rfl, by omega⟩
      | 1, _ => exact ⟨_, rfl, by omega⟩
      | 2, _ => exact ⟨_, rfl, by omega⟩
      | n + 3, h => exact absurd h (by omega)
    refine ⟨_, _, _, _, rfl, rfl, SqL.of hl4, at_of (j := v4) rfl hlow, ?_⟩
    have X04 := X13.trans X4
    refine ⟨_, rfl, p, a, 9, rfl, by decide, by decide, X4.pool, fun u1 H5 hu1 X5 _ => ⟨_, rfl, p, a, 40, rfl, by decide, by decide, X5.pool, fun u2 H6 hu2 X6 _ => ⟨(by show 2 ≤ sizeLine; decide), fun l2 nl2 => ⟨_, rfl, p, a, 2, rfl, by decide, by decide, (X6.new nl2).pool, fun u3 H7 hu3 X7 k7 => ?_⟩⟩⟩⟩
    have hl7 : H7 l2 = some (.lst [.int (u1 : Nat), .int (u2 : Nat)]) := by rw [k7 _ (X6.pool.ne nl2)]; exact upd_same
    obtain ⟨u, hu, hu40⟩ : ∃ u : Nat, ([.int (u1 : Nat), .int (u2 : Nat)] : List V)[u3]? = some (.int (u : Nat)) ∧ u < 40 := by
      match u3, hu3 with
      | 0, _ => exact ⟨u1, rfl, by omega⟩
      | 1, _ => exact ⟨u2, rfl, by omega⟩
      | n + 2, h => exact absurd h (by omega)
    have X07 := X04.trans ((X5.trans (X6.new nl2)).trans X7)
    refine ⟨_, _, _, _, rfl, rfl, SqL.of hl7, at_of (j := u3) rfl hu, _, _, rfl, rfl, Nat.zero_le _, fun R nR => ?_⟩
    have XR : Px p a H7 (upd H7 R (.lst [])) := (Px.refl X7.pool).new nR
    have Rp : R ≠ p := X7.pool.ne nR
    refine ⟨_, rfl, p, a, 5, rfl, by decide, by decide, XR.pool, fun m H9 hm X9 k9 => ⟨_, rfl, by omega, by omega, for_range (n := ((m : Nat) : Int).toNat)
      (fun k σ H' => Px p a H7 H' ∧ ∃ (ra : List Addr) (rows : List (List Nat × List Bool)) (y4 y5 y6 y7 y8 : Option V), H' R = some (.lst (ra.map V.ref)) ∧ All2 (RowAt H') ra rows ∧ rows.length = k ∧ (∀ x ∈ rows, NameL x.1 ∧ x.2.length = 1 + u) ∧
        σ = [some (.ref p), some (.int low), some (.int ((1 + u : Nat) : Int)), some (.ref R), y4, y5, y6, y7, y8])
      ⟨XR.trans X9, [], [], _, _, _, _, _, (by rw [k9 _ Rp]; exact upd_same), .nil, rfl, (fun _ h => nomatch h), rfl⟩ ?_ ?_⟩⟩
    · rintro k σ H10 hk ⟨X10, ra, rows, y4, y5, y6, y7, y8, hR, hA, hrl, hrows, rfl⟩
      rw [Int.toNat_natCast] at hk
      refine ⟨⟨_, rfl⟩, _, rfl, p, a, 3, rfl, by decide, by decide, X10.pool, fun n3 H11 hn3 X11 _ => ⟨_, _, rfl, rfl, _, rfl, by omega, by omega, fun L nL => ?_⟩⟩
      have XL : Px p a H11 (upd H11 L (.lst [])) := (Px.refl X11.pool).new nL
      have Lp : L ≠ p := X11.pool.ne nL
      refine lc_range (lo := 0) (n := ((1 : Int) + (n3 : Int)).toNat) (fun j H' => Px p a H11 H' ∧ ∃ parts : List (List Nat), H' L = some (.lst (strV parts)) ∧ parts.length = j ∧ ∀ T ∈ parts, isWord T = true ∧ T.length ≤ 20) ⟨XL, [], upd_same, rfl, (fun _ h => nomatch h)⟩ ?_ ?_
      · rintro j H12 hj ⟨X12, parts, hL, hpl, hpw⟩
        refine ⟨rfl, tYes_in ?_⟩
        simp only [wipe, _root_.L2.start, List.map_cons, List.map_nil, List.length_cons, List.length_nil, Nat.reduceAdd, Nat.reduceSub, List.replicate_succ, List.replicate_zero, List.cons_append, List.nil_append, List.set_cons_zero, List.set_cons_succ]
        refine ⟨_, rfl, p, a, rfl, X12.pool, fun T1 H13 hT1 hT2 X13 => ?_⟩
        have hL13 : H13 L = some (.lst (strV parts)) := X13.at_ (by rw [hid_ne Lp]; exact hL)
        refine ⟨_, hL13, sz_lt (by unfold strV; rw [List.length_map]; omega), (X12.trans X13).mut nL, parts ++ [T1], by rw [upd_same]; unfold strV; rw [List.map_append]; rfl, by rw [List.length_append, hpl]; rfl, fun T hT => ?_⟩
        rcases List.mem_append.mp hT with z | z
        · exact hpw T z
        · rw [List.mem_singleton.mp z]; exact ⟨hT1, hT2⟩
      rintro H12 ⟨X12, parts, hL, hpl, hpw⟩
      have hpl3 : parts.length = 1 + n3 := by omega
      have hL' : H12 L = some (.lst ((parts.map mk).map V.str)) := by rw [hL, List.map_map]; rfl
      refine ⟨_, L, parts.map mk, rfl, rfl, .inl (SqL.of hL'), ?_, ?_⟩
      · have hs := sum_len (m := 20) parts fun p hp => (hpw p hp).2
        have e1 : ("/" : Str).length = 1 := by decide +kernel
        rw [List.length_map, e1, Nat.mul_one]
        omega
      obtain ⟨x, xs, hxs⟩ : ∃ x xs, parts = x :: xs := List.exists_cons_of_ne_nil fun z => by rw [z] at hpl3; simp at hpl3; omega
      have hname : Txt.join ("/" : Str) (parts.map mk) = mk (joinL [47] (x :: xs)) := by rw [hxs]; exact join_mk [47] _ _
      have hN : NameL (joinL [47] (x :: xs)) := ⟨x, xs, rfl, by rw [hxs] at hpl3; rw [List.length_cons] at hpl3; omega, fun p hp => hpw p (by rw [hxs]; exact hp)⟩
      rw [hname]
      generalize joinL [47] (x :: xs) = nm at *
      have X712 := X10.trans (X11.trans X12)
      have hR12 : H12 R = some (.lst (ra.map V.ref)) := (X11.trans X12).at_ (by rw [hid_ne Rp]; exact hR)
      have hA12 := hA.imp fun _ _ z => z.te (X11.trans X12).tup
      refine ⟨Nat.zero_le _, fun Bl nB => ?_⟩
      have XB : Px p a H12 (upd H12 Bl (.lst [])) := (Px.refl X12.pool).new nB
      have Bp : Bl ≠ p := X12.pool.ne nB
      refine ⟨_, rfl, _, rfl, by omega, by omega, for_range (n := (((1 + u : Nat) : Int)).toNat)
        (fun j σ H' => Px p a H12 H' ∧ ∃ (bits : List Bool) (y5 y8 : Option V), H' Bl = some (.lst (bits.map V.bl)) ∧ bits.length = j ∧ σ = [some (.ref p), some (.int low), some (.int ((1 + u : Nat) : Int)), some (.ref R), some (.int (0 + ((k : Nat) : Int))), y5, some (.str (mk nm)), some (.ref Bl), y8])
        ⟨XB, [], _, _, upd_same, rfl, rfl⟩ ?_ ?_⟩
      · rintro j σ H13 hj ⟨X13, bits, y5, y8, hB, hbl, rfl⟩
        rw [Int.toNat_natCast] at hj
        refine ⟨_, rfl, p, a, 2, rfl, by decide, by decide, X13.pool, fun b0 H14 _ X14 _ => ⟨rfl, ?_⟩⟩
        generalize decide (V.int ((b0 : Nat) : Int) = V.int 1) = bt
        have hB14 : H14 Bl = some (.lst (bits.map V.bl)) := X14.at_ (by rw [hid_ne Bp]; exact hB)
        have X1214 := X13.trans X14
        refine ⟨fun σ H' => Px p a H12 H' ∧ H' Bl = some (.lst (bits.map V.bl)) ∧ ∃ bt : Bool, σ = [some (.ref p), some (.int low), some (.int ((1 + u : Nat) : Int)), some (.ref R), some (.int (0 + ((k : Nat) : Int))), some (.int (0 + ((j : Nat) : Int))), some (.str (mk nm)), some (.ref Bl), some (.bl bt)], ?_, ?_⟩
        · refine ⟨_, rfl, Nat.zero_le _, fun e ne => ?_⟩
          have X15 := X1214.new (o := .lst []) ne
          have eB : e ≠ Bl := fun z => by rw [z, hB14] at ne; cases ne
          have hB15 : upd H14 e (.lst []) Bl = some (.lst (bits.map V.bl)) := by rw [upd_ne eB.symm]; exact hB14
          refine ⟨_, _, dp_blsL hB15, dp_blsL (l := []) upd_same, shaped_blsL _, shaped_blsL [], _, rfl, ite2 (fun c1 => ?_) (fun c1 => ⟨X15, hB15, bt, rfl⟩)⟩
          have hne : bits ≠ [] := fun z => by
            rw [z] at c1
            exact absurd c1 (by decide +kernel)
          refine ⟨_, rfl, p, a, 3, rfl, by decide, by decide, X15.pool, fun z H16 _ X16 _ => ⟨_, _, rfl, rfl, _, rfl, ite2 (fun c2 => ?_) (fun c2 => ?_)⟩⟩
          · have hB16 : H16 Bl = some (.lst (bits.map V.bl)) := X16.at_ (by rw [hid_ne Bp]; exact hB15)
            rcases snoc_cases bits with rfl | ⟨bs, b1, rfl⟩
            · exact absurd rfl hne
            have hB17 : H16 Bl = some (.lst (bs.map V.bl ++ [.bl b1])) := by rw [hB16, List.map_append]; rfl
            exact ⟨_, rfl, _, rfl, _, _, _, _, rfl, rfl, SqL.of hB17, atI_last _ _, X15.trans X16, hB16, b1, rfl⟩
          · exact ⟨X15.trans X16, X16.at_ (by rw [hid_ne Bp]; exact hB15), bt, rfl⟩
        · rintro σ H15 ⟨X15, hB15, bt, rfl⟩
          refine ⟨_, rfl, .inl ⟨rfl, _, SqL.of hB15⟩, _, rfl, Bl, _, _, rfl, rfl, hB15, sz_lt (by rw [List.length_map]; omega), X15.mut nB, bits ++ [bt], _, _, by rw [upd_same, List.map_append]; rfl, by rw [List.length_append, hbl]; rfl, rfl⟩
      · rintro σ H13 ⟨X13, bits, y5, y8, hB, hbl, rfl⟩
        rw [Int.toNat_natCast] at hbl
        have hR13 : H13 R = some (.lst (ra.map V.ref)) := X13.at_ (by rw [hid_ne Rp]; exact hR12)
        have hA13 := hA12.imp fun _ _ z => z.te X13.tup
        refine ⟨_, rfl, .inl ⟨rfl, _, SqL.of hR13⟩, _, rfl, _, rfl, _, _, rfl, .inl ⟨SqL.of hB, fun bt nbt => ⟨(by show 2 ≤ sizeLine; decide), fun c nc => ?_⟩⟩⟩
        have E14 : Ex H13 (upd H13 bt (.tup (bits.map V.bl))) := Ex.new nbt
        have E15 := E14.trans (Ex.new nc (o := .tup [.str (mk nm), .ref bt]))
        have hrow : RowAt (upd (upd H13 bt (.tup (bits.map V.bl))) c (.tup [.str (mk nm), .ref bt])) c (nm, bits) := ⟨bt, upd_same, (Ex.new nc) _ _ upd_same⟩
        generalize upd (upd H13 bt (.tup (bits.map V.bl))) c (.tup [.str (mk nm), .ref bt]) = H15 at *
        have hR15 := E15 _ _ hR13
        refine ⟨R, _, _, rfl, rfl, hR15, sz_lt (by rw [List.length_map, hA.1]; omega), ((X712.trans X13).more E15).mut nR, ra ++ [c], rows ++ [(nm, bits)], _, _, _, _, _, by rw [upd_same, List.map_append]; rfl, ?_, by rw [List.length_append, hrl]; rfl, fun x hx => ?_, rfl⟩
        · exact (hA13.imp fun _ _ z => (z.ex E15).put hR15).snoc (hrow.put hR15)
        · rcases List.mem_append.mp hx with z | z
          · exact hrows x z
          · rw [List.mem_singleton.mp z]; exact ⟨hN, hbl⟩
    · rintro σ H10 ⟨X10, ra, rows, y4, y5, y6, y7, y8, hR, hA, hrl, hrows, rfl⟩
      rw [Int.toNat_natCast] at hrl
      refine ⟨_, rfl, _, rfl, _, rfl, _, _, rfl, rfl, _, _, rfl, rfl, _, rfl, _, _, rfl, .inl ⟨SqL.of hR, fun rt nrt => ⟨(by show 3 ≤ sizeLine; decide), fun c nc => ?_⟩⟩⟩
      have E1 : Ex H10 (upd H10 rt (.tup (ra.map V.ref))) := Ex.new nrt
      have E2 := E1.trans (Ex.new nc (o := .tup [.int low, .int (low + ((1 + u : Nat) : Int) - 1), .ref rt]))
      have p60 : (10 : Nat) ^ 40 + 41 < 10 ^ 60 := by decide +kernel
      refine q c ⟨low, 1 + u, rows⟩ _ ((X07.trans X10).more E2) ⟨?_, ?_, by show 1 ≤ 1 + u; omega, by show 1 + u ≤ 41; omega, by show rows.length ≤ 4; omega, hrows⟩ ⟨rt, ra, upd_same, (Ex.new nc) _ _ upd_same, hA.imp fun _ _ z => z.ex E2⟩
      · show low.natAbs < 10 ^ 60
        generalize (10 : Nat) ^ 40 = Z at *
        generalize (10 : Nat) ^ 60 = Y at *
        omega
      · show (low + ((1 + u : Nat) : Int) - 1).natAbs < 10 ^ 60
        generalize (10 : Nat) ^ 40 = Z at *
        generalize (10 : Nat) ^ 60 = Y at *
        omega
end
end G
namespace G
open PySem PySem.Spec PyProof.Rows L2 Evl TL
/-! ### rows as data -/
def rowPK (x : List Nat × List Bool) : PyData := .tuple [.str (mk x.1), .tuple (x.2.map PyData.bool)]
theorem strOk_mkK {l : List Nat} (h : ∀ c ∈ l, c < 200) : PyData.strOk (mk l) = true := by
  unfold PyData.strOk
  rw [Array.all_eq_true']
  intro c hc
  have hc : c ∈ l := by
    have := Array.mem_toList_iff.mpr hc
    rwa [show (mk l).cps.toList = l from tl_mkS l] at this
  have := h c hc
  simp
  omega
theorem bls_shape (l : List Bool) : PyData.canLayAll0 (l.map PyData.bool) = true ∧ PyData.depthAll (l.map PyData.bool) = 0 := by
  induction l with
  | nil => exact ⟨rfl, rfl⟩
  | cons b bs h => exact ⟨by simp [PyData.canLayAll0, PyData.canLay0, h.1], by simp [PyData.depthAll, PyData.depth, h.2]⟩
theorem row_shapeK {x : List Nat × List Bool} (h : ∀ c ∈ x.1, c < 200) : PyData.canLay0 (rowPK x) = true ∧ PyData.depth (rowPK x) ≤ 2 := by
  obtain ⟨a1, a2⟩ := bls_shape x.2
  have := strOk_mkK h
  constructor
  · simp [rowPK, PyData.canLay0, PyData.canLayAll0, this, a1]
  · simp [rowPK, PyData.depth, PyData.depthAll, a2]
theorem rows_shapeK : ∀ {l : List (List Nat × List Bool)}, (∀ x ∈ l, ∀ c ∈ x.1, c < 200) → PyData.canLayAll0 (l.map rowPK) = true ∧ PyData.depthAll (l.map rowPK) ≤ 2
  | [], _ => ⟨rfl, Nat.zero_le _⟩
  | x :: l, h => by
    obtain ⟨a, b⟩ := row_shapeK (h x List.mem_cons_self)
    obtain ⟨c, d⟩ := rows_shapeK (l := l) fun y hy => h y (List.mem_cons_of_mem _ hy)
    constructor
    · simp [PyData.canLayAll0, a, c]
    · simp only [List.map_cons, PyData.depthAll]
      omega
theorem rows_shapedK {l : List (List Nat × List Bool)} (h : ∀ x ∈ l, ∀ c ∈ x.1, c < 200) : SeqAt.shaped (.tuple (l.map rowPK)) = true := by
  obtain ⟨a, b⟩ := rows_shapeK h
  unfold SeqAt.shaped
  rw [Bool.and_eq_true]
  refine ⟨by simp [PyData.canLay0, a], decide_eq_true ?_⟩
  simp only [PyData.depth]
  omega
theorem dpAll_rowsK {K : PySem.W.Frag} {H : Hp} : ∀ (fa : List Addr) (l : List (List Nat × List Bool)), All2 (RowAt H) fa l → DpAll K H (fa.map V.ref) (l.map rowPK)
  | [], [], _ => .nil
  | [], _ :: _, h => absurd h.1 (by simp)
  | _ :: _, [], h => absurd h.1 (by simp)
  | a :: fa, x :: l, h => .cons (by
      obtain ⟨bt, h1, h2⟩ := h.2 0 a x rfl rfl
      exact .tup (SqT.of h1) (.cons (.str _) (.cons (.tup (SqT.of h2) (dpAll_map (fun x => .bl x) _)) .nil))) (dpAll_rowsK fa l ⟨by simpa using h.1, fun i b y hb hy => h.2 (i + 1) b y hb hy⟩)
theorem eqv_nilT (l : List PyData) : PyData.eqv (.tuple l) (.tuple []) = l.isEmpty := by
  cases l <;> simp [PyData.eqv, PyData.eqvAll]
theorem run_smallK : ∀ c ∈ tl sRUN, c < 200 := by decide +kernel
theorem name_smallK {n : List Nat} (h : NameL n) : ∀ c ∈ n, c < 200 := fun c hc => by
  by_cases h47 : c = 47
  · omega
  · cases hr : isRun c with
    | true => exact run_smallK c (of_decide_eq_true hr)
    | false => exact absurd hc (name_free h hr h47)
theorem shaped_strsL {xs : List Str} (h : ∀ x ∈ xs, PyData.strOk x = true) : SeqAt.shaped (.list (xs.map PyData.str)) = true := by
  have : PyData.canLayAll0 (xs.map PyData.str) = true ∧ PyData.depthAll (xs.map PyData.str) = 0 := by
    induction xs with
    | nil => exact ⟨rfl, rfl⟩
    | cons x xs ih =>
      obtain ⟨a, b⟩ := ih fun y hy => h y (List.mem_cons_of_mem _ hy)
      exact ⟨by show (PyData.strOk x && PyData.canLayAll0 _) = true; rw [h x (List.mem_cons_self ..), a]; rfl, by show max 0 (PyData.depthAll _) = 0; rw [b]; rfl⟩
  simp [SeqAt.shaped, PyData.canLay0, PyData.depth, this.1, this.2]
theorem dp_strsL {K : PySem.W.Frag} {H : Hp} {a : Addr} {xs : List Str} (h : SqL K H a (xs.map V.str)) : Dp K H (.ref a) (.list (xs.map PyData.str)) := .lst h (dpAll_map (fun x => .str x) xs)
theorem eqvAll_strs : ∀ xs ys : List Str, PyData.eqvAll (xs.map PyData.str) (ys.map PyData.str) = decide (xs = ys)
  | [], [] => by simp [PyData.eqvAll]
  | [], y :: ys => by simp [PyData.eqvAll]
  | x :: xs, [] => by simp [PyData.eqvAll]
  | x :: xs, y :: ys => by
    have : (x == y) = decide (x = y) := by rw [Bool.eq_iff_iff]; simp
    simp [PyData.eqvAll, PyData.eqv, eqvAll_strs xs ys, this]
theorem eqv_strsG (xs ys : List Str) : PyData.eqv (.list (xs.map PyData.str)) (.list (ys.map PyData.str)) = decide (xs = ys) := by
  simp [PyData.eqv, eqvAll_strs]
end G
namespace G
open PySem PySem.Spec PyProof.Rows L2 Evl TL
/-! ## records cut -/
structure TxtV (mg : Str → Option Value) : Prop where
  zip : mg "zip" = none
  tuple : mg "tuple" = none
  max : mg "max" = none
  min : mg "min" = none
  any : mg "any" = none
  list : mg "list" = none
  len : mg "len" = none
  range : mg "range" = none
  isinstance : mg "isinstance" = none
structure RcOk (r : RecD) : Prop where
  one : 1 ≤ r.size
  size : r.size ≤ 82
  rows : r.rows.length ≤ 5
  row : ∀ x ∈ r.rows, NameL x.1 ∧ x.2.length = r.size
theorem rcOk {r : RecD} (ok : RecOk r) : RcOk r := ⟨ok.one, by have := ok.size; omega, by have := ok.rows; omega, ok.row⟩
/-- the bits of the times from lo to hi, the first of them being of the time low -/
def slB (low : Int) (l : List Bool) (lo hi : Int) : List Bool := (l.drop (lo - low).toNat).take (hi - lo + 1).toNat
def subR (r : RecD) (lo hi : Int) : RecD := ⟨lo, (hi - lo + 1).toNat, r.rows.map fun x => (x.1, slB r.low x.2 lo hi)⟩
theorem slB_len {low : Int} {l : List Bool} {lo hi : Int} {n : Nat} (hl : l.length = n) (h1 : low ≤ lo) (h2 : lo ≤ hi) (h3 : hi ≤ low + n - 1) : (slB low l lo hi).length = (hi - lo + 1).toNat := by
  unfold slB
  rw [List.length_take, List.length_drop]
  omega
theorem subR_high {r : RecD} {lo hi : Int} (h : lo ≤ hi) : (subR r lo hi).high = hi := by
  show lo + ((hi - lo + 1).toNat : Int) - 1 = hi
  omega
theorem subR_ok {r : RecD} {lo hi : Int} (ok : RcOk r) (h1 : r.low ≤ lo) (h2 : lo ≤ hi) (h3 : hi ≤ r.high) : RcOk (subR r lo hi) := by
  have h3 : hi ≤ r.low + (r.size : Int) - 1 := h3
  have hs := ok.size
  refine ⟨?_, ?_, ?_, fun x hx => ?_⟩
  · show 1 ≤ (hi - lo + 1).toNat
    omega
  · show (hi - lo + 1).toNat ≤ 82
    omega
  · show (r.rows.map _).length ≤ 5
    rw [List.length_map]; exact ok.rows
  · obtain ⟨y, hy, rfl⟩ := List.mem_map.mp (show x ∈ r.rows.map _ from hx)
    obtain ⟨a, b⟩ := ok.row y hy
    exact ⟨a, slB_len b h1 h2 h3⟩
theorem cutV_both {xs : List V} {i j : Nat} (h : i ≤ xs.length) (h2 : j ≤ xs.length) : cutV xs (some (i : Int)) (some (j : Int)) = (xs.drop i).take (j - i) := by
  unfold cutV
  rw [HT.sIx_nat, HT.sIx_nat, Nat.min_eq_left h, Nat.min_eq_left h2]
/-- bits[lo - low:hi - low + 1] -/
theorem cut_bits {low : Int} {l : List Bool} {lo hi : Int} {n : Nat} (hl : l.length = n) (h1 : low ≤ lo) (h2 : lo ≤ hi) (h3 : hi ≤ low + n - 1) : cutV (l.map V.bl) (some (lo - low)) (some (hi - low + 1)) = (slB low l lo hi).map V.bl := by
  have e1 : lo - low = (((lo - low).toNat : Nat) : Int) := by omega
  have e2 : hi - low + 1 = (((hi - low + 1).toNat : Nat) : Int) := by omega
  rw [e1, e2, cutV_both (by rw [List.length_map]; omega) (by rw [List.length_map]; omega)]
  unfold slB
  rw [List.map_take, List.map_drop]
  congr 1
  omega
section
variable {P : Program} {w : World} {K : PySem.W.Frag} {mg : Str → Option Value} {base : Heap}
def spBetween : Sp := fun vs H Q _ => ∃ (a : Addr) (r : RecD) (lo hi : Int), vs = [.ref a, .int lo, .int hi] ∧ RecAt H a r ∧ RcOk r ∧ r.low ≤ lo ∧ lo ≤ hi ∧ hi ≤ r.high ∧
  ∀ (rt : Addr) (ra : List Addr) (H' : Hp), Ex H H' → H' rt = some (.tup (ra.map V.ref)) → All2 (RowAt H') ra (subR r lo hi).rows → Q (.ref rt) H'
theorem sc_between : FnScope ["record", "low", "high", "start", "_", "rows", "name", "bits"] ["record", "low", "high"] (defScope s_between) := ⟨rfl, rfl, rfl, by decide +kernel, rfl, by decide +kernel, by decide +kernel⟩
theorem ok_between (D : Dfd K mg "_between" s_between ["record", "low", "high"]) (T : TxtS mg) : Has P w K mg base 1 "_between" ["record", "low", "high"] spBetween := by
  refine D.has fun f fd F => F.ok sc_between (fun vs H Q E h => ?_) (fun cdv A outer s H vs Q E hr h => ?_)
  · obtain ⟨_, _, _, _, rfl, _⟩ := h
    rfl
  · obtain ⟨a, r, lo, hi, rfl, hrec, ok, h1, h2, h3, q⟩ := h
    refine ⟨_, (pss_cons (ps_asg (pv 0) (pg_tup rfl (pgs_cons (pg_name (i := 3) sc_between.nd rfl (.inr rfl)) (pgs_cons (pg_name (i := 4) sc_between.nd rfl (.inl rfl)) (pgs_cons (pg_name (i := 5) sc_between.nd rfl (.inl rfl)) pgs_nil)))))
    (pss_one (ps_ret (pe_callTy call_tuple_of (by rfl) T.tuple (by decide +kernel) (pa_cons (pe_lc (own := [("name", 6), ("bits", 7)]) (g := gTup K 2 (gCons (gName 6) (gCons (gName 7) gNil))) (tt := tYes) rfl sc_between.nd (pi_tup (pv 5)) (blkOk_by (N := ["record", "low", "high", "start", "_", "rows", "name", "bits"]) (sc := defScope s_between) (own := [("name", 6), ("bits", 7)]) (by decide +kernel)) (fun _ _ _ _ _ => (pg_tup rfl (pgs_cons (pg_name (i := 6) sc_between.nd rfl (.inl rfl)) (pgs_cons (pg_name (i := 7) sc_between.nd rfl (.inl rfl)) pgs_nil)))) (fun _ _ _ _ _ => pts_nil) (fun _ _ _ _ _ => (pe_tup (pa_cons (pv 6) (pa_cons (pe_slice (kSlA (K := K) rfl) (pv 7) (po_some (pe_op op_sub (pv 1) (pv 3))) (po_some (pe_op op_add (pe_op op_sub (pv 2) (pv 3)) pe_int))) pa_nil))))) pa_nil))))), ?_⟩
    have h3' : hi ≤ r.low + (r.size : Int) - 1 := h3
    obtain ⟨rt, ra, ha, hrt, hA⟩ := hrec
    have hal := hA.1
    have hrows := ok.rows
    refine ⟨_, rfl, a, _, rfl, SqT.of ha, rfl, _, _, rfl, _, _, rfl, _, _, rfl, rfl, ?_⟩
    refine ⟨_, rfl, rt, rfl, ⟨_, SqT.of hrt⟩, fun L nL => wk_tup (K := K) (a := rt) (xs := ra.map V.ref) (fun k H' => Ex H H' ∧ ∃ rb : List Addr, H' L = some (.lst (rb.map V.ref)) ∧ All2 (RowAt H') rb (((subR r lo hi).rows).take k)) ⟨Ex.new nL, [], upd_same, .nil⟩ (fun k H' _ g => SqT.of (g.1 _ _ hrt)) ?_ ?_⟩
    · rintro k y H1 hy ⟨E1, rb, hL, hB⟩
      obtain ⟨b, hb, rfl⟩ := refs_get hy
      obtain ⟨x, hx, bt, hb1, hb2⟩ := hA.at_ hb
      have hk := (List.getElem?_eq_some_iff.mp hx).1
      obtain ⟨_, hxl⟩ := ok.row x (List.mem_of_getElem? hx)
      refine ⟨b, _, rfl, SqT.of (E1 _ _ hb1), rfl, _, _, rfl, _, _, rfl, rfl, rfl, tYes_in ?_⟩
      simp only [wipe, _root_.L2.start, List.map_cons, List.map_nil, List.length_cons, List.length_nil, Nat.reduceAdd, Nat.reduceSub, List.replicate_succ, List.replicate_zero, List.cons_append, List.nil_append, List.set_cons_zero, List.set_cons_succ]
      refine ⟨_, rfl, _, rfl, _, rfl, _, rfl, _, _, rfl, rfl, _, rfl, _, rfl, _, rfl, _, _, rfl, rfl, _, _, rfl, rfl, _, rfl, cut_tup (E1 _ _ hb2) fun c H2 E2 hc => ⟨(by show 2 ≤ sizeLine; decide), fun t nt => ?_⟩⟩
      rw [cut_bits hxl h1 h2 h3'] at hc
      have E3 : Ex H2 (upd H2 t (.tup [.str (mk x.1), .ref c])) := Ex.new nt
      have E13 := E2.trans E3
      have hL2 := E13 _ _ hL
      have hrow : RowAt (upd H2 t (.tup [.str (mk x.1), .ref c])) t (x.1, slB r.low x.2 lo hi) := ⟨c, upd_same, E3 _ _ hc⟩
      have hnx : ((subR r lo hi).rows)[k]? = some (x.1, slB r.low x.2 lo hi) := by unfold subR; rw [List.getElem?_map, hx]; rfl
      refine ⟨_, hL2, sz_lt (by rw [List.length_map, hB.1, List.length_take]; omega), (E1.trans E13).mut nL, rb ++ [t], by rw [upd_same, List.map_append]; rfl, ?_⟩
      rw [take_snoc1 hnx]
      exact (hB.imp fun _ _ z => (z.ex E13).put hL2).snoc (hrow.put hL2)
    rintro H1 ⟨E1, rb, hL, hB⟩
    have e0 : (subR r lo hi).rows.length = (ra.map V.ref).length := by unfold subR; rw [List.length_map, List.length_map, hal]
    rw [← e0, List.take_length] at hB
    refine ⟨L, _, rfl, .inl ⟨SqL.of hL, fun rt2 n2 => ?_⟩⟩
    have E2 : Ex H1 (upd H1 rt2 (.tup (rb.map V.ref))) := Ex.new n2
    exact q rt2 rb _ (E1.trans E2) upd_same (hB.imp fun _ _ z => z.ex E2)
/-- are these times of the record -/
def CutOk (r : RecD) (lo hi : Int) : Prop := r.low ≤ lo ∧ lo ≤ hi ∧ hi ≤ r.high
def spCut (B : Addr) : Sp := fun vs H Q E => ∃ (a : Addr) (r : RecD) (lo hi : Int), vs = [.ref a, .int lo, .int hi] ∧ RecAt H a r ∧ RcOk r ∧ (CutOk r lo hi → ∀ (c : Addr) (H' : Hp), Ex H H' → RecAt H' c (subR r lo hi) → Q (.ref c) H') ∧ (¬ CutOk r lo hi → ∀ H', Ex H H' → E (.ref B) none H')
theorem sc_cut : FnScope ["record", "low", "high"] ["record", "low", "high"] (defScope s_cut) := ⟨rfl, rfl, rfl, by decide +kernel, rfl, by decide +kernel, by decide +kernel⟩
theorem ok_cut {B : Addr} (D : Dfd K mg "cut" s_cut ["record", "low", "high"]) (UB : ExcT K mg "BadArgument" B) (C1 : Has P w K mg base 1 "_between" ["record", "low", "high"] spBetween) : HasX P w K mg base 2 "cut" ["record", "low", "high"] (spCut B) := by
  obtain ⟨f_between, d_between, G_between, g_between, k_between, b_between⟩ := C1
  obtain ⟨f, fd, F, gf, bf⟩ := D
  refine ⟨f, fd, F.okX sc_cut (fun vs H Q E h => ?_) (fun cdv A outer s H vs Q E hr h => ?_), gf, F.kp, bf⟩
  · obtain ⟨_, _, _, _, rfl, _⟩ := h
    rfl
  · obtain ⟨a, r, lo, hi, rfl, hrec, ok, q1, q2⟩ := h
    refine ⟨_, (pss_cons (ps_if (PW.pt (pw_or (pt_cmpR op_gt (pv 1) (pv 2) (nomark _)) (pw_or (pt_cmpR op_lt (pv 1) (pe_ix ix_tup (pv 0) pe_int (fun _ _ => rfl)) (nomark _)) (pw_or1 (pt_cmpR op_gt (pv 2) (pe_ix ix_tup (pv 0) pe_int (fun _ _ => rfl)) (nomark _))))))
      (pss_one (ps_raise rfl (takes_of rfl rfl rfl rfl) (pmk_ownA PySem.F.excBase_ValueError UB.xP UB.gC UB.kC (raises_own UB.bC UB.tC) rfl (pa_cons pe_str pa_nil))))
      pss_nil)
    (pss_one (ps_ret (pe_tup (pa_cons (pv 1) (pa_cons (pv 2) (pa_cons (pe_call G_between (hr.mono (by omega)) (by rfl) g_between k_between b_between .nil pass0 (pa_cons (pv 0) (pa_cons (pv 1) (pa_cons (pv 2) pa_nil)))) pa_nil))))))), ?_⟩
    have sz1 : 1 ≤ sizeLine := by decide
    have hrec' := hrec
    obtain ⟨rt, ra, ha, hrt, hA⟩ := hrec'
    by_cases c1 : hi < lo
    · exact ⟨_, rfl, _, rfl, _, _, rfl, rfl, _, rfl, iteY (decide_eq_true (by omega)) ⟨sz1, q2 (fun z => by have := z.2.1; omega) _ (Ex.refl _)⟩⟩
    by_cases c2 : lo < r.low
    · exact ⟨_, rfl, _, rfl, _, _, rfl, rfl, _, rfl, iteN (decide_eq_false (by omega)) ⟨_, rfl, _, rfl, _, _, _, _, rfl, rfl, SqT.of ha, atI_nat (j := 0) rfl, _, _, rfl, rfl, _, rfl, iteY (decide_eq_true c2) ⟨sz1, q2 (fun z => by have := z.1; omega) _ (Ex.refl _)⟩⟩⟩
    by_cases c3 : r.high < hi
    · exact ⟨_, rfl, _, rfl, _, _, rfl, rfl, _, rfl, iteN (decide_eq_false (by omega)) ⟨_, rfl, _, rfl, _, _, _, _, rfl, rfl, SqT.of ha, atI_nat (j := 0) rfl, _, _, rfl, rfl, _, rfl, iteN (decide_eq_false c2) ⟨_, rfl, _, rfl, _, _, _, _, rfl, rfl, SqT.of ha, atI_nat (j := 1) rfl, _, _, rfl, rfl, _, rfl, iteY (decide_eq_true (by omega)) ⟨sz1, q2 (fun z => by have := z.2.2; omega) _ (Ex.refl _)⟩⟩⟩⟩
    have hv : CutOk r lo hi := ⟨by omega, by omega, by omega⟩
    refine ⟨_, rfl, _, rfl, _, _, rfl, rfl, _, rfl, iteN (decide_eq_false (by omega)) ⟨_, rfl, _, rfl, _, _, _, _, rfl, rfl, SqT.of ha, atI_nat (j := 0) rfl, _, _, rfl, rfl, _, rfl, iteN (decide_eq_false c2) ⟨_, rfl, _, rfl, _, _, _, _, rfl, rfl, SqT.of ha, atI_nat (j := 1) rfl, _, _, rfl, rfl, _, rfl, iteN (decide_eq_false (by omega)) ?_⟩⟩⟩
    refine ⟨_, rfl, _, rfl, _, rfl, _, rfl, _, rfl, a, r, lo, hi, rfl, hrec, ok, hv.1, hv.2.1, hv.2.2, fun rt2 rb H1 E1 h1 hB => ⟨(by show 3 ≤ sizeLine; decide), fun c nc => ?_⟩⟩
    have E2 : Ex H1 (upd H1 c (.tup [.int lo, .int hi, .ref rt2])) := Ex.new nc
    exact q1 hv c _ (E1.trans E2) ⟨rt2, rb, by rw [upd_same, subR_high hv.2.1]; rfl, E2 _ _ h1, hB.imp fun _ _ z => z.ex E2⟩
end
end G
namespace G
open PySem PySem.Spec PyProof.Rows L2 Evl TL
def GlueOk (r1 r2 : RecD) : Prop := r2.low = r1.high + 1 ∧ r1.rows.map (·.1) = r2.rows.map (·.1)
def glueR (r1 r2 : RecD) : RecD := ⟨r1.low, r1.size + r2.size, List.zipWith (fun x y => (x.1, x.2 ++ y.2)) r1.rows r2.rows⟩
theorem glueR_high {r1 r2 : RecD} (h : GlueOk r1 r2) : (glueR r1 r2).high = r2.high := by
  have h1 : r2.low = r1.low + (r1.size : Int) - 1 + 1 := h.1
  show r1.low + ((r1.size + r2.size : Nat) : Int) - 1 = r2.low + (r2.size : Int) - 1
  omega
def strN (rows : List (List Nat × List Bool)) : List V := rows.map fun x => V.str (mk x.1)
theorem dp_names {K : PySem.W.Frag} {H : Hp} {a : Addr} {rows : List (List Nat × List Bool)} (h : H a = some (.lst (strN rows))) : Dp K H (.ref a) (.list ((rows.map fun x => mk x.1).map PyData.str)) :=
  dp_strsL (SqL.of (by rw [h, List.map_map]; rfl))
theorem names_shaped {r : RecD} (ok : RcOk r) : SeqAt.shaped (.list ((r.rows.map fun x => mk x.1).map PyData.str)) = true :=
  shaped_strsL fun x hx => by
    obtain ⟨y, hy, rfl⟩ := List.mem_map.mp hx
    exact strOk_mkK (name_smallK (ok.row y hy).1)
theorem names_eq {a b : List (List Nat × List Bool)} : ((a.map fun x => mk x.1) = b.map fun x => mk x.1) ↔ a.map (·.1) = b.map (·.1) := by
  constructor
  · intro h
    have := congrArg (List.map tl) h
    rw [List.map_map, List.map_map] at this
    exact this
  · intro h
    have := congrArg (List.map mk) h
    rw [List.map_map, List.map_map] at this
    exact this
section
variable {P : Program} {w : World} {K : PySem.W.Frag} {mg : Str → Option Value} {base : Heap}
def spGlued (R : Addr) : Sp := fun vs H Q E => ∃ (a b : Addr) (r1 r2 : RecD), vs = [.ref a, .ref b] ∧ RecAt H a r1 ∧ RecAt H b r2 ∧ RcOk r1 ∧ RcOk r2 ∧ (GlueOk r1 r2 → ∀ (c : Addr) (H' : Hp), Ex H H' → RecAt H' c (glueR r1 r2) → Q (.ref c) H') ∧ (¬ GlueOk r1 r2 → ∀ H', Ex H H' → E (.ref R) none H')
theorem sc_glued : FnScope ["first", "second", "low", "last", "rows", "begin", "high", "others", "name", "_", "bits", "later"] ["first", "second"] (defScope s_glued) := ⟨rfl, rfl, rfl, by decide +kernel, rfl, by decide +kernel, by decide +kernel⟩
theorem ok_glued {R : Addr} (D : Dfd K mg "glued" s_glued ["first", "second"]) (UR : ExcT K mg "Refused" R) (T : TxtV mg) : HasX P w K mg base 1 "glued" ["first", "second"] (spGlued R) := by
  obtain ⟨f, fd, F, gf, bf⟩ := D
  refine ⟨f, fd, F.okX sc_glued (fun vs H Q E h => ?_) (fun cdv A outer s H vs Q E hr h => ?_), gf, F.kp, bf⟩
  · obtain ⟨_, _, _, _, rfl, _⟩ := h
    rfl
  · obtain ⟨a, b, r1, r2, rfl, hr1, hr2, ok1, ok2, q1, q2⟩ := h
    refine ⟨_, (pss_cons (ps_asg (pv 0) (pg_tup rfl (pgs_cons (pg_name (i := 2) sc_glued.nd rfl (.inl rfl)) (pgs_cons (pg_name (i := 3) sc_glued.nd rfl (.inl rfl)) (pgs_cons (pg_name (i := 4) sc_glued.nd rfl (.inl rfl)) pgs_nil)))))
    (pss_cons (ps_asg (pv 1) (pg_tup rfl (pgs_cons (pg_name (i := 5) sc_glued.nd rfl (.inl rfl)) (pgs_cons (pg_name (i := 6) sc_glued.nd rfl (.inl rfl)) (pgs_cons (pg_name (i := 7) sc_glued.nd rfl (.inl rfl)) pgs_nil)))))
    (pss_cons (ps_if (PW.pt (pw_or (pt_cmpR op_ne (pv 5) (pe_op op_add (pv 3) pe_int) (nomark _)) (pw_or1 (pt_cmpR (op_neD hr.units) (pe_lc (own := [("name", 8), ("_", 9)]) (g := gTup K 2 (gCons (gName 8) (gCons (gName 9) gNil))) (tt := tYes) rfl sc_glued.nd (pi_tup (pv 4)) (blkOk_by (N := ["first", "second", "low", "last", "rows", "begin", "high", "others", "name", "_", "bits", "later"]) (sc := defScope s_glued) (own := [("name", 8), ("_", 9)]) (by decide +kernel)) (fun _ _ _ _ _ => (pg_tup rfl (pgs_cons (pg_name (i := 8) sc_glued.nd rfl (.inl rfl)) (pgs_cons (pg_name (i := 9) sc_glued.nd rfl (.inl rfl)) pgs_nil)))) (fun _ _ _ _ _ => pts_nil) (fun _ _ _ _ _ => (pv 8))) (pe_lc (own := [("name", 8), ("_", 9)]) (g := gTup K 2 (gCons (gName 8) (gCons (gName 9) gNil))) (tt := tYes) rfl sc_glued.nd (pi_tup (pv 7)) (blkOk_by (N := ["first", "second", "low", "last", "rows", "begin", "high", "others", "name", "_", "bits", "later"]) (sc := defScope s_glued) (own := [("name", 8), ("_", 9)]) (by decide +kernel)) (fun _ _ _ _ _ => (pg_tup rfl (pgs_cons (pg_name (i := 8) sc_glued.nd rfl (.inl rfl)) (pgs_cons (pg_name (i := 9) sc_glued.nd rfl (.inl rfl)) pgs_nil)))) (fun _ _ _ _ _ => pts_nil) (fun _ _ _ _ _ => (pv 8))) (nomark _)))))
      (pss_one (ps_raise rfl (takes_of rfl rfl rfl rfl) (pmk_ownA PySem.F.excBase_ValueError UR.xP UR.gC UR.kC (raises_own UR.bC UR.tC) rfl (pa_cons pe_str pa_nil))))
      pss_nil)
    (pss_one (ps_ret (pe_tup (pa_cons (pv 2) (pa_cons (pv 6) (pa_cons (pe_callTy call_tuple_of (by rfl) T.tuple (by decide +kernel) (pa_cons (pe_lc (own := [("name", 8), ("bits", 10), ("_", 9), ("later", 11)]) (g := gTup K 2 (gCons (gTup K 2 (gCons (gName 8) (gCons (gName 10) gNil))) (gCons (gTup K 2 (gCons (gName 9) (gCons (gName 11) gNil))) gNil))) (tt := tYes) rfl sc_glued.nd (RZ.pi_zipA (by rfl) T.zip (pa_cons (pv 4) (pa_cons (pv 7) pa_nil))) (blkOk_by (N := ["first", "second", "low", "last", "rows", "begin", "high", "others", "name", "_", "bits", "later"]) (sc := defScope s_glued) (own := [("name", 8), ("bits", 10), ("_", 9), ("later", 11)]) (by decide +kernel)) (fun _ _ _ _ _ => (pg_tup rfl (pgs_cons (pg_tup rfl (pgs_cons (pg_name (i := 8) sc_glued.nd rfl (.inl rfl)) (pgs_cons (pg_name (i := 10) sc_glued.nd rfl (.inl rfl)) pgs_nil))) (pgs_cons (pg_tup rfl (pgs_cons (pg_name (i := 9) sc_glued.nd rfl (.inl rfl)) (pgs_cons (pg_name (i := 11) sc_glued.nd rfl (.inl rfl)) pgs_nil))) pgs_nil)))) (fun _ _ _ _ _ => pts_nil) (fun _ _ _ _ _ => (pe_tup (pa_cons (pv 8) (pa_cons (pe_op (kCatA (K := K) rfl) (pv 10) (pv 11)) pa_nil))))) pa_nil)) pa_nil))))))))), ?_⟩
    have sz1 : 1 ≤ sizeLine := by decide
    obtain ⟨rt1, ra1, ha1, hrt1, hA1⟩ := hr1
    obtain ⟨rt2, ra2, ha2, hrt2, hA2⟩ := hr2
    have hl1 := ok1.rows
    have hl2 := ok2.rows
    have eb : (!decide (V.int r2.low = V.int (r1.high + 1))) = !decide (r2.low = r1.high + 1) := by
      congr 1
      rw [Bool.eq_iff_iff, decide_eq_true_iff, decide_eq_true_iff]
      exact ⟨fun z => V.int.inj z, fun z => by rw [z]⟩
    refine ⟨_, rfl, a, _, rfl, SqT.of ha1, rfl, _, _, rfl, _, _, rfl, _, _, rfl, rfl, ?_⟩
    refine ⟨_, rfl, b, _, rfl, SqT.of ha2, rfl, _, _, rfl, _, _, rfl, _, _, rfl, rfl, ?_⟩
    by_cases c1 : r2.low = r1.high + 1
    case neg =>
      exact ⟨_, rfl, _, rfl, _, _, rfl, rfl, rfl, _, rfl, iteY (eb.trans (by rw [decide_eq_false c1]; rfl)) ⟨sz1, q2 (fun z => c1 z.1) _ (Ex.refl _)⟩⟩
    refine ⟨_, rfl, _, rfl, _, _, rfl, rfl, rfl, _, rfl, iteN (eb.trans (by rw [decide_eq_true c1]; rfl)) ?_⟩
    refine ⟨_, rfl, rt1, rfl, ⟨_, SqT.of hrt1⟩, fun L nL => wk_tup (K := K) (a := rt1) (xs := ra1.map V.ref) (fun k H' => Ex H H' ∧ H' L = some (.lst (strN (r1.rows.take k)))) ⟨Ex.new nL, upd_same⟩ (fun k H' _ g => SqT.of (g.1 _ _ hrt1)) ?_ ?_⟩
    · rintro k y H1 hy ⟨E1, hL⟩
      obtain ⟨b1, hb, rfl⟩ := refs_get hy
      obtain ⟨x, hx, bt, hb1, hb2⟩ := hA1.at_ hb
      refine ⟨b1, _, rfl, SqT.of (E1 _ _ hb1), rfl, _, _, rfl, _, _, rfl, rfl, rfl, tYes_in ?_⟩
      simp only [wipe, _root_.L2.start, List.map_cons, List.map_nil, List.length_cons, List.length_nil, Nat.reduceAdd, Nat.reduceSub, List.replicate_succ, List.replicate_zero, List.cons_append, List.nil_append, List.set_cons_zero, List.set_cons_succ]
      refine ⟨_, rfl, _, hL, sz_lt (by unfold strN; rw [List.length_map, List.length_take]; omega), E1.mut nL, ?_⟩
      rw [upd_same, take_snoc1 hx]
      unfold strN
      rw [List.map_append]; rfl
    rintro H1 ⟨E1, hL⟩
    rw [List.length_map, hA1.1, List.take_length] at hL
    refine ⟨_, rfl, rt2, rfl, ⟨_, SqT.of (E1 _ _ hrt2)⟩, fun L2 nL2 => wk_tup (K := K) (a := rt2) (xs := ra2.map V.ref) (fun k H' => Ex H1 H' ∧ H' L2 = some (.lst (strN (r2.rows.take k)))) ⟨Ex.new nL2, upd_same⟩ (fun k H' _ g => SqT.of (g.1 _ _ (E1 _ _ hrt2))) ?_ ?_⟩
    · rintro k y H2 hy ⟨E2, hL2⟩
      obtain ⟨b1, hb, rfl⟩ := refs_get hy
      obtain ⟨x, hx, bt, hb1, hb2⟩ := hA2.at_ hb
      refine ⟨b1, _, rfl, SqT.of (E2 _ _ (E1 _ _ hb1)), rfl, _, _, rfl, _, _, rfl, rfl, rfl, tYes_in ?_⟩
      simp only [wipe, _root_.L2.start, List.map_cons, List.map_nil, List.length_cons, List.length_nil, Nat.reduceAdd, Nat.reduceSub, List.replicate_succ, List.replicate_zero, List.cons_append, List.nil_append, List.set_cons_zero, List.set_cons_succ]
      refine ⟨_, rfl, _, hL2, sz_lt (by unfold strN; rw [List.length_map, List.length_take]; omega), E2.mut nL2, ?_⟩
      rw [upd_same, take_snoc1 hx]
      unfold strN
      rw [List.map_append]; rfl
    rintro H2 ⟨E2, hL2⟩
    rw [List.length_map, hA2.1, List.take_length] at hL2
    have E12 := E1.trans E2
    refine ⟨_, _, dp_names (E2 _ _ hL), dp_names hL2, names_shaped ok1, names_shaped ok2, ?_⟩
    rw [eqv_strsG]
    by_cases c2 : (r1.rows.map fun x => mk x.1) = r2.rows.map fun x => mk x.1
    case neg =>
      exact ⟨_, rfl, iteY (by rw [decide_eq_false c2]; rfl) ⟨sz1, q2 (fun z => c2 (names_eq.mpr z.2)) _ E12⟩⟩
    have hv : GlueOk r1 r2 := ⟨c1, names_eq.mp c2⟩
    have hlen : r1.rows.length = r2.rows.length := by have := congrArg List.length hv.2; rwa [List.length_map, List.length_map] at this
    refine ⟨_, rfl, iteN (by rw [decide_eq_true c2]; rfl) ?_⟩
    refine ⟨_, rfl, _, rfl, _, rfl, _, rfl, rt1, rt2, _, _, rfl, .inr ⟨SqT.of (E12 _ _ hrt1), SqT.of (E12 _ _ hrt2), fun L3 nL3 => lc_it (walk_zipT (n := r1.rows.length) (by rw [List.length_map, List.length_map, hA1.1, hA2.1]; omega))
      (fun k H' => Ex H2 H' ∧ ∃ rb : List Addr, H' L3 = some (.lst (rb.map V.ref)) ∧ All2 (RowAt H') rb ((glueR r1 r2).rows.take k)) ⟨Ex.new nL3, [], upd_same, .nil⟩ (fun k H' _ g => ⟨SqT.of (g.1 _ _ (E12 _ _ hrt1)), SqT.of (g.1 _ _ (E12 _ _ hrt2))⟩) ?_ ?_⟩⟩
    · rintro k z H3 H4 hk ⟨E3, rb, hL3, hB⟩ ⟨A1, x0, y0, rfl, nA, rfl, hx0, hy0⟩
      obtain ⟨b1, hb, rfl⟩ := refs_get hx0
      obtain ⟨b2, hb', rfl⟩ := refs_get hy0
      obtain ⟨x, hx, bt, hb1, hb2⟩ := hA1.at_ hb
      obtain ⟨y, hy, bt', hb1', hb2'⟩ := hA2.at_ hb'
      have E4 : Ex H3 (upd H3 A1 (.tup [.ref b1, .ref b2])) := Ex.new nA
      have hL4 := E4 _ _ hL3
      have E04 := E12.trans (E3.trans E4)
      have hA : upd H3 A1 (.tup [V.ref b1, .ref b2]) A1 = some (.tup [.ref b1, .ref b2]) := upd_same
      generalize upd H3 A1 (.tup [V.ref b1, .ref b2]) = H5 at *
      simp only [wipe, _root_.L2.start, List.map_cons, List.map_nil, List.length_cons, List.length_nil, Nat.reduceAdd, Nat.reduceSub, List.replicate_succ, List.replicate_zero, List.cons_append, List.nil_append, List.set_cons_zero, List.set_cons_succ]
      obtain ⟨_, hxl⟩ := ok1.row x (List.mem_of_getElem? hx)
      obtain ⟨_, hyl⟩ := ok2.row y (List.mem_of_getElem? hy)
      have hs1 := ok1.size
      have hs2 := ok2.size
      refine ⟨A1, _, rfl, SqT.of hA, rfl, _, _, rfl, b1, _, rfl, SqT.of (E04 _ _ hb1), rfl, _, _, rfl, _, _, rfl, rfl, _, _, rfl, b2, _, rfl, SqT.of (E04 _ _ hb1'), rfl, _, _, rfl, _, _, rfl, rfl, ?_⟩
      dsimp only [gNil]
      simp only [wipe, _root_.L2.start, List.map_cons, List.map_nil, List.length_cons, List.length_nil, Nat.reduceAdd, Nat.reduceSub, List.replicate_succ, List.replicate_zero, List.cons_append, List.nil_append, List.set_cons_zero, List.set_cons_succ]
      refine ⟨trivial, trivial, tYes_in ?_⟩
      refine ⟨_, rfl, _, rfl, _, rfl, cat_tup (E04 _ _ hb2) (E04 _ _ hb2') (sz_of (by rw [List.length_map, List.length_map]; omega)) fun c H6 E6 hc => ⟨(by show 2 ≤ sizeLine; decide), fun t nt => ?_⟩⟩
      rw [← List.map_append] at hc
      have E7 : Ex H6 (upd H6 t (.tup [.str (mk x.1), .ref c])) := Ex.new nt
      have E47 := E4.trans (E6.trans E7)
      have E57 := E6.trans E7
      have hL7 := E57 _ _ hL4
      have hnx : (glueR r1 r2).rows[k]? = some (x.1, x.2 ++ y.2) := by unfold glueR; rw [List.getElem?_zipWith, hx, hy]
      have hrow : RowAt (upd H6 t (.tup [.str (mk x.1), .ref c])) t (x.1, x.2 ++ y.2) := ⟨c, upd_same, E7 _ _ hc⟩
      refine ⟨_, hL7, sz_lt (by rw [List.length_map, hB.1, List.length_take]; omega), (E3.trans E47).mut nL3, rb ++ [t], by rw [upd_same, List.map_append]; rfl, ?_⟩
      rw [take_snoc1 hnx]
      exact (hB.imp fun _ _ z => (z.ex E47).put hL7).snoc (hrow.put hL7)
    rintro H3 ⟨E3, rb, hL3, hB⟩
    have e0 : (glueR r1 r2).rows.length = r1.rows.length := by unfold glueR; rw [List.length_zipWith]; omega
    rw [← e0, List.take_length] at hB
    refine ⟨L3, _, rfl, .inl ⟨SqL.of hL3, fun rt3 n3 => ⟨(by show 3 ≤ sizeLine; decide), fun c nc => ?_⟩⟩⟩
    have E4 : Ex H3 (upd H3 rt3 (.tup (rb.map V.ref))) := Ex.new n3
    have E5 : Ex (upd H3 rt3 (.tup (rb.map V.ref))) (upd (upd H3 rt3 (.tup (rb.map V.ref))) c (.tup [.int r1.low, .int r2.high, .ref rt3])) := Ex.new nc
    exact q1 hv c _ (E12.trans (E3.trans (E4.trans E5))) ⟨rt3, rb, by rw [upd_same, glueR_high hv]; rfl, E5 _ _ upd_same, hB.imp fun _ _ z => z.ex (E4.trans E5)⟩
end
end G
namespace G
open PySem PySem.Spec PyProof.Rows L2 Evl TL
theorem exTe {H H' : Hp} (e : Ex H H') : TupEx H H' := fun _ _ z => e _ _ z
theorem te_put {H : Hp} {b : Addr} {xs : List V} {o : HO} (hb : H b = some (.lst xs)) : TupEx H (upd H b o) := fun a ys z => by rw [upd_ne (ne_of z hb (by intro y; cases y))]; exact z
theorem TupEx.trans {H H' H'' : Hp} (a : TupEx H H') (b : TupEx H' H'') : TupEx H H'' := fun c xs z => b _ _ (a _ _ z)
theorem valS_put {es : List (Key × V)} {s t : Str} {v : V} : valV (putK es (.inr s) v) (.inr t) = if t = s then some v else valV es (.inr t) := by
  rw [valV_put]
  by_cases e : t = s
  · rw [if_pos e, if_pos (by rw [e])]
  · rw [if_neg e, if_neg (fun z => e (Sum.inr.inj z))]
/-- the dict: for each name the list of what was told of it -/
structure ByK (H0 H : Hp) (es : List (Key × V)) (occ : Str → List Addr) : Prop where
  some_ : ∀ s v, valV es (.inr s) = some v → ∃ L, v = .ref L ∧ H L = some (.lst ((occ s).map V.ref)) ∧ H0 L = none
  none_ : ∀ s, valV es (.inr s) = none → occ s = []
  inj : ∀ s t L, valV es (.inr s) = some (.ref L) → valV es (.inr t) = some (.ref L) → s = t
theorem ByK.old {H0 H : Hp} {es : List (Key × V)} {occ : Str → List Addr} {s0 : Str} {L : Addr} {g : Addr} (B : ByK H0 H es occ) (h : valV es (.inr s0) = some (.ref L)) (occ' : Str → List Addr) (ho : ∀ s, occ' s = if s = s0 then occ s ++ [g] else occ s) :
    ByK H0 (upd H L (.lst ((occ s0).map V.ref ++ [.ref g]))) es occ' := by
  refine ⟨fun s v hv => ?_, fun s hs => ?_, B.inj⟩
  · obtain ⟨L2, rfl, h2, h3⟩ := B.some_ s v hv
    by_cases e : s = s0
    · subst e
      have : L2 = L := V.ref.inj (Option.some.inj (hv.symm.trans h))
      subst this
      refine ⟨L2, rfl, ?_, h3⟩
      rw [upd_same, ho, if_pos rfl, List.map_append]; rfl
    · have hne : L2 ≠ L := fun z => e (B.inj s s0 L (z ▸ hv) h)
      refine ⟨L2, rfl, ?_, h3⟩
      rw [upd_ne hne, ho, if_neg e]; exact h2
  · rw [ho]
    by_cases e : s = s0
    · subst e; rw [h] at hs; cases hs
    · rw [if_neg e]; exact B.none_ s hs
theorem ByK.new_ {H0 H : Hp} {fd L : Addr} {es : List (Key × V)} {occ : Str → List Addr} {s0 : Str} {g : Addr} {o1 : HO} (B : ByK H0 H es occ) (h : valV es (.inr s0) = none) (hd : ∃ es', H fd = some (.dK es')) (nL : H L = none) (nL0 : H0 L = none) (occ' : Str → List Addr) (ho : ∀ s, occ' s = if s = s0 then occ s ++ [g] else occ s) :
    ByK H0 (upd (upd (upd H L (.lst [])) fd o1) L (.lst ([] ++ [.ref g]))) (putK es (.inr s0) (.ref L)) occ' := by
  obtain ⟨es', hd⟩ := hd
  refine ⟨fun s v hv => ?_, fun s hs => ?_, fun s t L2 h1 h2 => ?_⟩
  · rw [valS_put] at hv
    by_cases e : s = s0
    · rw [if_pos e] at hv
      cases hv
      refine ⟨L, rfl, ?_, nL0⟩
      rw [upd_same, ho, if_pos e, e, B.none_ s0 h]; rfl
    · rw [if_neg e] at hv
      obtain ⟨L2, rfl, h2, h3⟩ := B.some_ s v hv
      have n1 : L2 ≠ L := ne_of_none h2 nL
      have n2 : L2 ≠ fd := ne_of h2 hd (by intro z; cases z)
      refine ⟨L2, rfl, ?_, h3⟩
      rw [upd_ne n1, upd_ne n2, upd_ne n1, ho, if_neg e]; exact h2
  · rw [valS_put] at hs
    by_cases e : s = s0
    · rw [if_pos e] at hs; cases hs
    · rw [if_neg e] at hs
      rw [ho, if_neg e]; exact B.none_ s hs
  · rw [valS_put] at h1 h2
    have fresh : ∀ u, u ≠ s0 → valV es (.inr u) = some (.ref L2) → L2 ≠ L := fun u _ hu => by
      obtain ⟨L3, e3, h3, _⟩ := B.some_ u _ hu
      have : L2 = L3 := V.ref.inj e3
      subst this
      exact ne_of_none h3 nL
    by_cases e1 : s = s0
    · by_cases e2 : t = s0
      · rw [e1, e2]
      · rw [if_pos e1] at h1
        rw [if_neg e2] at h2
        exact absurd (V.ref.inj (Option.some.inj h1)).symm (fresh t e2 h2)
    · rw [if_neg e1] at h1
      by_cases e2 : t = s0
      · rw [if_pos e2] at h2
        exact absurd (V.ref.inj (Option.some.inj h2)).symm (fresh s e1 h1)
      · rw [if_neg e2] at h2
        exact B.inj s t L2 h1 h2
theorem ByK.ex {H0 H H' : Hp} {es : List (Key × V)} {occ : Str → List Addr} (B : ByK H0 H es occ) (e : Ex H H') : ByK H0 H' es occ :=
  ⟨fun s v hv => by obtain ⟨L, h1, h2, h3⟩ := B.some_ s v hv; exact ⟨L, h1, e _ _ h2, h3⟩, B.none_, B.inj⟩
abbrev Qs := List (Str × Addr × List Bool)
def occQ (qs : Qs) (s : Str) : List Addr := (qs.filter fun q => decide (q.1 = s)).map (·.2.1)
theorem occQ_snoc (qs : Qs) (n : Str) (t : Addr) (l : List Bool) (s : Str) : occQ (qs ++ [(n, t, l)]) s = if s = n then occQ qs s ++ [t] else occQ qs s := by
  unfold occQ
  rw [List.filter_append, List.map_append]
  by_cases e : s = n
  · rw [if_pos e, List.filter_cons, if_pos (by rw [e]; exact decide_eq_true rfl)]; rfl
  · rw [if_neg e, List.filter_cons, if_neg (by rw [decide_eq_false (fun z : n = s => e z.symm)]; decide)]
    exact List.append_nil _
def loR (r1 r2 : RecD) : Int := if r2.low > r1.low then r2.low else r1.low
def hiR (r1 r2 : RecD) : Int := if r2.high < r1.high then r2.high else r1.high
def agrees (r1 r2 : RecD) (x y : List Nat × List Bool) : Bool := !decide (x.1 = y.1) || decide (slB r1.low x.2 (loR r1 r2) (hiR r1 r2) = slB r2.low y.2 (loR r1 r2) (hiR r1 r2))
def agreeB (r1 r2 : RecD) : Bool := decide (hiR r1 r2 < loR r1 r2) || r1.rows.all fun x => r2.rows.all fun y => agrees r1 r2 x y
theorem bnds (r1 r2 : RecD) : r1.low ≤ loR r1 r2 ∧ r2.low ≤ loR r1 r2 ∧ hiR r1 r2 ≤ r1.high ∧ hiR r1 r2 ≤ r2.high := by
  unfold loR hiR
  refine ⟨?_, ?_, ?_, ?_⟩ <;> split <;> omega
theorem eqvAll_bls : ∀ xs ys : List Bool, PyData.eqvAll (xs.map PyData.bool) (ys.map PyData.bool) = decide (xs = ys)
  | [], [] => by simp [PyData.eqvAll]
  | [], y :: ys => by simp [PyData.eqvAll]
  | x :: xs, [] => by simp [PyData.eqvAll]
  | x :: xs, y :: ys => by
    have : (x == y) = decide (x = y) := by rw [Bool.eq_iff_iff]; simp
    simp [PyData.eqvAll, PyData.eqv, eqvAll_bls xs ys, this]
theorem eqv_blsT (xs ys : List Bool) : PyData.eqv (.tuple (xs.map PyData.bool)) (.tuple (ys.map PyData.bool)) = decide (xs = ys) := by
  simp [PyData.eqv, eqvAll_bls]
theorem blsT_shaped (l : List Bool) : SeqAt.shaped (.tuple (l.map PyData.bool)) = true := by
  obtain ⟨a, b⟩ := bls_shape l
  simp [SeqAt.shaped, PyData.canLay0, PyData.depth, a, b]
theorem dp_blsT {K : PySem.W.Frag} {H : Hp} {a : Addr} {l : List Bool} (h : H a = some (.tup (l.map V.bl))) : Dp K H (.ref a) (.tuple (l.map PyData.bool)) := .tup (SqT.of h) (dpAll_map (fun x => .bl x) l)
theorem kNeD {X : Cx} {K : PySem.W.Frag} (h : X.K = K) (hu : X.A.units + 64 < cLine) : OpR X (compareOp .NotEq) (rNeD K) := by subst h; exact op_neD hu
theorem pi_or2 {X : Cx} {e tg : Expr} {te : TE} (he : PE X e te) : PI X tg e (fun σ H R => iList X.K te σ H R ∨ iTup X.K te σ H R) :=
  ⟨fun ps s σ H R I h => h.elim (fun z => (pi_list he).run ps s σ H R I z) fun z => (pi_tup he).run ps s σ H R I z⟩
section
variable {P : Program} {w : World} {K : PySem.W.Frag} {mg : Str → Option Value} {base : Heap}
def spSameM : Sp := fun vs H Q _ => ∃ (a b : Addr) (r1 r2 : RecD), vs = [.ref a, .ref b] ∧ RecAt H a r1 ∧ RecAt H b r2 ∧ RcOk r1 ∧ RcOk r2 ∧ ∀ H', Ex H H' → Q (.bl (agreeB r1 r2)) H'
theorem sc_same_meaning : FnScope ["first", "second", "low", "high", "known", "name", "bits", "others"] ["first", "second"] (defScope s_same_meaning) := ⟨rfl, rfl, rfl, by decide +kernel, rfl, by decide +kernel, by decide +kernel⟩
theorem ok_same_meaning (D : Dfd K mg "same_meaning" s_same_meaning ["first", "second"]) (T : TxtV mg) (C1 : Has P w K mg base 1 "_between" ["record", "low", "high"] spBetween) : Has P w K mg base 2 "same_meaning" ["first", "second"] spSameM := by
  obtain ⟨f_between, d_between, G_between, g_between, k_between, b_between⟩ := C1
  refine D.has fun f fd F => F.ok sc_same_meaning (fun vs H Q E h => ?_) (fun cdv A outer s H vs Q E hr h => ?_)
  · obtain ⟨_, _, _, _, rfl, _⟩ := h
    rfl
  · obtain ⟨a, b, r1, r2, rfl, hr1, hr2, ok1, ok2, q⟩ := h
    refine ⟨_, (pss_cons (ps_set (i := 2) sc_same_meaning.nd rfl (.inl rfl) (pe_callB (call_max2 rfl) (by rfl) T.max (by decide +kernel) (pa_cons (pe_ix ix_tup (pv 0) pe_int (fun _ _ => rfl)) (pa_cons (pe_ix ix_tup (pv 1) pe_int (fun _ _ => rfl)) pa_nil))))
    (pss_cons (ps_set (i := 3) sc_same_meaning.nd rfl (.inl rfl) (pe_callB (call_min2 rfl) (by rfl) T.min (by decide +kernel) (pa_cons (pe_ix ix_tup (pv 0) pe_int (fun _ _ => rfl)) (pa_cons (pe_ix ix_tup (pv 1) pe_int (fun _ _ => rfl)) pa_nil))))
    (pss_cons (ps_if (pt_cmpR op_gt (pv 2) (pv 3) (nomark _))
      (pss_one (ps_ret pe_bl))
      pss_nil)
    (pss_cons (ps_set (i := 4) sc_same_meaning.nd rfl (.inl rfl) pe_dnewK)
    (pss_cons (ps_for PassesOwn.never rfl (pi_tup (pe_call G_between (hr.mono (by omega)) (by rfl) g_between k_between b_between .nil pass0 (pa_cons (pv 1) (pa_cons (pv 2) (pa_cons (pv 3) pa_nil))))) (pg_tup rfl (pgs_cons (pg_name (i := 5) sc_same_meaning.nd rfl (.inl rfl)) (pgs_cons (pg_name (i := 6) sc_same_meaning.nd rfl (.inr rfl)) pgs_nil)))
      (pss_one (ps_expr (pe_bm PySem.F.plainAttrs_list PySem.F.slot_list_append PySem.F.type_list_append mt_append (pe_dsetd (pv 4) (pv 5) (pe_lst pa_nil) ⟨rfl, rfl, rfl, rfl⟩) (pa_cons (pv 6) pa_nil)))))
    (pss_cons (ps_for PassesOwn.never rfl (pi_tup (pe_call G_between (hr.mono (by omega)) (by rfl) g_between k_between b_between .nil pass0 (pa_cons (pv 0) (pa_cons (pv 2) (pa_cons (pv 3) pa_nil))))) (pg_tup rfl (pgs_cons (pg_name (i := 5) sc_same_meaning.nd rfl (.inl rfl)) (pgs_cons (pg_name (i := 6) sc_same_meaning.nd rfl (.inr rfl)) pgs_nil)))
      (pss_one (ps_if (pt_val (pe_callB (cr_any rfl) (by rfl) T.any (by decide +kernel) (pa_cons (pe_lc (own := [("others", 7)]) (g := gName 7) (tt := tYes) rfl sc_same_meaning.nd (pi_or2 (pe_dget2 (hu_of hr) (pv 4) (pv 5) (pe_tup pa_nil) ⟨rfl, rfl, rfl, rfl⟩)) (blkOk_by (N := ["first", "second", "low", "high", "known", "name", "bits", "others"]) (sc := defScope s_same_meaning) (own := [("others", 7)]) (by decide +kernel)) (fun _ _ _ _ _ => (pg_name (i := 7) sc_same_meaning.nd rfl (.inl rfl))) (fun _ _ _ _ _ => pts_nil) (fun _ _ _ _ _ => (pe_cmpR (kNeD (K := K) rfl hr.units) (pv 7) (pv 6) (nomark _)))) pa_nil)))
        (pss_one (ps_ret pe_bl))
        pss_nil)))
    (pss_one (ps_ret pe_bl)))))))), ?_⟩
    have hr1' := hr1
    have hr2' := hr2
    obtain ⟨rt1, ra1, ha1, hrt1, hA1⟩ := hr1'
    obtain ⟨rt2, ra2, ha2, hrt2, hA2⟩ := hr2'
    obtain ⟨b1, b2, b3, b4⟩ := bnds r1 r2
    have hl1 := ok1.rows
    have hl2 := ok2.rows
    refine ⟨_, rfl, _, _, _, _, rfl, rfl, SqT.of ha1, atI_nat (j := 0) rfl, _, rfl, _, _, _, _, rfl, rfl, SqT.of ha2, atI_nat (j := 0) rfl, _, _, rfl, ?_⟩
    refine ⟨_, rfl, _, _, _, _, rfl, rfl, SqT.of ha1, atI_nat (j := 1) rfl, _, rfl, _, _, _, _, rfl, rfl, SqT.of ha2, atI_nat (j := 1) rfl, _, _, rfl, ?_⟩
    rw [show (if r2.low > r1.low then r2.low else r1.low) = loR r1 r2 from rfl, show (if r2.high < r1.high then r2.high else r1.high) = hiR r1 r2 from rfl]
    by_cases c1 : hiR r1 r2 < loR r1 r2
    · refine ⟨_, rfl, _, rfl, _, _, rfl, rfl, _, rfl, iteY (decide_eq_true (by omega)) ?_⟩
      have := q H (Ex.refl _)
      unfold agreeB at this
      rw [decide_eq_true c1] at this
      exact this
    refine ⟨_, rfl, _, rfl, _, _, rfl, rfl, _, rfl, iteN (decide_eq_false (by omega)) ?_⟩
    refine fun D0 nD0 => ?_
    have E1 : Ex H (upd H D0 (.dK [])) := Ex.new nD0
    refine ⟨_, rfl, _, rfl, _, rfl, b, r2, _, _, rfl, ⟨rt2, ra2, E1 _ _ ha2, E1 _ _ hrt2, hA2.imp fun _ _ z => z.ex E1⟩, ok2, b2, by omega, b4, fun st sa H2 E2 hst hS => ?_⟩
    have hag : agreeB r1 r2 = r1.rows.all fun x => r2.rows.all fun y => agrees r1 r2 x y := by unfold agreeB; rw [decide_eq_false c1]; rfl
    have hax : ∀ x y, agrees r1 r2 x y = (!decide (x.1 = y.1) || decide (slB r1.low x.2 (loR r1 r2) (hiR r1 r2) = slB r2.low y.2 (loR r1 r2) (hiR r1 r2))) := fun _ _ => rfl
    generalize loR r1 r2 = lo at *
    generalize hiR r1 r2 = hi at *
    have hD2 : H2 D0 = some (.dK []) := E2 _ _ upd_same
    have E02 := E1.trans E2
    have hsl : sa.length = r2.rows.length := by rw [hS.1]; unfold subR; rw [List.length_map]
    generalize hB2 : (subR r2 lo hi).rows = B2 at *
    refine ⟨st, rfl, ⟨_, SqT.of hst⟩, for_tup (K := K) (a := st) (xs := sa.map V.ref)
      (fun k σ H' => Ex H H' ∧ TupEx H2 H' ∧ (∃ (es : List (Key × V)) (qs : Qs), H' D0 = some (.dK es) ∧ es.length ≤ k ∧ qs.length = k ∧ ByK H H' es (occQ qs) ∧ qs.map (fun q => (q.1, q.2.2)) = (B2.take k).map (fun x => (mk x.1, x.2)) ∧ ∀ q ∈ qs, H2 q.2.1 = some (.tup (q.2.2.map V.bl))) ∧ ∃ y5 y6 : Option V, σ = [some (.ref a), some (.ref b), some (.int lo), some (.int hi), some (.ref D0), y5, y6, none])
      ⟨E02, fun _ _ z => z, ⟨[], [], hD2, Nat.le_refl _, rfl, ⟨(fun _ _ h => nomatch h), (fun _ _ => rfl), (fun _ _ _ h => nomatch h)⟩, rfl, fun _ h => nomatch h⟩, _, _, rfl⟩ (fun k σ H' _ g => SqT.of (g.2.1 _ _ hst)) ?_ ?_⟩
    · rintro k z σ H3 hz ⟨E3, T3, ⟨es, qs, hD, hel, hql, hBy, hqs, hqa⟩, y5, y6, rfl⟩
      obtain ⟨b1, hb, rfl⟩ := refs_get hz
      obtain ⟨x, hx, bt, hb1, hb2⟩ := hS.at_ hb
      have hk := (List.getElem?_eq_some_iff.mp hb).1
      refine ⟨b1, _, rfl, SqT.of (T3 _ _ hb1), rfl, _, _, rfl, _, _, rfl, rfl, ?_⟩
      refine ⟨_, rfl, D0, rfl, .inl ⟨es, .inl hD⟩, _, rfl, Nat.zero_le _, fun e ne => ?_⟩
      have hD4 : upd H3 e (.lst []) D0 = some (.dK es) := Ex.new ne _ _ hD
      have E4 : Ex H3 (upd H3 e (.lst [])) := Ex.new ne
      have ne0 : H e = none := fresh_back E3 ne
      have hocc : ∀ s, occQ (qs ++ [(mk x.1, bt, x.2)]) s = if s = mk x.1 then occQ qs s ++ [bt] else occQ qs s := fun s => occQ_snoc qs _ _ _ s
      have hlo : ∀ s, (occQ qs s).length ≤ k := fun s => by
        unfold occQ
        rw [List.length_map, ← hql]
        exact List.length_filter_le _ _
      have hqs2 : (qs ++ [(mk x.1, bt, x.2)]).map (fun q => (q.1, q.2.2)) = (B2.take (k + 1)).map (fun x => (mk x.1, x.2)) := by rw [take_snoc1 hx, List.map_append, List.map_append, hqs]; rfl
      have hqa2 : ∀ q ∈ qs ++ [(mk x.1, bt, x.2)], H2 q.2.1 = some (.tup (q.2.2.map V.bl)) := fun q hq => by
        rcases List.mem_append.mp hq with w | w
        · exact hqa q w
        · rw [List.mem_singleton.mp w]; exact hb2
      refine ⟨es, .inr (mk x.1), hD4, rfl, sz_lt (by omega), fun v hv => ?_, fun hv => ?_⟩
      · obtain ⟨L, rfl, hL, nL⟩ := hBy.some_ _ v hv
        have hL4 := E4 _ _ hL
        refine ⟨.inl ⟨rfl, _, SqL.of hL4⟩, _, rfl, L, _, _, rfl, rfl, hL4, sz_lt (by rw [List.length_map]; have := hlo (mk x.1); omega), (E3.trans E4).mut nL, TupEx.trans (TupEx.trans T3 (exTe E4)) (te_put hL4), ⟨es, qs ++ [(mk x.1, bt, x.2)], ?_, by omega, by rw [List.length_append, hql]; rfl, ?_, hqs2, hqa2⟩, _, _, rfl⟩
        · rw [upd_ne (ne_of hD4 hL4 (by intro z; cases z))]; exact hD4
        · exact (hBy.ex E4).old hv _ hocc
      · have n1 : e ≠ D0 := (ne_of_none hD ne).symm
        have hL4 : upd (upd H3 e (.lst [])) D0 (.dK (putK es (.inr (mk x.1)) (.ref e))) e = some (.lst []) := by rw [upd_ne n1]; exact upd_same
        have T5 : TupEx H3 (upd (upd (upd H3 e (.lst [])) D0 (.dK (putK es (.inr (mk x.1)) (.ref e)))) e (.lst ([] ++ [.ref bt]))) := fun c xs hc => by
          rw [upd_ne (ne_of_none hc ne), upd_ne (ne_of hc hD (by intro z; cases z)), upd_ne (ne_of_none hc ne)]; exact hc
        refine ⟨.inl ⟨rfl, _, SqL.of hL4⟩, _, rfl, e, [], _, rfl, rfl, hL4, (by show 0 < sizeLine; decide), ?_, TupEx.trans T3 T5, ⟨putK es (.inr (mk x.1)) (.ref e), qs ++ [(mk x.1, bt, x.2)], ?_, Nat.le_trans (length_putK _ _ _) (by omega), by rw [List.length_append, hql]; rfl, ?_, hqs2, hqa2⟩, _, _, rfl⟩
        · exact Ex.mut (Ex.mut (E3.trans E4) nD0) ne0
        · rw [upd_ne n1.symm, upd_same]
        · exact hBy.new_ hv ⟨es, hD⟩ ne ne0 _ hocc
    · rintro σ H3 ⟨E3, T3, ⟨es, qs, hD, hel, hql, hBy, hqs, hqa⟩, y5, y6, rfl⟩
      rw [List.length_map, hS.1, List.take_length] at hqs
      rw [List.length_map, hS.1] at hel
      have hqs0 : qs.map (fun q => (q.1, q.2.2)) = r2.rows.map fun y => (mk y.1, slB r2.low y.2 lo hi) := by
        rw [hqs, ← hB2]; unfold subR; rw [List.map_map]; rfl
      have hE3a := hA1.imp fun _ _ z => z.ex E3
      refine ⟨_, rfl, _, rfl, _, rfl, a, r1, _, _, rfl, ⟨rt1, ra1, E3 _ _ ha1, E3 _ _ hrt1, hE3a⟩, ok1, b1, by omega, b3, fun ft fa H5 E5 hft hF => ?_⟩
      have hD5 := E5 _ _ hD
      have hBy5 := hBy.ex E5
      have T5 : TupEx H2 H5 := TupEx.trans T3 (exTe E5)
      have hfl : fa.length = r1.rows.length := by rw [hF.1]; unfold subR; rw [List.length_map]
      refine ⟨ft, rfl, ⟨_, SqT.of hft⟩, for_tup (K := K) (a := ft) (xs := fa.map V.ref)
        (fun k σ H' => Ex H5 H' ∧ (∀ x ∈ r1.rows.take k, ∀ y ∈ r2.rows, agrees r1 r2 x y = true) ∧ ∃ y5 y6 : Option V, σ = [some (.ref a), some (.ref b), some (.int lo), some (.int hi), some (.ref D0), y5, y6, none])
        ⟨Ex.refl _, fun _ h => (by simp at h), _, _, rfl⟩ (fun k σ H' _ g => SqT.of (g.1 _ _ hft)) ?_ ?_⟩
      · rintro k z σ H6 hz ⟨E6, hagr, y5, y6, rfl⟩
        obtain ⟨b1', hb, rfl⟩ := refs_get hz
        obtain ⟨x', hx', bt, hb1, hb2⟩ := hF.at_ hb
        obtain ⟨x, hx, rfl⟩ : ∃ x, r1.rows[k]? = some x ∧ x' = (x.1, slB r1.low x.2 lo hi) := by
          unfold subR at hx'
          rw [List.getElem?_map] at hx'
          obtain ⟨x, hx, e⟩ := Option.map_eq_some_iff.mp hx'
          exact ⟨x, hx, e.symm⟩
        have hD6 := E6 _ _ hD5
        have hBy6 := hBy5.ex E6
        have hbt6 := E6 _ _ hb2
        have T6 : TupEx H2 H6 := TupEx.trans T5 (exTe E6)
        have hqf : ∀ q ∈ qs.filter (fun q => decide (q.1 = mk x.1)), H6 q.2.1 = some (.tup (q.2.2.map V.bl)) := fun q hq => T6 _ _ (hqa q (List.mem_filter.mp hq).1)
        have hfll : (qs.filter fun q => decide (q.1 = mk x.1)).length ≤ 5 := by
          refine Nat.le_trans (List.length_filter_le _ _) ?_
          have := congrArg List.length hqs0
          rw [List.length_map, List.length_map] at this
          omega
        generalize hbs : slB r1.low x.2 lo hi = xb at *
        have yes : ((qs.filter fun q => decide (q.1 = mk x.1)).map fun q => !decide (q.2.2 = xb)).any id = true → agreeB r1 r2 = false := fun h => by
          rw [List.any_map, List.any_eq_true] at h
          obtain ⟨q, hq, hne⟩ := h
          obtain ⟨hq1, hq2⟩ := List.mem_filter.mp hq
          have hm : (q.1, q.2.2) ∈ r2.rows.map fun y => (mk y.1, slB r2.low y.2 lo hi) := by rw [← hqs0]; exact List.mem_map.mpr ⟨q, hq1, rfl⟩
          obtain ⟨y, hy, e⟩ := List.mem_map.mp hm
          have e1 : mk y.1 = q.1 := congrArg Prod.fst e
          have e2 : slB r2.low y.2 lo hi = q.2.2 := congrArg Prod.snd e
          have exy : x.1 = y.1 := by
            have := e1.trans (of_decide_eq_true hq2)
            have := congrArg tl this
            exact this.symm
          have hno : agrees r1 r2 x y = false := by
            rw [hax, hbs, e2, decide_eq_true exy]
            have hne : (!decide (q.2.2 = xb)) = true := hne
            have : ¬ xb = q.2.2 := fun z => by rw [z, decide_eq_true rfl] at hne; cases hne
            rw [decide_eq_false this]; rfl
          rw [hag, Bool.eq_false_iff]
          intro h
          rw [List.all_eq_true] at h
          have := h x (List.mem_of_getElem? hx)
          rw [List.all_eq_true] at this
          have := this y hy
          rw [hno] at this; cases this
        have no : ((qs.filter fun q => decide (q.1 = mk x.1)).map fun q => !decide (q.2.2 = xb)).any id = false → ∀ y ∈ r2.rows, agrees r1 r2 x y = true := fun h y hy => by
          rw [List.any_map, List.any_eq_false] at h
          rw [hax, hbs]
          by_cases exy : x.1 = y.1
          · have hm : (mk y.1, slB r2.low y.2 lo hi) ∈ qs.map (fun q => (q.1, q.2.2)) := by rw [hqs0]; exact List.mem_map.mpr ⟨y, hy, rfl⟩
            obtain ⟨q, hq, e⟩ := List.mem_map.mp hm
            have e1 : q.1 = mk y.1 := congrArg Prod.fst e
            have e2 : q.2.2 = slB r2.low y.2 lo hi := congrArg Prod.snd e
            have := h q (List.mem_filter.mpr ⟨hq, decide_eq_true (by rw [e1, exy])⟩)
            have this : ¬ (!decide (q.2.2 = xb)) = true := this
            have he : xb = q.2.2 := by
              by_cases z : q.2.2 = xb
              · exact z.symm
              · rw [decide_eq_false z] at this; exact absurd rfl this
            rw [← e2, he, decide_eq_true rfl, Bool.or_true]
          · rw [decide_eq_false exy]; rfl
        have fin : ∀ {H' : Hp}, ((qs.filter fun q => decide (q.1 = mk x.1)).map fun q => !decide (q.2.2 = xb)).any id = false → ∀ z ∈ r1.rows.take (k + 1), ∀ y ∈ r2.rows, agrees r1 r2 z y = true := fun h z hz => by
          rw [take_snoc1 hx] at hz
          rcases List.mem_append.mp hz with w | w
          · exact hagr z w
          · rw [List.mem_singleton.mp w]; exact no h
        refine ⟨b1', _, rfl, SqT.of (E6 _ _ hb1), rfl, _, _, rfl, _, _, rfl, rfl, ?_⟩
        have getq : DGet H6 D0 (.str (mk x.1)) (valV es (.inr (mk x.1))) := DGet.k (k := Sum.inr (mk x.1)) hD6
        cases hv : valV es (.inr (mk x.1)) with
        | some v =>
          obtain ⟨L, rfl, hL, _⟩ := hBy6.some_ _ v hv
          unfold occQ at hL
          refine .inl ⟨_, rfl, D0, rfl, .inl ⟨es, .inl hD6⟩, _, rfl, Nat.zero_le _, fun t0 nt0 => ?_⟩
          have E7 : Ex H6 (upd H6 t0 (.tup [])) := Ex.new nt0
          have g7 : DGet (upd H6 t0 (.tup [])) D0 (.str (mk x.1)) (some (.ref L)) := by
            have := DGet.k (k := Sum.inr (mk x.1)) (E7 _ _ hD6)
            rw [hv] at this; exact this
          have hL7 := E7 _ _ hL
          have hb7 := E7 _ _ hbt6
          have hq7 : ∀ q ∈ qs.filter (fun q => decide (q.1 = mk x.1)), upd H6 t0 (.tup []) q.2.1 = some (.tup (q.2.2.map V.bl)) := fun q hq => E7 _ _ (hqf q hq)
          refine ⟨_, g7, L, rfl, ⟨_, SqL.of hL7⟩, fun R nR => wk_list (K := K) (a := L) (xs := ((qs.filter fun q => decide (q.1 = mk x.1)).map (·.2.1)).map V.ref) (fun j H' => Ex (upd H6 t0 (.tup [])) H' ∧ H' R = some (.lst ((((qs.filter fun q => decide (q.1 = mk x.1)).take j).map fun q => !decide (q.2.2 = xb)).map V.bl))) ⟨Ex.new nR, upd_same⟩ (fun j H' _ g => SqL.of (g.1 _ _ hL7)) ?_ ?_⟩
          · rintro j y H8 hy ⟨E8, hR⟩
            rw [List.map_map, List.getElem?_map] at hy
            obtain ⟨q, hq, rfl⟩ := Option.map_eq_some_iff.mp hy
            have hj := (List.getElem?_eq_some_iff.mp hq).1
            refine ⟨rfl, tYes_in ?_⟩
            simp only [wipe, _root_.L2.start, List.map_cons, List.map_nil, List.length_cons, List.length_nil, Nat.reduceAdd, Nat.reduceSub, List.replicate_succ, List.replicate_zero, List.cons_append, List.nil_append, List.set_cons_zero, List.set_cons_succ]
            refine ⟨_, rfl, _, rfl, _, _, dp_blsT (E8 _ _ (hq7 q (List.mem_of_getElem? hq))), dp_blsT (E8 _ _ hb7), blsT_shaped _, blsT_shaped _, _, hR, ?_, E8.mut nR, ?_⟩
            · rw [List.length_map, List.length_map, List.length_take]; exact sz_lt (by omega)
            · rw [upd_same, take_snoc1 hq, eqv_blsT, List.map_append, List.map_append]; rfl
          rintro H8 ⟨E8, hR⟩
          rw [List.length_map, List.length_map, List.take_length] at hR
          cases hany : ((qs.filter fun q => decide (q.1 = mk x.1)).map fun q => !decide (q.2.2 = xb)).any id with
          | true =>
            refine ⟨R, _, rfl, SqL.of hR, _, rfl, iteY hany ?_⟩
            have := q H8 ((E3.trans (E5.trans (E6.trans E7))).trans E8)
            rw [yes hany] at this
            exact this
          | false =>
            refine ⟨R, _, rfl, SqL.of hR, _, rfl, iteN hany ⟨(E6.trans E7).trans E8, fin (H' := H8) hany, _, _, rfl⟩⟩
        | none =>
          have hemp := hBy6.none_ _ hv
          unfold occQ at hemp
          have hemp2 : (qs.filter fun q => decide (q.1 = mk x.1)) = [] := List.map_eq_nil_iff.mp hemp
          refine .inr ⟨_, rfl, D0, rfl, .inl ⟨es, .inl hD6⟩, _, rfl, Nat.zero_le _, fun t0 nt0 => ?_⟩
          have E7 : Ex H6 (upd H6 t0 (.tup [])) := Ex.new nt0
          have g7 : DGet (upd H6 t0 (.tup [])) D0 (.str (mk x.1)) none := by
            have := DGet.k (k := Sum.inr (mk x.1)) (E7 _ _ hD6)
            rw [hv] at this; exact this
          refine ⟨_, g7, t0, rfl, ⟨_, SqT.of upd_same⟩, fun R nR => wk_tup (K := K) (a := t0) (xs := []) (fun j H' => Ex (upd H6 t0 (.tup [])) H' ∧ H' R = some (.lst [])) ⟨Ex.new nR, upd_same⟩ (fun j H' _ g => SqT.of (g.1 _ _ upd_same)) (fun _ _ _ h => nomatch h) ?_⟩
          rintro H8 ⟨E8, hR⟩
          have hany : ((qs.filter fun q => decide (q.1 = mk x.1)).map fun q => !decide (q.2.2 = xb)).any id = false := by rw [hemp2]; rfl
          exact ⟨R, [], rfl, SqL.of hR, _, rfl, iteN rfl ⟨(E6.trans E7).trans E8, fin (H' := H8) hany, _, _, rfl⟩⟩
      · rintro σ H6 ⟨E6, hagr, y5, y6, rfl⟩
        rw [List.length_map, hfl, List.take_length] at hagr
        have := q H6 (E3.trans (E5.trans E6))
        rw [hag, show (r1.rows.all fun x => r2.rows.all fun y => agrees r1 r2 x y) = true from by
          rw [List.all_eq_true]
          intro x hx
          rw [List.all_eq_true]
          exact hagr x hx] at this
        exact this
end
end G
namespace G
open PySem PySem.Spec PyProof.Rows L2 Evl TL
section
variable {P : Program} {w : World} {K : PySem.W.Frag} {mg : Str → Option Value} {base : Heap}
def spTold : Sp := fun vs H Q _ => (∃ (a : Addr) (r : RecD) (lo hi : Int), vs = [.int 0, .ref a, .int lo, .int hi] ∧ RecAt H a r ∧ RcOk r ∧ ¬ CutOk r lo hi ∧ ∀ H', Ex H H' → Q (.int 0) H') ∨
  ∃ (a b : Addr) (r1 r2 : RecD), vs = [.int 1, .ref a, .ref b, .int 0] ∧ RecAt H a r1 ∧ RecAt H b r2 ∧ RcOk r1 ∧ RcOk r2 ∧ ¬ GlueOk r1 r2 ∧ ∀ H', Ex H H' → Q (.int 1) H'
theorem sc_law_told : FnScope ["kind", "first", "second", "third", "e"] ["kind", "first", "second", "third"] (defScope s_law_told) := ⟨rfl, rfl, rfl, by decide +kernel, rfl, by decide +kernel, by decide +kernel⟩
theorem ok_law_told {B R S : Addr} (D : Dfd K mg "_law_told" s_law_told ["kind", "first", "second", "third"]) (T : TxtV mg) (g_BadArgument : mg "BadArgument" = some (.ref B)) (g_Refused : mg "Refused" = some (.ref R)) (g_SignoffError : mg "SignoffError" = some (.ref S))
    (iB : ExcC K B) (iR : ExcC K R) (bb : PySem.W.kitOne K (.ref B) (.ref B) = some true) (br : PySem.W.kitOne K (.ref B) (.ref R) = some false) (rb : PySem.W.kitOne K (.ref R) (.ref B) = some false) (rr : PySem.W.kitOne K (.ref R) (.ref R) = some true) (hitB : PySem.W.exmOne K (.ref B) (.ref S) = some true) (hitR : PySem.W.exmOne K (.ref R) (.ref S) = some true)
    (C1 : HasX P w K mg base 2 "cut" ["record", "low", "high"] (spCut B)) (C2 : HasX P w K mg base 1 "glued" ["first", "second"] (spGlued R)) : Has P w K mg base 3 "_law_told" ["kind", "first", "second", "third"] spTold := by
  obtain ⟨f_cut, d_cut, G_cut, g_cut, k_cut, b_cut⟩ := C1
  obtain ⟨f_glued, d_glued, G_glued, g_glued, k_glued, b_glued⟩ := C2
  refine D.has fun f fd F => F.ok sc_law_told (fun vs H Q E h => ?_) (fun cdv A outer s H vs Q E hr h => ?_)
  · rcases h with ⟨_, _, _, _, rfl, _⟩ | ⟨_, _, _, _, rfl, _⟩ <;> rfl
  · rcases h with ⟨a, r, lo, hi, rfl, hrec, ok, hno, q⟩ | ⟨a, b, r1, r2, rfl, h1, h2, ok1, ok2, hno, q⟩
    · refine ⟨_, (pss_cons (ps_try_as (c := .ref S) (i := 4) rfl rfl sc_law_told.nd rfl rfl ⟨rfl, by decide, .inl g_SignoffError⟩ takes0
      (fun W pn xe tk hp => (pss_one (ps_if (pt_cmpR op_eq (pv 0) pe_int (nomark _))
          (pss_one (ps_expr (pe_callS G_cut (hr.mono (by omega)) rfl g_cut k_cut b_cut (fun σ => passAt tk σ) (pa_cons (pv 1) (pa_cons (pv 2) (pa_cons (pv 3) pa_nil))))))
          (pss_one (ps_expr (pe_callS G_glued (hr.mono (by omega)) rfl g_glued k_glued b_glued (fun σ => passAt tk σ) (pa_cons (pv 1) (pa_cons (pv 2) pa_nil))))))))
      (fun a oe cls dd pn hz hf => (pss_one (ps_ret (kBm (K := K) rfl PySem.F.plainAttrs_list PySem.F.slot_list_index PySem.F.type_list_index (kMtIndex (K := K) rfl) (pe_lst (pa_cons (pe_isE hz hf (fun D hz1 ic => pe_callB (call_isE ic hz1 hf) (by rfl) T.isinstance (by decide +kernel) (pa_cons (pv 4) (pa_cons (gRef rfl g_BadArgument) pa_nil)))) (pa_cons (pe_isE hz hf (fun D hz1 ic => pe_callB (call_isE ic hz1 hf) (by rfl) T.isinstance (by decide +kernel) (pa_cons (pv 4) (pa_cons (gRef rfl g_Refused) pa_nil)))) pa_nil))) (pa_cons pe_bl pa_nil))))))
    (pss_one (ps_ret (pe_un un_neg pe_int)))), ?_⟩
      refine ⟨_, rfl, rfl, _, rfl, iteY rfl ⟨_, rfl, _, rfl, _, rfl, a, r, lo, hi, rfl, hrec, ok, fun z => (hno z).elim, fun _ H1 E1 => ⟨true, hitB, fun _ e ne => ?_, fun q => nomatch q⟩⟩⟩
      refine ⟨B, ⟨rfl, rfl, iB⟩, _, rfl, .ref B, .ref B, true, rfl, (fun u hu => hu), bb, B, ⟨rfl, rfl, iB⟩, _, rfl, .ref R, .ref R, false, rfl, (fun u hu => hu), br, (by show 2 ≤ sizeLine; decide), fun l nl => ?_⟩
      exact ⟨.inl ⟨rfl, _, SqL.of upd_same⟩, l, [.bl true, .bl false], .bl true, 0, .bl true, rfl, rfl, SqL.of upd_same, rfl, rfl, rfl, rfl, fun m z hm => by omega, q _ (E1.trans (Ex.new nl))⟩
    · refine ⟨_, (pss_cons (ps_try_as (c := .ref S) (i := 4) rfl rfl sc_law_told.nd rfl rfl ⟨rfl, by decide, .inl g_SignoffError⟩ takes0
      (fun W pn xe tk hp => (pss_one (ps_if (pt_cmpR op_eq (pv 0) pe_int (nomark _))
          (pss_one (ps_expr (pe_callS G_cut (hr.mono (by omega)) rfl g_cut k_cut b_cut (fun σ => passAt tk σ) (pa_cons (pv 1) (pa_cons (pv 2) (pa_cons (pv 3) pa_nil))))))
          (pss_one (ps_expr (pe_callS G_glued (hr.mono (by omega)) rfl g_glued k_glued b_glued (fun σ => passAt tk σ) (pa_cons (pv 1) (pa_cons (pv 2) pa_nil))))))))
      (fun a oe cls dd pn hz hf => (pss_one (ps_ret (kBm (K := K) rfl PySem.F.plainAttrs_list PySem.F.slot_list_index PySem.F.type_list_index (kMtIndex (K := K) rfl) (pe_lst (pa_cons (pe_isE hz hf (fun D hz1 ic => pe_callB (call_isE ic hz1 hf) (by rfl) T.isinstance (by decide +kernel) (pa_cons (pv 4) (pa_cons (gRef rfl g_BadArgument) pa_nil)))) (pa_cons (pe_isE hz hf (fun D hz1 ic => pe_callB (call_isE ic hz1 hf) (by rfl) T.isinstance (by decide +kernel) (pa_cons (pv 4) (pa_cons (gRef rfl g_Refused) pa_nil)))) pa_nil))) (pa_cons pe_bl pa_nil))))))
    (pss_one (ps_ret (pe_un un_neg pe_int)))), ?_⟩
      refine ⟨_, rfl, rfl, _, rfl, iteN rfl ⟨_, rfl, _, rfl, a, b, r1, r2, rfl, h1, h2, ok1, ok2, fun z => (hno z).elim, fun _ H1 E1 => ⟨true, hitR, fun _ e ne => ?_, fun q => nomatch q⟩⟩⟩
      refine ⟨R, ⟨rfl, rfl, iR⟩, _, rfl, .ref B, .ref B, false, rfl, (fun u hu => hu), rb, R, ⟨rfl, rfl, iR⟩, _, rfl, .ref R, .ref R, true, rfl, (fun u hu => hu), rr, (by show 2 ≤ sizeLine; decide), fun l nl => ?_⟩
      exact ⟨.inl ⟨rfl, _, SqL.of upd_same⟩, l, [.bl false, .bl true], .bl true, 1, .bl true, rfl, rfl, SqL.of upd_same, rfl, rfl, rfl, rfl, fun m z hm hz => by
        have : m = 0 := by omega
        subst this
        cases hz; rfl, q _ (E1.trans (Ex.new nl))⟩
def spLCut : Sp := fun vs H Q _ => ∃ (a : Addr) (r : RecD) (lo hi : Int), vs = [.ref a, .int lo, .int hi] ∧ RecAt H a r ∧ RcOk r ∧ CutOk r lo hi ∧ ∀ (c : Addr) (H' : Hp), Ex H H' → RecAt H' c (subR r lo hi) → Q (.ref c) H'
theorem sc_law_cut : FnScope ["record", "low", "high", "rows", "row"] ["record", "low", "high"] (defScope s_law_cut) := ⟨rfl, rfl, rfl, by decide +kernel, rfl, by decide +kernel, by decide +kernel⟩
theorem ok_law_cut (D : Dfd K mg "_law_cut" s_law_cut ["record", "low", "high"]) (T : TxtV mg) : Has P w K mg base 1 "_law_cut" ["record", "low", "high"] spLCut := by
  refine D.has fun f fd F => F.ok sc_law_cut (fun vs H Q E h => ?_) (fun cdv A outer s H vs Q E hr h => ?_)
  · obtain ⟨_, _, _, _, rfl, _⟩ := h
    rfl
  · obtain ⟨a, r, lo, hi, rfl, hrec, ok, hv, q⟩ := h
    refine ⟨_, (pss_cons (ps_set (i := 3) sc_law_cut.nd rfl (.inl rfl) (pe_lst pa_nil))
    (pss_cons (ps_for PassesOwn.never rfl (pi_tup (pe_ix ix_tup (pv 0) pe_int (fun _ _ => rfl))) (pg_name (i := 4) sc_law_cut.nd rfl (.inl rfl))
      (pss_one (ps_expr (pe_bm PySem.F.plainAttrs_list PySem.F.slot_list_append PySem.F.type_list_append mt_append (pv 3) (pa_cons (pe_tup (pa_cons (pe_ix ix_tup (pv 4) pe_int (fun _ _ => rfl)) (pa_cons (pe_slice sl_tupA (pe_ix ix_tup (pv 4) pe_int (fun _ _ => rfl)) (po_some (pe_op op_sub (pv 1) (pe_ix ix_tup (pv 0) pe_int (fun _ _ => rfl)))) (po_some (pe_op op_sub (pe_op op_add (pv 2) pe_int) (pe_ix ix_tup (pv 0) pe_int (fun _ _ => rfl))))) pa_nil))) pa_nil)))))
    (pss_one (ps_ret (pe_tup (pa_cons (pv 1) (pa_cons (pv 2) (pa_cons (pe_callTy call_tuple_of (by rfl) T.tuple (by decide +kernel) (pa_cons (pv 3) pa_nil)) pa_nil)))))))), ?_⟩
    have h3 : hi ≤ r.low + (r.size : Int) - 1 := hv.2.2
    obtain ⟨rt, ra, ha, hrt, hA⟩ := hrec
    have hrows := ok.rows
    refine ⟨Nat.zero_le _, fun L nL => ?_⟩
    have E0 : Ex H (upd H L (.lst [])) := Ex.new nL
    refine ⟨_, rfl, _, _, _, _, rfl, rfl, SqT.of (E0 _ _ ha), atI_nat (j := 2) rfl, rt, rfl, ⟨_, SqT.of (E0 _ _ hrt)⟩, for_tup (K := K) (a := rt) (xs := ra.map V.ref)
      (fun k σ H' => Ex H H' ∧ (∃ rb : List Addr, H' L = some (.lst (rb.map V.ref)) ∧ All2 (RowAt H') rb ((subR r lo hi).rows.take k)) ∧ ∃ y4 : Option V, σ = [some (.ref a), some (.int lo), some (.int hi), some (.ref L), y4])
      ⟨E0, ⟨[], upd_same, .nil⟩, _, rfl⟩ (fun k σ H' _ g => SqT.of (g.1 _ _ hrt)) ?_ ?_⟩
    · rintro k y σ H1 hy ⟨E1, ⟨rb, hL, hB⟩, y4, rfl⟩
      obtain ⟨b, hb, rfl⟩ := refs_get hy
      obtain ⟨x, hx, bt, hb1, hb2⟩ := hA.at_ hb
      have hk := (List.getElem?_eq_some_iff.mp hx).1
      obtain ⟨_, hxl⟩ := ok.row x (List.mem_of_getElem? hx)
      have hb1' := E1 _ _ hb1
      have ha1 := E1 _ _ ha
      refine ⟨_, rfl, .inl ⟨rfl, _, SqL.of hL⟩, _, rfl, _, _, _, _, rfl, rfl, SqT.of hb1', atI_nat (j := 0) rfl, ?_⟩
      refine ⟨_, rfl, _, _, _, _, rfl, rfl, SqT.of hb1', atI_nat (j := 1) rfl, _, rfl, _, rfl, _, _, _, _, rfl, rfl, SqT.of ha1, atI_nat (j := 0) rfl, _, _, rfl, rfl, _, rfl, _, rfl, _, _, rfl, rfl, _, rfl, _, _, _, _, rfl, rfl, SqT.of ha1, atI_nat (j := 0) rfl, _, _, rfl, rfl, _, rfl, cut_tup (E1 _ _ hb2) fun c H2 E2 hc => ⟨(by show 2 ≤ sizeLine; decide), fun t nt => ?_⟩⟩
      rw [show hi + 1 - r.low = hi - r.low + 1 by omega, cut_bits hxl hv.1 hv.2.1 h3] at hc
      have E3 : Ex H2 (upd H2 t (.tup [.str (mk x.1), .ref c])) := Ex.new nt
      have E13 := E2.trans E3
      have hL2 := E13 _ _ hL
      have hrow : RowAt (upd H2 t (.tup [.str (mk x.1), .ref c])) t (x.1, slB r.low x.2 lo hi) := ⟨c, upd_same, E3 _ _ hc⟩
      have hnx : ((subR r lo hi).rows)[k]? = some (x.1, slB r.low x.2 lo hi) := by unfold subR; rw [List.getElem?_map, hx]; rfl
      refine ⟨L, _, _, rfl, rfl, hL2, sz_lt (by rw [List.length_map, hB.1, List.length_take]; omega), (E1.trans E13).mut nL, ⟨rb ++ [t], by rw [upd_same, List.map_append]; rfl, ?_⟩, _, rfl⟩
      rw [take_snoc1 hnx]
      exact (hB.imp fun _ _ z => (z.ex E13).put hL2).snoc (hrow.put hL2)
    · rintro σ H1 ⟨E1, ⟨rb, hL, hB⟩, y4, rfl⟩
      have e0 : (subR r lo hi).rows.length = (ra.map V.ref).length := by unfold subR; rw [List.length_map, List.length_map, hA.1]
      rw [← e0, List.take_length] at hB
      refine ⟨_, rfl, _, rfl, _, rfl, _, _, rfl, .inl ⟨SqL.of hL, fun rt2 n2 => ⟨(by show 3 ≤ sizeLine; decide), fun c nc => ?_⟩⟩⟩
      have E2 : Ex H1 (upd H1 rt2 (.tup (rb.map V.ref))) := Ex.new n2
      have E3 : Ex (upd H1 rt2 (.tup (rb.map V.ref))) (upd (upd H1 rt2 (.tup (rb.map V.ref))) c (.tup [.int lo, .int hi, .ref rt2])) := Ex.new nc
      exact q c _ (E1.trans (E2.trans E3)) ⟨rt2, rb, by rw [upd_same, subR_high hv.2.1]; rfl, E3 _ _ upd_same, hB.imp fun _ _ z => z.ex (E2.trans E3)⟩
end
end G
namespace G
open PySem PySem.Spec PyProof.Rows L2 Evl TL
theorem agreeB_all (r1 r2 : RecD) : agreeB r1 r2 = r1.rows.all fun x => r2.rows.all fun y => agrees r1 r2 x y := by
  unfold agreeB
  by_cases h : hiR r1 r2 < loR r1 r2
  · rw [decide_eq_true h, Bool.true_or]
    symm
    rw [List.all_eq_true]
    intro x _
    rw [List.all_eq_true]
    intro y _
    unfold agrees slB
    rw [show (hiR r1 r2 - loR r1 r2 + 1).toNat = 0 by omega, List.take_zero, List.take_zero, decide_eq_true rfl, Bool.or_true]
  · rw [decide_eq_false h, Bool.false_or]
theorem slB_at {low : Int} {l : List Bool} {lo hi : Int} {t : Nat} {b : Bool} (h : (slB low l lo hi)[t]? = some b) : l[(lo - low).toNat + t]? = some b := by
  unfold slB at h
  rw [List.getElem?_take] at h
  split at h
  · rw [List.getElem?_drop] at h; exact h
  · cases h
theorem All2.set {α β : Type} {R : α → β → Prop} {as : List α} {bs : List β} (h : All2 R as bs) (k : Nat) {a : α} {b : β} (r : R a b) : All2 R (as.set k a) (bs.set k b) := by
  refine ⟨by rw [List.length_set, List.length_set, h.1], fun i x y h1 h2 => ?_⟩
  by_cases e : k = i
  · subst e
    rw [List.getElem?_set] at h1 h2
    rw [if_pos rfl] at h1 h2
    split at h1
    · split at h2
      · cases h1; cases h2; exact r
      · cases h2
    · cases h1
  · rw [List.getElem?_set_ne e] at h1 h2
    exact h.2 i x y h1 h2
theorem All2.rev {α β : Type} {R : α → β → Prop} {as : List α} {bs : List β} (h : All2 R as bs) : All2 R as.reverse bs.reverse := by
  refine ⟨by rw [List.length_reverse, List.length_reverse, h.1], fun i x y h1 h2 => ?_⟩
  have l1 := (List.getElem?_eq_some_iff.mp h1).1
  have l2 := (List.getElem?_eq_some_iff.mp h2).1
  rw [List.length_reverse] at l1 l2
  rw [List.getElem?_reverse l1] at h1
  rw [List.getElem?_reverse l2] at h2
  rw [← h.1] at h2
  exact h.2 _ x y h1 h2
section
variable {P : Program} {w : World} {K : PySem.W.Frag} {mg : Str → Option Value} {base : Heap}
def spAgree : Sp := fun vs H Q _ => ∃ (a b : Addr) (r1 r2 : RecD), vs = [.ref a, .ref b] ∧ RecAt H a r1 ∧ RecAt H b r2 ∧ RcOk r1 ∧ RcOk r2 ∧ Q (.bl (agreeB r1 r2)) H
theorem sc_law_agree : FnScope ["first", "second", "row", "other", "time"] ["first", "second"] (defScope s_law_agree) := ⟨rfl, rfl, rfl, by decide +kernel, rfl, by decide +kernel, by decide +kernel⟩
theorem ok_law_agree (D : Dfd K mg "_law_agree" s_law_agree ["first", "second"]) (T : TxtV mg) : Has P w K mg base 1 "_law_agree" ["first", "second"] spAgree := by
  refine D.has fun f fd F => F.ok sc_law_agree (fun vs H Q E h => ?_) (fun cdv A outer s H vs Q E hr h => ?_)
  · obtain ⟨_, _, _, _, rfl, _⟩ := h
    rfl
  · obtain ⟨a, b, r1, r2, rfl, hr1, hr2, ok1, ok2, q⟩ := h
    refine ⟨_, (pss_cons (ps_for PassesOwn.never rfl (pi_tup (pe_ix ix_tup (pv 0) pe_int (fun _ _ => rfl))) (pg_name (i := 2) sc_law_agree.nd rfl (.inl rfl))
      (pss_one (ps_for PassesOwn.never rfl (pi_tup (pe_ix ix_tup (pv 1) pe_int (fun _ _ => rfl))) (pg_name (i := 3) sc_law_agree.nd rfl (.inl rfl))
        (pss_one (ps_if (pt_cmpR op_eq (pe_ix ix_tup (pv 2) pe_int (fun _ _ => rfl)) (pe_ix ix_tup (pv 3) pe_int (fun _ _ => rfl)) (nomark _))
          (pss_one (ps_for PassesOwn.never rfl (pi_range2L rfl T.range (pa_cons (pe_callB (call_max2 rfl) (by rfl) T.max (by decide +kernel) (pa_cons (pe_ix ix_tup (pv 0) pe_int (fun _ _ => rfl)) (pa_cons (pe_ix ix_tup (pv 1) pe_int (fun _ _ => rfl)) pa_nil))) (pa_cons (pe_op op_add (pe_callB (call_min2 rfl) (by rfl) T.min (by decide +kernel) (pa_cons (pe_ix ix_tup (pv 0) pe_int (fun _ _ => rfl)) (pa_cons (pe_ix ix_tup (pv 1) pe_int (fun _ _ => rfl)) pa_nil))) pe_int) pa_nil))) (pg_name (i := 4) sc_law_agree.nd rfl (.inl rfl))
            (pss_one (ps_if (pt_cmpR op_ne (pe_ix ix_tup (pe_ix ix_tup (pv 2) pe_int (fun _ _ => rfl)) (pe_op op_sub (pv 4) (pe_ix ix_tup (pv 0) pe_int (fun _ _ => rfl))) (fun _ _ => rfl)) (pe_ix ix_tup (pe_ix ix_tup (pv 3) pe_int (fun _ _ => rfl)) (pe_op op_sub (pv 4) (pe_ix ix_tup (pv 1) pe_int (fun _ _ => rfl))) (fun _ _ => rfl)) (nomark _))
              (pss_one (ps_ret pe_bl))
              pss_nil))))
          pss_nil)))))
    (pss_one (ps_ret pe_bl))), ?_⟩
    obtain ⟨rt1, ra1, ha1, hrt1, hA1⟩ := hr1
    obtain ⟨rt2, ra2, ha2, hrt2, hA2⟩ := hr2
    obtain ⟨b1, b2, b3, b4⟩ := bnds r1 r2
    rw [agreeB_all] at q
    have hax : ∀ x y, agrees r1 r2 x y = (!decide (x.1 = y.1) || decide (slB r1.low x.2 (loR r1 r2) (hiR r1 r2) = slB r2.low y.2 (loR r1 r2) (hiR r1 r2))) := fun _ _ => rfl
    have bad : ∀ x ∈ r1.rows, ∀ y ∈ r2.rows, agrees r1 r2 x y = false → Q (.bl false) H := fun x hx y hy h => by
      have : (r1.rows.all fun x => r2.rows.all fun y => agrees r1 r2 x y) = false := by
        rw [Bool.eq_false_iff]
        intro z
        rw [List.all_eq_true] at z
        have z := z x hx
        rw [List.all_eq_true] at z
        have z := z y hy
        rw [h] at z; cases z
      rw [this] at q
      exact q
    refine ⟨_, rfl, _, _, _, _, rfl, rfl, SqT.of ha1, atI_nat (j := 2) rfl, rt1, rfl, ⟨_, SqT.of hrt1⟩, for_tup (K := K) (a := rt1) (xs := ra1.map V.ref)
      (fun k σ H' => H' = H ∧ (∀ x ∈ r1.rows.take k, ∀ y ∈ r2.rows, agrees r1 r2 x y = true) ∧ ∃ y2 y3 y4 : Option V, σ = [some (.ref a), some (.ref b), y2, y3, y4])
      ⟨rfl, fun _ h => (by simp at h), _, _, _, rfl⟩ (fun k σ H' _ g => by rw [g.1]; exact SqT.of hrt1) ?_ ?_⟩
    · rintro k z σ H1 hz ⟨rfl, hag, y2, y3, y4, rfl⟩
      obtain ⟨c1, hc, rfl⟩ := refs_get hz
      obtain ⟨x, hx, bt, hb1, hb2⟩ := hA1.at_ hc
      obtain ⟨_, hxl⟩ := ok1.row x (List.mem_of_getElem? hx)
      refine ⟨_, rfl, _, _, _, _, rfl, rfl, SqT.of ha2, atI_nat (j := 2) rfl, rt2, rfl, ⟨_, SqT.of hrt2⟩, for_tup (K := K) (a := rt2) (xs := ra2.map V.ref)
        (fun j σ H' => H' = H1 ∧ (∀ y ∈ r2.rows.take j, agrees r1 r2 x y = true) ∧ ∃ y3 y4 : Option V, σ = [some (.ref a), some (.ref b), some (.ref c1), y3, y4])
        ⟨rfl, fun _ h => (by simp at h), _, _, rfl⟩ (fun k σ H' _ g => by rw [g.1]; exact SqT.of hrt2) ?_ ?_⟩
      · rintro j z σ H2 hz ⟨rfl, hag2, y3, y4, rfl⟩
        obtain ⟨c2, hc2, rfl⟩ := refs_get hz
        obtain ⟨y, hy, bt', hb1', hb2'⟩ := hA2.at_ hc2
        obtain ⟨_, hyl⟩ := ok2.row y (List.mem_of_getElem? hy)
        have hnm : decide (V.str (mk x.1) = V.str (mk y.1)) = decide (x.1 = y.1) := decV_mk _ _
        have next : agrees r1 r2 x y = true → ∀ y' ∈ r2.rows.take (j + 1), agrees r1 r2 x y' = true := fun h y' hy' => by
          rw [take_snoc1 hy] at hy'
          rcases List.mem_append.mp hy' with q | q
          · exact hag2 y' q
          · rw [List.mem_singleton.mp q]; exact h
        by_cases exy : x.1 = y.1
        case neg =>
          refine ⟨_, rfl, _, _, _, _, rfl, rfl, SqT.of hb1, atI_nat (j := 0) rfl, _, rfl, _, _, _, _, rfl, rfl, SqT.of hb1', atI_nat (j := 0) rfl, rfl, _, rfl, iteN (hnm.trans (decide_eq_false exy)) ⟨rfl, next (by rw [hax, decide_eq_false exy]; rfl), _, _, rfl⟩⟩
        refine ⟨_, rfl, _, _, _, _, rfl, rfl, SqT.of hb1, atI_nat (j := 0) rfl, _, rfl, _, _, _, _, rfl, rfl, SqT.of hb1', atI_nat (j := 0) rfl, rfl, _, rfl, iteY (hnm.trans (decide_eq_true exy)) ?_⟩
        refine ⟨_, rfl, _, _, _, _, rfl, rfl, SqT.of ha1, atI_nat (j := 0) rfl, _, rfl, _, _, _, _, rfl, rfl, SqT.of ha2, atI_nat (j := 0) rfl, _, _, rfl, ?_⟩
        refine ⟨_, rfl, _, _, _, _, rfl, rfl, SqT.of ha1, atI_nat (j := 1) rfl, _, rfl, _, _, _, _, rfl, rfl, SqT.of ha2, atI_nat (j := 1) rfl, _, _, rfl, _, _, rfl, rfl, ?_⟩
        refine ⟨loR r1 r2, hiR r1 r2 + 1, rfl, for_range (n := (hiR r1 r2 + 1 - loR r1 r2).toNat) (lo := loR r1 r2)
          (fun t σ H' => H' = H2 ∧ (slB r1.low x.2 (loR r1 r2) (hiR r1 r2)).take t = (slB r2.low y.2 (loR r1 r2) (hiR r1 r2)).take t ∧ ∃ y4 : Option V, σ = [some (.ref a), some (.ref b), some (.ref c1), some (.ref c2), y4]) ⟨rfl, rfl, _, rfl⟩ ?_ ?_⟩
        · rintro t σ H3 ht ⟨rfl, htk, y4, rfl⟩
          have hle : loR r1 r2 ≤ hiR r1 r2 := by omega
          have l1 := slB_len hxl b1 hle (show hiR r1 r2 ≤ r1.low + (r1.size : Int) - 1 from b3)
          have l2 := slB_len hyl b2 hle (show hiR r1 r2 ≤ r2.low + (r2.size : Int) - 1 from b4)
          obtain ⟨u, hu⟩ : ∃ u, (slB r1.low x.2 (loR r1 r2) (hiR r1 r2))[t]? = some u := ⟨_, List.getElem?_eq_getElem (by omega)⟩
          obtain ⟨v, hv⟩ : ∃ v, (slB r2.low y.2 (loR r1 r2) (hiR r1 r2))[t]? = some v := ⟨_, List.getElem?_eq_getElem (by omega)⟩
          have hu2 := slB_at hu
          have hv2 := slB_at hv
          have gu : (x.2.map V.bl)[(loR r1 r2 - r1.low).toNat + t]? = some (.bl u) := by rw [List.getElem?_map, hu2]; rfl
          have gv : (y.2.map V.bl)[(loR r1 r2 - r2.low).toNat + t]? = some (.bl v) := by rw [List.getElem?_map, hv2]; rfl
          have edne : (!decide (V.bl u = V.bl v)) = !decide (u = v) := by
            congr 1
            rw [Bool.eq_iff_iff, decide_eq_true_iff, decide_eq_true_iff]
            exact ⟨fun z => V.bl.inj z, fun z => by rw [z]⟩
          refine ⟨_, rfl, _, _, _, _, rfl, rfl, SqT.of hb1, atI_nat (j := 1) rfl, _, rfl, _, rfl, _, _, _, _, rfl, rfl, SqT.of ha1, atI_nat (j := 0) rfl, _, _, rfl, rfl, _, _, _, _, rfl, rfl, SqT.of hb2, at_of (j := (loR r1 r2 - r1.low).toNat + t) (by omega) gu, ?_⟩
          refine ⟨_, rfl, _, _, _, _, rfl, rfl, SqT.of hb1', atI_nat (j := 1) rfl, _, rfl, _, rfl, _, _, _, _, rfl, rfl, SqT.of ha2, atI_nat (j := 0) rfl, _, _, rfl, rfl, _, _, _, _, rfl, rfl, SqT.of hb2', at_of (j := (loR r1 r2 - r2.low).toNat + t) (by omega) gv, rfl, _, rfl, ?_⟩
          by_cases huv : u = v
          · refine iteN (edne.trans (by rw [decide_eq_true huv]; rfl)) ⟨rfl, ?_, _, rfl⟩
            rw [take_snoc1 hu, take_snoc1 hv, htk, huv]
          · refine iteY (edne.trans (by rw [decide_eq_false huv]; rfl)) (bad x (List.mem_of_getElem? hx) y (List.mem_of_getElem? hy) ?_)
            rw [hax, decide_eq_true exy]
            have : ¬ slB r1.low x.2 (loR r1 r2) (hiR r1 r2) = slB r2.low y.2 (loR r1 r2) (hiR r1 r2) := fun z => huv (by
              rw [z, hv] at hu
              exact (Option.some.inj hu).symm)
            rw [decide_eq_false this]; rfl
        · rintro σ H3 ⟨rfl, htk, y4, rfl⟩
          refine ⟨rfl, next ?_, _, _, rfl⟩
          have e1 : (slB r1.low x.2 (loR r1 r2) (hiR r1 r2)).length ≤ (hiR r1 r2 + 1 - loR r1 r2).toNat := by
            unfold slB; rw [List.length_take]; omega
          have e2 : (slB r2.low y.2 (loR r1 r2) (hiR r1 r2)).length ≤ (hiR r1 r2 + 1 - loR r1 r2).toNat := by
            unfold slB; rw [List.length_take]; omega
          rw [List.take_of_length_le e1, List.take_of_length_le e2] at htk
          rw [hax, htk, decide_eq_true rfl, Bool.or_true]
      · rintro σ H2 ⟨rfl, hag2, y3, y4, rfl⟩
        rw [List.length_map, hA2.1, List.take_length] at hag2
        refine ⟨rfl, fun x' hx' => ?_, _, _, _, rfl⟩
        rw [take_snoc1 hx] at hx'
        rcases List.mem_append.mp hx' with q | q
        · exact hag x' q
        · rw [List.mem_singleton.mp q]; exact hag2
    · rintro σ H1 ⟨rfl, hag, y2, y3, y4, rfl⟩
      rw [List.length_map, hA1.1, List.take_length] at hag
      rw [show (r1.rows.all fun x => r2.rows.all fun y => agrees r1 r2 x y) = true from by
        rw [List.all_eq_true]
        intro x hx
        rw [List.all_eq_true]
        exact hag x hx] at q
      exact q
def spChanged : Sp := fun vs H Q _ => ∃ (p a c : Addr) (r : RecD), vs = [.ref p, .ref c] ∧ PoolOk p a H ∧ RecAt H c r ∧ RecOk r ∧ r.rows ≠ [] ∧
  ∀ (d : Addr) (r' : RecD) (H' : Hp), Px p a H H' → RecAt H' d r' → RcOk r' → r'.low = r.low → r'.size = r.size → Q (.ref d) H'
theorem sc_law_changed : FnScope ["pool", "record", "rows", "at", "place", "bits"] ["pool", "record"] (defScope s_law_changed) := ⟨rfl, rfl, rfl, by decide +kernel, rfl, by decide +kernel, by decide +kernel⟩
theorem ok_law_changed (D : Dfd K mg "_law_changed" s_law_changed ["pool", "record"]) (T : TxtV mg) (C1 : Has P w K mg base 2 "_law_draw" ["pool", "many"] spDrawX) : Has P w K mg base 3 "_law_changed" ["pool", "record"] spChanged := by
  obtain ⟨f_law_draw, d_law_draw, G_law_draw, g_law_draw, k_law_draw, b_law_draw⟩ := C1
  refine D.has fun f fd F => F.ok sc_law_changed (fun vs H Q E h => ?_) (fun cdv A outer s H vs Q E hr h => ?_)
  · obtain ⟨_, _, _, _, rfl, _⟩ := h
    rfl
  · obtain ⟨p, a, c, r, rfl, hp, hrec, ok, hne, q⟩ := h
    refine ⟨_, (pss_cons (ps_set (i := 2) sc_law_changed.nd rfl (.inl rfl) (pe_callTy call_list_of (by rfl) T.list (by decide +kernel) (pa_cons (pe_ix ix_tup (pv 1) pe_int (fun _ _ => rfl)) pa_nil)))
    (pss_cons (ps_set (i := 3) sc_law_changed.nd rfl (.inl rfl) (pe_call G_law_draw (hr.mono (by omega)) (by rfl) g_law_draw k_law_draw b_law_draw .nil pass0 (pa_cons (pv 0) (pa_cons (pe_callB call_len_seq (by rfl) T.len (by decide +kernel) (pa_cons (pv 2) pa_nil)) pa_nil))))
    (pss_cons (ps_set (i := 4) sc_law_changed.nd rfl (.inl rfl) (pe_call G_law_draw (hr.mono (by omega)) (by rfl) g_law_draw k_law_draw b_law_draw .nil pass0 (pa_cons (pv 0) (pa_cons (pe_callB call_len_seq (by rfl) T.len (by decide +kernel) (pa_cons (pe_ix ix_tup (pe_ix ix_list (pv 2) (pv 3) (fun _ _ => rfl)) pe_int (fun _ _ => rfl)) pa_nil)) pa_nil))))
    (pss_cons (ps_set (i := 5) sc_law_changed.nd rfl (.inl rfl) (pe_ix ix_tup (pe_ix ix_list (pv 2) (pv 3) (fun _ _ => rfl)) pe_int (fun _ _ => rfl)))
    (pss_cons (ps_asg (pe_tup (pa_cons (pe_ix ix_tup (pe_ix ix_list (pv 2) (pv 3) (fun _ _ => rfl)) pe_int (fun _ _ => rfl)) (pa_cons (pe_op op_catA (pe_op op_catA (pe_slice sl_tupA (pv 5) po_none (po_some (pv 4))) (pe_tup (pa_cons (pe_not (pe_ix ix_tup (pv 5) (pv 4) (fun _ _ => rfl))) pa_nil))) (pe_slice sl_tupA (pv 5) (po_some (pe_op op_add (pv 4) pe_int)) po_none)) pa_nil))) (pg_sub (pv 2) (pv 3) set_list))
    (pss_one (ps_ret (pe_tup (pa_cons (pe_ix ix_tup (pv 1) pe_int (fun _ _ => rfl)) (pa_cons (pe_ix ix_tup (pv 1) pe_int (fun _ _ => rfl)) (pa_cons (pe_callTy call_tuple_of (by rfl) T.tuple (by decide +kernel) (pa_cons (pe_stepL (pv 2) (pe_ix ix_list (pe_lst (pa_cons pe_int (pa_cons (pe_un un_neg pe_int) pa_nil))) (pe_call G_law_draw (hr.mono (by omega)) (by rfl) g_law_draw k_law_draw b_law_draw .nil pass0 (pa_cons (pv 0) (pa_cons pe_int pa_nil))) (fun _ _ => rfl))) pa_nil)) pa_nil))))))))))), ?_⟩
    have hrec0 := hrec
    obtain ⟨rt, ra, hc, hrt, hA⟩ := hrec
    have hrows := ok.rows
    have hsz := ok.size
    have hone := ok.one
    have hpos : 0 < r.rows.length := List.length_pos_iff.mpr hne
    have hal := hA.1
    refine ⟨_, rfl, _, _, _, _, rfl, rfl, SqT.of hc, atI_nat (j := 2) rfl, ?_⟩
    refine ⟨rt, _, rfl, .inr (SqT.of hrt), fun L nL => ?_⟩
    have E1 : Ex H (upd H L (.lst (ra.map V.ref))) := Ex.new nL
    have hL1 : upd H L (.lst (ra.map V.ref)) L = some (.lst (ra.map V.ref)) := upd_same
    have X1 : Px p a H (upd H L (.lst (ra.map V.ref))) := Px.ofEx hp E1
    have Lp : L ≠ p := hp.ne nL
    dsimp only [gName, tSeq, tAsg]
    generalize upd H L (.lst (ra.map V.ref)) = H1 at *
    refine ⟨_, rfl, _, rfl, L, _, rfl, .inl (SqL.of hL1), p, a, ((ra.map V.ref).length : Int), rfl, by rw [List.length_map]; omega, by rw [List.length_map]; omega, X1.pool, fun v H2 hv X2 k2 => ?_⟩
    rw [List.length_map] at hv
    have hL2 : H2 L = some (.lst (ra.map V.ref)) := by rw [k2 _ Lp]; exact hL1
    obtain ⟨b1, hb1⟩ : ∃ b1, ra[v]? = some b1 := ⟨_, List.getElem?_eq_getElem (by omega)⟩
    obtain ⟨x, hx, bt, hx1, hx2⟩ := hA.at_ hb1
    obtain ⟨hxn, hxl⟩ := ok.row x (List.mem_of_getElem? hx)
    have hrb : (ra.map V.ref)[v]? = some (.ref b1) := by rw [List.getElem?_map, hb1]; rfl
    have T12 : TupEx H H2 := TupEx.trans (exTe E1) X2.tup
    refine ⟨_, rfl, _, rfl, _, rfl, _, _, _, _, rfl, rfl, SqL.of hL2, at_of (j := v) rfl hrb, _, _, _, _, rfl, rfl, SqT.of (T12 _ _ hx1), atI_nat (j := 1) rfl, bt, _, rfl, .inr (SqT.of (T12 _ _ hx2)), p, a, ((x.2.map V.bl).length : Int), rfl, by rw [List.length_map, hxl]; omega, by rw [List.length_map, hxl]; omega, X2.pool, fun u H3 hu X3 k3 => ?_⟩
    rw [List.length_map] at hu
    have hL3 : H3 L = some (.lst (ra.map V.ref)) := by rw [k3 _ Lp]; exact hL2
    have T13 : TupEx H H3 := TupEx.trans T12 X3.tup
    have hx1' := T13 _ _ hx1
    have hx2' := T13 _ _ hx2
    obtain ⟨ub, hub⟩ : ∃ ub, x.2[u]? = some ub := ⟨_, List.getElem?_eq_getElem (by omega)⟩
    have hubV : (x.2.map V.bl)[u]? = some (.bl ub) := by rw [List.getElem?_map, hub]; rfl
    refine ⟨_, rfl, _, rfl, _, _, _, _, rfl, rfl, SqL.of hL3, at_of (j := v) rfl hrb, _, _, _, _, rfl, rfl, SqT.of hx1', atI_nat (j := 1) rfl, ?_⟩
    refine ⟨_, rfl, _, rfl, _, _, _, _, rfl, rfl, SqL.of hL3, at_of (j := v) rfl hrb, _, _, _, _, rfl, rfl, SqT.of hx1', atI_nat (j := 0) rfl, ?_⟩
    refine ⟨_, rfl, _, rfl, _, rfl, cut_tup hx2' fun c1 H4 E4 h4 => ?_⟩
    refine ⟨_, rfl, _, rfl, _, _, _, _, rfl, rfl, SqT.of (E4 _ _ hx2'), at_of (j := u) rfl hubV, _, rfl, (by show 1 ≤ sizeLine; decide), fun t1 m1 => ?_⟩
    have eu : ((u : Nat) : Int) + 1 = ((u + 1 : Nat) : Int) := rfl
    rw [cutV_head (by rw [List.length_map]; omega)] at h4
    have E5 : Ex H4 (upd H4 t1 (.tup [.bl (!ub)])) := Ex.new m1
    refine cat_tup (E5 _ _ h4) upd_same (sz_of (by rw [List.length_take, List.length_map]; show min _ _ + 1 ≤ _; omega)) fun c2 H6 E6 h6 => ?_
    have E36 := E4.trans (E5.trans E6)
    refine ⟨_, rfl, _, rfl, _, _, rfl, rfl, _, rfl, ?_⟩
    unfold tNoPart
    dsimp only
    refine cut_tup (E36 _ _ hx2') fun c3 H7 E7 h7 => ?_
    rw [eu, cutV_tail (by rw [List.length_map]; omega)] at h7
    refine cat_tup (E7 _ _ h6) h7 (sz_of (by rw [List.length_append, List.length_take, List.length_drop, List.length_map]; show min _ _ + 1 + _ ≤ _; omega)) fun c4 H8 E8 h8 => ⟨(by show 2 ≤ sizeLine; decide), fun t nt => ?_⟩
    have hnb : ((x.2.map V.bl).take u ++ [V.bl (!ub)]) ++ (x.2.map V.bl).drop (u + 1) = (x.2.take u ++ [!ub] ++ x.2.drop (u + 1)).map V.bl := by rw [List.map_append, List.map_append, List.map_take, List.map_drop]; rfl
    rw [hnb] at h8
    have hnl : (x.2.take u ++ [!ub] ++ x.2.drop (u + 1)).length = r.size := by
      rw [List.length_append, List.length_append, List.length_take, List.length_drop]
      show min _ _ + 1 + _ = _
      omega
    generalize x.2.take u ++ [!ub] ++ x.2.drop (u + 1) = nb at *
    have E9 : Ex H8 (upd H8 t (.tup [.str (mk x.1), .ref c4])) := Ex.new nt
    have E39 := E36.trans (E7.trans (E8.trans E9))
    have hL9 := E39 _ _ hL3
    have X9 : Px p a H (upd H8 t (.tup [.str (mk x.1), .ref c4])) := (X1.trans (X2.trans X3)).more E39
    have hrow : RowAt (upd H8 t (.tup [.str (mk x.1), .ref c4])) t (x.1, nb) := ⟨c4, upd_same, E9 _ _ h8⟩
    generalize upd H8 t (.tup [.str (mk x.1), .ref c4]) = H9 at *
    refine ⟨_, rfl, _, rfl, L, ra.map V.ref, (v : Nat), v, rfl, rfl, hL9, ixN_nat (by rw [List.length_map]; omega), ?_⟩
    have X10 : Px p a H (upd H9 L (.lst ((ra.set v t).map V.ref))) := X9.mut nL
    have hL10 : upd H9 L (.lst ((ra.set v t).map V.ref)) L = some (.lst ((ra.set v t).map V.ref)) := upd_same
    rw [show (ra.map V.ref).set v (.ref t) = (ra.set v t).map V.ref from by rw [List.map_set]]
    have hrow10 : RowAt (upd H9 L (.lst ((ra.set v t).map V.ref))) t (x.1, nb) := hrow.put hL9
    have hA10 : All2 (RowAt (upd H9 L (.lst ((ra.set v t).map V.ref)))) (ra.set v t) (r.rows.set v (x.1, nb)) := (hA.imp fun _ _ z => z.te X10.tup).set v hrow10
    dsimp only
    generalize upd H9 L (.lst ((ra.set v t).map V.ref)) = H10 at *
    have hc10 := X10.tup _ _ hc
    refine ⟨_, rfl, _, _, _, _, rfl, rfl, SqT.of hc10, atI_nat (j := 0) rfl, _, rfl, _, _, _, _, rfl, rfl, SqT.of hc10, atI_nat (j := 1) rfl, _, rfl, _, rfl, (by show 2 ≤ sizeLine; decide), fun l2 n2 => ?_⟩
    have X11 : Px p a H10 (upd H10 l2 (.lst [.int 1, .int (-1)])) := (Px.refl X10.pool).new n2
    refine ⟨_, rfl, p, a, 2, rfl, by decide, by decide, X11.pool, fun u2 H12 hu2 X12 k12 => ?_⟩
    have hl12 : H12 l2 = some (.lst [.int 1, .int (-1)]) := by rw [k12 _ (X10.pool.ne n2)]; exact upd_same
    have l2L : L ≠ l2 := fun z => by rw [z, n2] at hL10; cases hL10
    have hL12 : H12 L = some (.lst ((ra.set v t).map V.ref)) := by rw [k12 _ Lp, upd_ne l2L]; exact hL10
    have T12' : TupEx H10 H12 := (X11.trans X12).tup
    have hA12 := hA10.imp fun _ _ z => z.te T12'
    have X112 := X10.trans (X11.trans X12)
    have hrl : ∀ y ∈ r.rows.set v (x.1, nb), NameL y.1 ∧ y.2.length = r.size := fun y hy => by
      rcases List.mem_or_eq_of_mem_set hy with z | z
      · exact ok.row y z
      · rw [z]; exact ⟨hxn, hnl⟩
    have fin : ∀ (rb : List Addr) (rws : List (List Nat × List Bool)), All2 (RowAt H12) rb rws → rws.length ≤ 5 → (∀ y ∈ rws, NameL y.1 ∧ y.2.length = r.size) → ∀ (s2 rt2 d : Addr), H12 s2 = none → upd H12 s2 (.lst (rb.map V.ref)) rt2 = none → upd (upd H12 s2 (.lst (rb.map V.ref))) rt2 (.tup (rb.map V.ref)) d = none →
        Q (.ref d) (upd (upd (upd H12 s2 (.lst (rb.map V.ref))) rt2 (.tup (rb.map V.ref))) d (.tup [.int r.low, .int r.high, .ref rt2])) := fun rb rws hB hl hrw s2 rt2 d ns nr nd => by
      have F1 : Ex H12 (upd H12 s2 (.lst (rb.map V.ref))) := Ex.new ns
      have F2 : Ex (upd H12 s2 (.lst (rb.map V.ref))) (upd (upd H12 s2 (.lst (rb.map V.ref))) rt2 (.tup (rb.map V.ref))) := Ex.new nr
      have F3 : Ex (upd (upd H12 s2 (.lst (rb.map V.ref))) rt2 (.tup (rb.map V.ref))) (upd (upd (upd H12 s2 (.lst (rb.map V.ref))) rt2 (.tup (rb.map V.ref))) d (.tup [.int r.low, .int r.high, .ref rt2])) := Ex.new nd
      exact q d ⟨r.low, r.size, rws⟩ _ (X112.more (F1.trans (F2.trans F3))) ⟨rt2, rb, upd_same, F3 _ _ upd_same, hB.imp fun _ _ z => z.ex (F1.trans (F2.trans F3))⟩ ⟨hone, by show r.size ≤ 82; omega, hl, hrw⟩ rfl rfl
    have hsetl : (r.rows.set v (x.1, nb)).length ≤ 5 := by rw [List.length_set]; omega
    have hstep : ∃ st : Int, ([.int 1, .int (-1)] : List V)[u2]? = some (.int st) ∧ (st = 1 ∨ st = -1) := by
      match u2, hu2 with
      | 0, _ => exact ⟨1, rfl, .inl rfl⟩
      | 1, _ => exact ⟨-1, rfl, .inr rfl⟩
      | n + 2, h => exact absurd h (by omega)
    obtain ⟨st, hst, hst2⟩ := hstep
    refine ⟨_, _, _, _, rfl, rfl, SqL.of hl12, at_of (j := u2) rfl hst, L, _, rfl, SqL.of hL12, ?_⟩
    rcases hst2 with rfl | rfl
    · exact .inl ⟨rfl, fun s2 ns => ⟨s2, _, rfl, .inl ⟨SqL.of upd_same, fun rt2 nr => ⟨(by show 3 ≤ sizeLine; decide), fun d nd => fin _ _ hA12 hsetl hrl s2 rt2 d ns nr nd⟩⟩⟩⟩
    · refine .inr ⟨rfl, fun s2 ns => ⟨s2, _, rfl, .inl ⟨SqL.of upd_same, fun rt2 nr => ⟨(by show 3 ≤ sizeLine; decide), fun d nd => ?_⟩⟩⟩⟩
      have er : ((ra.set v t).map V.ref).reverse = ((ra.set v t).reverse).map V.ref := List.map_reverse.symm
      rw [er] at nr nd ⊢
      exact fin _ _ hA12.rev (by rw [List.length_reverse]; exact hsetl) (fun y hy => hrl y (List.mem_reverse.mp hy)) s2 rt2 d ns nr nd
end
end G
namespace G
open PySem PySem.Spec PyProof.Rows L2 Evl TL
def rowD (x : List Nat × List Bool) : D := .tup [.str (mk x.1), .tup (x.2.map D.bl)]
def recD (r : RecD) : D := .tup [.int r.low, .int r.high, .tup (r.rows.map rowD)]
theorem rep_row {H : Hp} {a : Addr} {x : List Nat × List Bool} (h : RowAt H a x) : Rep H (.ref a) (rowD x) := by
  obtain ⟨bt, h1, h2⟩ := h
  refine .tup h1 rfl fun i y d hy hd => ?_
  match i with
  | 0 => cases hy; cases hd; exact .str _
  | 1 => cases hy; cases hd; exact rep_bls h2
  | n + 2 => cases hy
theorem rep_rec {H : Hp} {a : Addr} {r : RecD} (h : RecAt H a r) : Rep H (.ref a) (recD r) := by
  obtain ⟨rt, ra, h1, h2, hA⟩ := h
  refine .tup h1 rfl fun i y d hy hd => ?_
  match i with
  | 0 => cases hy; cases hd; exact .int _
  | 1 => cases hy; cases hd; exact .int _
  | 2 =>
    cases hy; cases hd
    refine .tup h2 (by rw [List.length_map, List.length_map]; exact hA.1) fun j y d hy hd => ?_
    obtain ⟨b, hb, rfl⟩ := refs_get hy
    rw [List.getElem?_map] at hd
    obtain ⟨x, hx, rfl⟩ := Option.map_eq_some_iff.mp hd
    exact rep_row (hA.2 j b x hb hx)
  | n + 3 => cases hy
theorem okD_str {n : Nat} (s : Str) : okD n (.str s) := by cases n <;> trivial
theorem okD_int {n : Nat} (i : Int) : okD n (.int i) := by cases n <;> trivial
theorem okD_rec {r : RecD} (ok : RecOk r) : okD 4 (recD r) := by
  refine ⟨by show 3 < 2 ^ 61; decide, fun d hd => ?_⟩
  simp only [List.mem_cons, List.not_mem_nil, or_false] at hd
  rcases hd with e | e | e <;> rw [e]
  · exact okD_int _
  · exact okD_int _
  refine ⟨by rw [List.length_map]; have := ok.rows; omega, fun d hd => ?_⟩
  obtain ⟨x, hx, rfl⟩ := List.mem_map.mp hd
  obtain ⟨_, hb⟩ := ok.row x hx
  refine ⟨by show 2 < 2 ^ 61; decide, fun d hd => ?_⟩
  simp only [List.mem_cons, List.not_mem_nil, or_false] at hd
  rcases hd with e | e <;> rw [e]
  · exact okD_str _
  refine ⟨by rw [List.length_map, hb]; have := ok.size; omega, fun d hd => ?_⟩
  obtain ⟨b, _, rfl⟩ := List.mem_map.mp hd
  trivial
theorem RecAt.ex {H H' : Hp} {a : Addr} {r : RecD} (h : RecAt H a r) (e : Ex H H') : RecAt H' a r := by
  obtain ⟨rt, ra, h1, h2, hA⟩ := h
  exact ⟨rt, ra, e _ _ h1, e _ _ h2, hA.imp fun _ _ z => z.ex e⟩
end G
namespace G
open PySem PySem.Spec PyProof.Rows L2 Evl TL
theorem okD_recK {r : RecD} (ok : RcOk r) : okD 4 (recD r) := by
  refine ⟨by show 3 < 2 ^ 61; decide, fun d hd => ?_⟩
  simp only [List.mem_cons, List.not_mem_nil, or_false] at hd
  rcases hd with e | e | e <;> rw [e]
  · exact okD_int _
  · exact okD_int _
  refine ⟨by rw [List.length_map]; have := ok.rows; omega, fun d hd => ?_⟩
  obtain ⟨x, hx, rfl⟩ := List.mem_map.mp hd
  obtain ⟨_, hb⟩ := ok.row x hx
  refine ⟨by show 2 < 2 ^ 61; decide, fun d hd => ?_⟩
  simp only [List.mem_cons, List.not_mem_nil, or_false] at hd
  rcases hd with e | e <;> rw [e]
  · exact okD_str _
  refine ⟨by rw [List.length_map, hb]; have := ok.size; omega, fun d hd => ?_⟩
  obtain ⟨b, _, rfl⟩ := List.mem_map.mp hd
  trivial
theorem not_glue_self {r : RecD} (h : 1 ≤ r.size) (r2 : RecD) (e : r2.low = r.low) : ¬ GlueOk r r2 := fun z => by
  have := z.1
  rw [e] at this
  have this : r.low = r.low + (r.size : Int) - 1 + 1 := this
  omega
/-- the two parts glued are the whole -/
theorem glue_parts {r : RecD} (ok : RcOk r) {m : Int} (h1 : r.low ≤ m) (h2 : m < r.high) : GlueOk (subR r r.low m) (subR r (m + 1) r.high) ∧ glueR (subR r r.low m) (subR r (m + 1) r.high) = r := by
  have hh : r.high = r.low + (r.size : Int) - 1 := rfl
  constructor
  · constructor
    · show m + 1 = (subR r r.low m).high + 1
      rw [subR_high h1]
    · unfold subR
      rw [List.map_map, List.map_map]; rfl
  · have es : (m - r.low + 1).toNat + (r.high - (m + 1) + 1).toNat = r.size := by omega
    have er : List.zipWith (fun x y => (x.1, x.2 ++ y.2)) (r.rows.map fun x => (x.1, slB r.low x.2 r.low m)) (r.rows.map fun x => (x.1, slB r.low x.2 (m + 1) r.high)) = r.rows := by
      rw [List.zipWith_map]
      refine List.ext_getElem? fun i => ?_
      rw [List.getElem?_zipWith]
      cases hx : r.rows[i]? with
      | none => rfl
      | some x =>
        obtain ⟨_, hl⟩ := ok.row x (List.mem_of_getElem? hx)
        show some (x.1, slB r.low x.2 r.low m ++ slB r.low x.2 (m + 1) r.high) = some x
        have e1 : slB r.low x.2 r.low m = x.2.take (m - r.low + 1).toNat := by
          unfold slB
          rw [show (r.low - r.low).toNat = 0 by omega, List.drop_zero]
        have e2 : slB r.low x.2 (m + 1) r.high = x.2.drop (m - r.low + 1).toNat := by
          unfold slB
          rw [show (m + 1 - r.low).toNat = (m - r.low + 1).toNat by omega, List.take_of_length_le (by rw [List.length_drop]; omega)]
        rw [e1, e2, List.take_append_drop]
    unfold glueR
    show (⟨r.low, (m - r.low + 1).toNat + (r.high - (m + 1) + 1).toNat, List.zipWith (fun x y => (x.1, x.2 ++ y.2)) (r.rows.map fun x => (x.1, slB r.low x.2 r.low m)) (r.rows.map fun x => (x.1, slB r.low x.2 (m + 1) r.high))⟩ : RecD) = r
    rw [er, es]
theorem agree_parts {r : RecD} {m : Int} (h1 : r.low ≤ m) (h2 : m < r.high) : agreeB (subR r r.low m) (subR r (m + 1) r.high) = true := by
  have e1 : hiR (subR r r.low m) (subR r (m + 1) r.high) = m := by
    unfold hiR
    rw [subR_high h1, subR_high (by omega : m + 1 ≤ r.high), if_neg (by omega)]
  have e2 : loR (subR r r.low m) (subR r (m + 1) r.high) = m + 1 := by
    unfold loR
    show (if m + 1 > r.low then m + 1 else r.low) = m + 1
    rw [if_pos (by omega)]
  unfold agreeB
  rw [e1, e2, decide_eq_true (by omega), Bool.true_or]
section
variable {P : Program} {w : World} {K : PySem.W.Frag} {mg : Str → Option Value} {base : Heap}
def spParts : Sp := fun vs H Q _ => ∃ (p a c : Addr) (r : RecD), vs = [.ref p, .ref c] ∧ PoolOk p a H ∧ RecAt H c r ∧ RecOk r ∧ r.low < r.high ∧ ∀ (H' : Hp), Px p a H H' → Q (.bl true) H'
theorem sc_law_parts : FnScope ["pool", "record", "size", "middle", "first", "second", "named"] ["pool", "record"] (defScope s_law_parts) := ⟨rfl, rfl, rfl, by decide +kernel, rfl, by decide +kernel, by decide +kernel⟩
theorem ok_law_parts {B R : Addr} (D : Dfd K mg "_law_parts" s_law_parts ["pool", "record"]) (T : TxtV mg) (C1 : Has P w K mg base 2 "_law_draw" ["pool", "many"] spDrawX) (C2 : HasX P w K mg base 2 "cut" ["record", "low", "high"] (spCut B)) (C3 : HasX P w K mg base 1 "glued" ["first", "second"] (spGlued R))
    (C4 : Has P w K mg base 5 "_law_same" ["actual", "due"] (spSame 5)) (C5 : Has P w K mg base 1 "_law_cut" ["record", "low", "high"] spLCut) (C6 : Has P w K mg base 3 "_law_told" ["kind", "first", "second", "third"] spTold) (C7 : Has P w K mg base 2 "same_meaning" ["first", "second"] spSameM) (C8 : Has P w K mg base 1 "_law_agree" ["first", "second"] spAgree) : Has P w K mg base 6 "_law_parts" ["pool", "record"] spParts := by
  obtain ⟨f_law_draw, d_law_draw, G_law_draw, g_law_draw, k_law_draw, b_law_draw⟩ := C1
  obtain ⟨f_cut, d_cut, G_cut, g_cut, k_cut, b_cut⟩ := C2
  obtain ⟨f_glued, d_glued, G_glued, g_glued, k_glued, b_glued⟩ := C3
  obtain ⟨f_law_same, d_law_same, G_law_same, g_law_same, k_law_same, b_law_same⟩ := C4
  obtain ⟨f_law_cut, d_law_cut, G_law_cut, g_law_cut, k_law_cut, b_law_cut⟩ := C5
  obtain ⟨f_law_told, d_law_told, G_law_told, g_law_told, k_law_told, b_law_told⟩ := C6
  obtain ⟨f_same_meaning, d_same_meaning, G_same_meaning, g_same_meaning, k_same_meaning, b_same_meaning⟩ := C7
  obtain ⟨f_law_agree, d_law_agree, G_law_agree, g_law_agree, k_law_agree, b_law_agree⟩ := C8
  refine D.has fun f fd F => F.ok sc_law_parts (fun vs H Q E h => ?_) (fun cdv A outer s H vs Q E hr h => ?_)
  · obtain ⟨_, _, _, _, rfl, _⟩ := h
    rfl
  · obtain ⟨p, a, c, r, rfl, hp, hrec, ok, hlt, q⟩ := h
    refine ⟨_, (pss_cons (ps_set (i := 2) sc_law_parts.nd rfl (.inl rfl) (pe_op op_add (pe_op op_sub (pe_ix ix_tup (pv 1) pe_int (fun _ _ => rfl)) (pe_ix ix_tup (pv 1) pe_int (fun _ _ => rfl))) pe_int))
    (pss_cons (ps_set (i := 3) sc_law_parts.nd rfl (.inl rfl) (pe_op op_add (pe_ix ix_tup (pv 1) pe_int (fun _ _ => rfl)) (pe_call G_law_draw (hr.mono (by omega)) (by rfl) g_law_draw k_law_draw b_law_draw .nil pass0 (pa_cons (pv 0) (pa_cons (pe_op op_sub (pv 2) pe_int) pa_nil)))))
    (pss_cons (ps_set (i := 4) sc_law_parts.nd rfl (.inl rfl) (pe_call G_cut (hr.mono (by omega)) (by rfl) g_cut k_cut b_cut .nil passX0 (pa_cons (pv 1) (pa_cons (pe_ix ix_tup (pv 1) pe_int (fun _ _ => rfl)) (pa_cons (pv 3) pa_nil)))))
    (pss_cons (ps_set (i := 5) sc_law_parts.nd rfl (.inl rfl) (pe_call G_cut (hr.mono (by omega)) (by rfl) g_cut k_cut b_cut .nil passX0 (pa_cons (pv 1) (pa_cons (pe_op op_add (pv 3) pe_int) (pa_cons (pe_ix ix_tup (pv 1) pe_int (fun _ _ => rfl)) pa_nil)))))
    (pss_cons (ps_if (pt_not (pt_val (pe_call G_law_same (hr.mono (by omega)) (by rfl) g_law_same k_law_same b_law_same .nil pass0 (pa_cons (pv 4) (pa_cons (pe_call G_law_cut (hr.mono (by omega)) (by rfl) g_law_cut k_law_cut b_law_cut .nil pass0 (pa_cons (pv 1) (pa_cons (pe_ix ix_tup (pv 1) pe_int (fun _ _ => rfl)) (pa_cons (pv 3) pa_nil)))) pa_nil)))))
      (pss_one (ps_ret pe_bl))
      pss_nil)
    (pss_cons (ps_if (PW.pt (pw_or (pt_not (pt_val (pe_call G_law_same (hr.mono (by omega)) (by rfl) g_law_same k_law_same b_law_same .nil pass0 (pa_cons (pv 5) (pa_cons (pe_call G_law_cut (hr.mono (by omega)) (by rfl) g_law_cut k_law_cut b_law_cut .nil pass0 (pa_cons (pv 1) (pa_cons (pe_op op_add (pv 3) pe_int) (pa_cons (pe_ix ix_tup (pv 1) pe_int (fun _ _ => rfl)) pa_nil)))) pa_nil))))) (pw_or1 (pt_not (pt_val (pe_call G_law_same (hr.mono (by omega)) (by rfl) g_law_same k_law_same b_law_same .nil pass0 (pa_cons (pe_call G_glued (hr.mono (by omega)) (by rfl) g_glued k_glued b_glued .nil passX0 (pa_cons (pv 4) (pa_cons (pv 5) pa_nil))) (pa_cons (pv 1) pa_nil))))))))
      (pss_one (ps_ret pe_bl))
      pss_nil)
    (pss_cons (ps_if (PW.pt (pw_or (pt_cmpR op_ne (pe_call G_law_told (hr.mono (by omega)) (by rfl) g_law_told k_law_told b_law_told .nil pass0 (pa_cons pe_int (pa_cons (pv 5) (pa_cons (pv 4) (pa_cons pe_int pa_nil))))) pe_int (nomark _)) (pw_or1 (pt_cmpR op_ne (pe_call G_law_told (hr.mono (by omega)) (by rfl) g_law_told k_law_told b_law_told .nil pass0 (pa_cons pe_int (pa_cons (pv 4) (pa_cons (pv 4) (pa_cons pe_int pa_nil))))) pe_int (nomark _)))))
      (pss_one (ps_ret pe_bl))
      pss_nil)
    (pss_cons (ps_set (i := 6) sc_law_parts.nd rfl (.inl rfl) (pe_tup (pa_cons (pe_ix ix_tup (pv 5) pe_int (fun _ _ => rfl)) (pa_cons (pe_ix ix_tup (pv 5) pe_int (fun _ _ => rfl)) (pa_cons (pe_op op_catA (pe_ix ix_tup (pv 5) pe_int (fun _ _ => rfl)) (pe_tup (pa_cons (pe_tup (pa_cons pe_str (pa_cons (pe_callTy call_tuple_of (by rfl) T.tuple (by decide +kernel) (pa_cons (pe_op op_rep (pe_lst (pa_cons pe_bl pa_nil)) (pe_op op_add (pe_op op_sub (pe_ix ix_tup (pv 5) pe_int (fun _ _ => rfl)) (pe_ix ix_tup (pv 5) pe_int (fun _ _ => rfl))) pe_int)) pa_nil)) pa_nil))) pa_nil))) pa_nil)))))
    (pss_cons (ps_if (PW.pt (pw_or (pt_cmpR op_ne (pe_call G_law_told (hr.mono (by omega)) (by rfl) g_law_told k_law_told b_law_told .nil pass0 (pa_cons pe_int (pa_cons (pv 4) (pa_cons (pv 6) (pa_cons pe_int pa_nil))))) pe_int (nomark _)) (pw_or1 (pt_cmpR op_ne (pe_call G_law_told (hr.mono (by omega)) (by rfl) g_law_told k_law_told b_law_told .nil pass0 (pa_cons pe_int (pa_cons (pv 6) (pa_cons (pe_tup (pa_cons (pe_op op_add (pe_ix ix_tup (pv 5) pe_int (fun _ _ => rfl)) pe_int) (pa_cons (pe_op op_add (pe_ix ix_tup (pv 5) pe_int (fun _ _ => rfl)) pe_int) (pa_cons (pe_tup pa_nil) pa_nil)))) (pa_cons pe_int pa_nil))))) pe_int (nomark _)))))
      (pss_one (ps_ret pe_bl))
      pss_nil)
    (pss_one (ps_ret (pe_and (pe_call G_law_same (hr.mono (by omega)) (by rfl) g_law_same k_law_same b_law_same .nil pass0 (pa_cons (pe_call G_same_meaning (hr.mono (by omega)) (by rfl) g_same_meaning k_same_meaning b_same_meaning .nil pass0 (pa_cons (pv 4) (pa_cons (pv 5) pa_nil))) (pa_cons pe_bl pa_nil))) (pe_one (pe_call G_law_same (hr.mono (by omega)) (by rfl) g_law_same k_law_same b_law_same .nil pass0 (pa_cons (pe_call G_same_meaning (hr.mono (by omega)) (by rfl) g_same_meaning k_same_meaning b_same_meaning .nil pass0 (pa_cons (pv 4) (pa_cons (pv 1) pa_nil))) (pa_cons (pe_call G_law_agree (hr.mono (by omega)) (by rfl) g_law_agree k_law_agree b_law_agree .nil pass0 (pa_cons (pv 4) (pa_cons (pv 1) pa_nil))) pa_nil)))))))))))))))), ?_⟩
    have okc := rcOk ok
    have hsz := ok.size
    have hrl := ok.rows
    have hh : r.high = r.low + (r.size : Int) - 1 := rfl
    have hrec' := hrec
    obtain ⟨rt, ra, hc, hrt, hA⟩ := hrec'
    refine ⟨_, rfl, _, _, _, _, rfl, rfl, SqT.of hc, atI_nat (j := 1) rfl, _, rfl, _, _, _, _, rfl, rfl, SqT.of hc, atI_nat (j := 0) rfl, _, _, rfl, rfl, _, _, rfl, rfl, ?_⟩
    refine ⟨_, rfl, _, _, _, _, rfl, rfl, SqT.of hc, atI_nat (j := 0) rfl, _, rfl, _, rfl, _, _, rfl, rfl, p, a, (r.high - r.low + 1 - 1), rfl, by omega, by omega, hp, fun v H1 hv X1 k1 => ⟨_, _, rfl, rfl, ?_⟩⟩
    have h1 : r.low ≤ r.low + (v : Int) := by omega
    have h2 : r.low + (v : Int) < r.high := by omega
    have hrec1 : RecAt H1 c r := by
      have T := X1.tup
      exact ⟨rt, ra, T _ _ hc, T _ _ hrt, hA.imp fun _ _ z => z.te T⟩
    dsimp only [gName, tSeq, tAsg]
    generalize r.low + (v : Int) = m at *
    have v1 : CutOk r r.low m := ⟨Int.le_refl _, h1, by omega⟩
    have v2 : CutOk r (m + 1) r.high := ⟨by omega, by omega, Int.le_refl _⟩
    have ok1 := subR_ok okc v1.1 v1.2.1 v1.2.2
    have ok2 := subR_ok okc v2.1 v2.2.1 v2.2.2
    obtain ⟨hg, hge⟩ := glue_parts okc h1 h2
    have hc1 := (X1.tup) _ _ hc
    refine ⟨_, rfl, _, rfl, _, _, _, _, rfl, rfl, SqT.of hc1, atI_nat (j := 0) rfl, _, rfl, c, r, _, _, rfl, hrec1, okc, fun _ c1 H2 E2 hr1 => ?_, fun hn => (hn v1).elim⟩
    have hrec2 := hrec1.ex E2
    have hc2 := E2 _ _ hc1
    refine ⟨_, rfl, _, rfl, _, _, rfl, rfl, _, rfl, _, _, _, _, rfl, rfl, SqT.of hc2, atI_nat (j := 1) rfl, c, r, _, _, rfl, hrec2, okc, fun _ c2 H3 E3 hr2 => ?_, fun hn => (hn v2).elim⟩
    have hrec3 := hrec2.ex E3
    have hc3 := E3 _ _ hc2
    have hr1a := hr1.ex E3
    refine ⟨_, rfl, _, rfl, _, rfl, _, _, _, _, rfl, rfl, SqT.of hc3, atI_nat (j := 0) rfl, _, rfl, c, r, _, _, rfl, hrec3, okc, v1, fun d1 H4 E4 hd1 => ⟨_, _, recD (subR r r.low m), rfl, rep_rec (hr1a.ex E4), rep_rec hd1, okD_recK ok1, _, rfl, iteF ?_⟩⟩
    have hrec4 := hrec3.ex E4
    have hc4 := E4 _ _ hc3
    have hr1b := hr1a.ex E4
    have hr2b := hr2.ex E4
    refine ⟨_, rfl, _, rfl, _, rfl, _, _, rfl, rfl, _, rfl, _, _, _, _, rfl, rfl, SqT.of hc4, atI_nat (j := 1) rfl, c, r, _, _, rfl, hrec4, okc, v2, fun d2 H5 E5 hd2 => ⟨_, _, recD (subR r (m + 1) r.high), rfl, rep_rec (hr2b.ex E5), rep_rec hd2, okD_recK ok2, _, rfl, iteF ?_⟩⟩
    have hrec5 := hrec4.ex E5
    have hr1c := hr1b.ex E5
    have hr2c := hr2b.ex E5
    refine ⟨_, rfl, _, rfl, c1, c2, _, _, rfl, hr1c, hr2c, ok1, ok2, fun _ g H6 E6 hgr => ?_, fun hn => (hn hg).elim⟩
    rw [hge] at hgr
    refine ⟨_, rfl, _, _, recD r, rfl, rep_rec hgr, rep_rec (hrec5.ex E6), okD_recK okc, _, rfl, iteF ?_⟩
    have hrec6 := hrec5.ex E6
    have hr1d := hr1c.ex E6
    have hr2d := hr2c.ex E6
    have ng1 : ¬ GlueOk (subR r (m + 1) r.high) (subR r r.low m) := fun z => by
      have z := z.1
      rw [subR_high v2.2.1] at z
      have z : r.low = r.high + 1 := z
      omega
    have ng2 : ¬ GlueOk (subR r r.low m) (subR r r.low m) := not_glue_self ok1.one _ rfl
    refine ⟨_, rfl, _, rfl, .inr ⟨c2, c1, _, _, rfl, hr2d, hr1d, ok2, ok1, ng1, fun H7 E7 => ⟨rfl, _, rfl, iteN rfl ?_⟩⟩⟩
    have hr1e := hr1d.ex E7
    refine ⟨_, rfl, _, rfl, .inr ⟨c1, c1, _, _, rfl, hr1e, hr1e, ok1, ok1, ng2, fun H8 E8 => ⟨rfl, _, rfl, iteN rfl ?_⟩⟩⟩
    have hr1f := hr1e.ex E8
    have hr2f := (hr2d.ex E7).ex E8
    have hrec8 := (hrec6.ex E7).ex E8
    have hr2g := hr2f
    obtain ⟨rt2, ra2, hk2, hkt2, hA2⟩ := hr2g
    rw [subR_high v2.2.1] at hk2
    have hk2 : H8 c2 = some (.tup [.int (m + 1), .int r.high, .ref rt2]) := hk2
    have hn0 : 0 ≤ r.high - (m + 1) + 1 := by omega
    obtain ⟨n, hn⟩ : ∃ n : Nat, r.high - (m + 1) + 1 = (n : Int) := ⟨(r.high - (m + 1) + 1).toNat, by omega⟩
    have hn41 : n ≤ 41 := by omega
    have hn1 : 1 ≤ n := by omega
    refine ⟨_, rfl, _, _, _, _, rfl, rfl, SqT.of hk2, atI_nat (j := 0) rfl, _, rfl, _, _, _, _, rfl, rfl, SqT.of hk2, atI_nat (j := 1) rfl, _, rfl, _, _, _, _, rfl, rfl, SqT.of hk2, atI_nat (j := 2) rfl, (by show 1 ≤ sizeLine; decide), fun l1 n1 => ?_⟩
    have F1 : Ex H8 (upd H8 l1 (.lst [.bl true])) := Ex.new n1
    have g1 : upd H8 l1 (.lst [.bl true]) l1 = some (.lst [.bl true]) := upd_same
    refine ⟨_, rfl, _, _, _, _, rfl, rfl, SqT.of (F1 _ _ hk2), atI_nat (j := 1) rfl, _, rfl, _, _, _, _, rfl, rfl, SqT.of (F1 _ _ hk2), atI_nat (j := 0) rfl, _, _, rfl, rfl, _, _, rfl, rfl, ?_⟩
    dsimp only
    rw [hn]
    refine ⟨l1, (n : Int), _, rfl, rfl, g1, by omega, by omega, sz_of (by rw [List.length_singleton, Int.toNat_natCast]; omega), fun l2 n2 => ?_⟩
    have erep : (List.replicate ((n : Nat) : Int).toNat [V.bl true]).flatten = (List.replicate n true).map V.bl := by
      rw [Int.toNat_natCast, List.map_replicate]
      generalize n = k
      induction k with
      | zero => rfl
      | succ k ih => rw [List.replicate_succ, List.replicate_succ, List.flatten_cons, ih]; rfl
    rw [erep]
    have F2 : Ex (upd H8 l1 (.lst [.bl true])) (upd (upd H8 l1 (.lst [.bl true])) l2 (.lst ((List.replicate n true).map V.bl))) := Ex.new n2
    have g2 : upd (upd H8 l1 (.lst [.bl true])) l2 (.lst ((List.replicate n true).map V.bl)) l2 = some (.lst ((List.replicate n true).map V.bl)) := upd_same
    have F12 := F1.trans F2
    generalize upd (upd H8 l1 (.lst [.bl true])) l2 (.lst ((List.replicate n true).map V.bl)) = H9 at *
    refine ⟨l2, _, rfl, .inl ⟨SqL.of g2, fun t1 m1 => ⟨(by show 2 ≤ sizeLine; decide), fun t2 m2 => ⟨(by show 1 ≤ sizeLine; decide), fun t3 m3 => ?_⟩⟩⟩⟩
    have F3 : Ex H9 (upd H9 t1 (.tup ((List.replicate n true).map V.bl))) := Ex.new m1
    have F4 : Ex (upd H9 t1 (.tup ((List.replicate n true).map V.bl))) (upd (upd H9 t1 (.tup ((List.replicate n true).map V.bl))) t2 (.tup [.str "zz", .ref t1])) := Ex.new m2
    have F5 : Ex (upd (upd H9 t1 (.tup ((List.replicate n true).map V.bl))) t2 (.tup [.str "zz", .ref t1])) (upd (upd (upd H9 t1 (.tup ((List.replicate n true).map V.bl))) t2 (.tup [.str "zz", .ref t1])) t3 (.tup [.ref t2])) := Ex.new m3
    have F95 := F3.trans (F4.trans F5)
    have hz : RowAt (upd (upd (upd H9 t1 (.tup ((List.replicate n true).map V.bl))) t2 (.tup [.str "zz", .ref t1])) t3 (.tup [.ref t2])) t2 (tl ("zz" : Str), List.replicate n true) := ⟨t1, by rw [mk_tlS]; exact F5 _ _ upd_same, F5 _ _ (F4 _ _ upd_same)⟩
    have g5 : upd (upd (upd H9 t1 (.tup ((List.replicate n true).map V.bl))) t2 (.tup [.str "zz", .ref t1])) t3 (.tup [.ref t2]) t3 = some (.tup [.ref t2]) := upd_same
    generalize upd (upd (upd H9 t1 (.tup ((List.replicate n true).map V.bl))) t2 (.tup [.str "zz", .ref t1])) t3 (.tup [.ref t2]) = H10 at *
    have F810 := F12.trans F95
    have hr2l : (subR r (m + 1) r.high).rows.length = r.rows.length := by unfold subR; rw [List.length_map]
    refine cat_tup (F810 _ _ hkt2) g5 (sz_of (by rw [List.length_map, hA2.1, hr2l]; show _ + 1 ≤ _; omega)) fun c4 H11 E11 h11 => ⟨(by show 3 ≤ sizeLine; decide), fun nm nn => ?_⟩
    have F12' : Ex H11 (upd H11 nm (.tup [.int (m + 1), .int r.high, .ref c4])) := Ex.new nn
    have F812 := F810.trans (E11.trans F12')
    have en : (n : Int) = r.high - (m + 1) + 1 := hn.symm
    have hrN : RecAt (upd H11 nm (.tup [.int (m + 1), .int r.high, .ref c4])) nm ⟨m + 1, n, (subR r (m + 1) r.high).rows ++ [(tl ("zz" : Str), List.replicate n true)]⟩ := by
      refine ⟨c4, ra2 ++ [t2], ?_, ?_, ?_⟩
      · rw [upd_same]
        show _ = some (HO.tup [.int (m + 1), .int (m + 1 + (n : Int) - 1), .ref c4])
        rw [en, show m + 1 + (r.high - (m + 1) + 1) - 1 = r.high by omega]
      · rw [F12' _ _ h11, List.map_append]; rfl
      · exact (hA2.imp fun _ _ z => z.ex F812).snoc (hz.ex (E11.trans F12'))
    have hsz2 : (subR r (m + 1) r.high).size = n := by
      show (r.high - (m + 1) + 1).toNat = n
      omega
    have okN : RcOk ⟨m + 1, n, (subR r (m + 1) r.high).rows ++ [(tl ("zz" : Str), List.replicate n true)]⟩ := by
      refine ⟨hn1, by show n ≤ 82; omega, by show (_ ++ [_]).length ≤ 5; rw [List.length_append, hr2l]; show _ + 1 ≤ 5; omega, fun x hx => ?_⟩
      rcases List.mem_append.mp hx with z | z
      · have := ok2.row x z
        rw [hsz2] at this
        exact this
      · rw [List.mem_singleton.mp z]
        exact ⟨⟨tl ("zz" : Str), [], rfl, Nat.zero_le _, fun p hp => by rw [List.mem_singleton.mp hp]; decide +kernel⟩, List.length_replicate⟩
    have ng3 : ¬ GlueOk (subR r r.low m) ⟨m + 1, n, (subR r (m + 1) r.high).rows ++ [(tl ("zz" : Str), List.replicate n true)]⟩ := fun z => by
      have z := congrArg List.length z.2
      unfold subR at z
      rw [List.length_map, List.length_map, List.length_map, List.length_append, List.length_map] at z
      have z : r.rows.length = r.rows.length + 1 := z
      omega
    have ng4 : ¬ GlueOk ⟨m + 1, n, (subR r (m + 1) r.high).rows ++ [(tl ("zz" : Str), List.replicate n true)]⟩ ⟨r.high + 1, 1, []⟩ := fun z => by
      have z := congrArg List.length z.2
      rw [List.length_map, List.length_map, List.length_append] at z
      have z : (subR r (m + 1) r.high).rows.length + 1 = 0 := z
      omega
    have hr1h := hr1f.ex F812
    have hr2h := hr2f.ex F812
    have hrec12 := hrec8.ex F812
    have hk12 := F812 _ _ hk2
    dsimp only [gName, tSeq, tAsg]
    generalize upd H11 nm (.tup [.int (m + 1), .int r.high, .ref c4]) = H12 at *
    refine ⟨_, rfl, _, rfl, .inr ⟨c1, nm, _, _, rfl, hr1h, hrN, ok1, okN, ng3, fun H13 E13 => ⟨rfl, _, rfl, iteN rfl ?_⟩⟩⟩
    have hk13 := E13 _ _ hk12
    have hrN13 := hrN.ex E13
    refine ⟨_, rfl, _, rfl, _, _, _, _, rfl, rfl, SqT.of hk13, atI_nat (j := 1) rfl, _, _, rfl, rfl, _, rfl, _, _, _, _, rfl, rfl, SqT.of hk13, atI_nat (j := 1) rfl, _, _, rfl, rfl, Nat.zero_le _, fun t0 k0 => ⟨(by show 3 ≤ sizeLine; decide), fun te ke => ?_⟩⟩
    have F14 : Ex H13 (upd H13 t0 (.tup [])) := Ex.new k0
    have F15 : Ex (upd H13 t0 (.tup [])) (upd (upd H13 t0 (.tup [])) te (.tup [.int (r.high + 1), .int (r.high + 1), .ref t0])) := Ex.new ke
    have hrE : RecAt (upd (upd H13 t0 (.tup [])) te (.tup [.int (r.high + 1), .int (r.high + 1), .ref t0])) te ⟨r.high + 1, 1, []⟩ := by
      refine ⟨t0, [], ?_, F15 _ _ upd_same, .nil⟩
      rw [upd_same]
      show _ = some (HO.tup [.int (r.high + 1), .int (r.high + 1 + ((1 : Nat) : Int) - 1), .ref t0])
      rw [show r.high + 1 + ((1 : Nat) : Int) - 1 = r.high + 1 by omega]
    have okE : RcOk ⟨r.high + 1, 1, []⟩ := ⟨Nat.le_refl 1, (by show 1 ≤ 82; decide), Nat.zero_le _, fun _ h => nomatch h⟩
    have F135 := F14.trans F15
    refine .inr ⟨nm, te, _, _, rfl, hrN13.ex F135, hrE, okN, okE, ng4, fun H16 E16 => ⟨rfl, _, rfl, iteN rfl ?_⟩⟩
    have F1216 := E13.trans (F135.trans E16)
    have hr1i := hr1h.ex F1216
    have hr2i := hr2h.ex F1216
    have hrec16 := hrec12.ex F1216
    refine ⟨_, rfl, _, rfl, c1, c2, _, _, rfl, hr1i, hr2i, ok1, ok2, fun H17 E17 => ?_⟩
    rw [agree_parts h1 h2]
    refine ⟨_, _, .bl true, rfl, .bl _, .bl _, trivial, _, rfl, iteT ?_⟩
    have hr1j := hr1i.ex E17
    have hrec17 := hrec16.ex E17
    refine ⟨_, rfl, _, rfl, c1, c, _, _, rfl, hr1j, hrec17, ok1, okc, fun H18 E18 => ?_⟩
    refine ⟨_, rfl, _, rfl, c1, c, _, _, rfl, hr1j.ex E18, hrec17.ex E18, ok1, okc, ?_⟩
    refine ⟨_, _, .bl _, rfl, .bl _, .bl _, trivial, ?_⟩
    exact q _ (X1.more (E2.trans (E3.trans (E4.trans (E5.trans (E6.trans (E7.trans (E8.trans (F812.trans (F1216.trans (E17.trans E18)))))))))))
end
end G
namespace G
open PySem PySem.Spec PyProof.Rows L2 Evl TL
theorem subR_all {r : RecD} (ok : RcOk r) : subR r r.low r.high = r := by
  have hh : r.high = r.low + (r.size : Int) - 1 := rfl
  have er : (r.rows.map fun x => (x.1, slB r.low x.2 r.low r.high)) = r.rows := by
    refine List.ext_getElem? fun i => ?_
    rw [List.getElem?_map]
    cases hx : r.rows[i]? with
    | none => rfl
    | some x =>
      obtain ⟨_, hl⟩ := ok.row x (List.mem_of_getElem? hx)
      show some (x.1, slB r.low x.2 r.low r.high) = some x
      unfold slB
      rw [show (r.low - r.low).toNat = 0 by omega, List.drop_zero, List.take_of_length_le (by omega)]
  unfold subR
  rw [er, show (r.high - r.low + 1).toNat = r.size by omega]
section
variable {P : Program} {w : World} {K : PySem.W.Frag} {mg : Str → Option Value} {base : Heap}
def spLaw (K : PySem.W.Frag) : Sp := fun vs H Q _ => ∃ (a : Addr) (ns : List Int), vs = [.ref a] ∧ SqL K H a (ns.map V.int) ∧ ns.length ≤ 63 ∧ ∀ H', Q (.bl true) H'
theorem sc_law : FnScope ["script", "pool", "turn", "record", "pair", "other", "low", "part"] ["script"] (defScope s_law) := ⟨rfl, rfl, rfl, by decide +kernel, rfl, by decide +kernel, by decide +kernel⟩
theorem fn_law {B : Addr} {f : Addr} {fd : FuncData} (F : Fun K "law" "law" s_law f fd) (T : TxtV mg)
    (C0 : Has P w K mg base 1 "_law_pool" ["script"] (spPool K)) (C1 : Has P w K mg base 2 "_law_draw" ["pool", "many"] spDrawX) (C2 : HasX P w K mg base 2 "cut" ["record", "low", "high"] (spCut B)) (C3 : Has P w K mg base 5 "_law_record" ["pool"] spRecord)
    (C4 : Has P w K mg base 5 "_law_same" ["actual", "due"] (spSame 5)) (C5 : Has P w K mg base 1 "_law_cut" ["record", "low", "high"] spLCut) (C6 : Has P w K mg base 3 "_law_told" ["kind", "first", "second", "third"] spTold) (C7 : Has P w K mg base 2 "same_meaning" ["first", "second"] spSameM) (C8 : Has P w K mg base 1 "_law_agree" ["first", "second"] spAgree)
    (C9 : Has P w K mg base 3 "_law_changed" ["pool", "record"] spChanged) (C10 : Has P w K mg base 6 "_law_parts" ["pool", "record"] spParts) : FnOk P w K mg base CX0 7 f fd ["script"] (spLaw K) := by
  obtain ⟨f_law_pool, d_law_pool, G_law_pool, g_law_pool, k_law_pool, b_law_pool⟩ := C0
  obtain ⟨f_law_draw, d_law_draw, G_law_draw, g_law_draw, k_law_draw, b_law_draw⟩ := C1
  obtain ⟨f_cut, d_cut, G_cut, g_cut, k_cut, b_cut⟩ := C2
  obtain ⟨f_law_record, d_law_record, G_law_record, g_law_record, k_law_record, b_law_record⟩ := C3
  obtain ⟨f_law_same, d_law_same, G_law_same, g_law_same, k_law_same, b_law_same⟩ := C4
  obtain ⟨f_law_cut, d_law_cut, G_law_cut, g_law_cut, k_law_cut, b_law_cut⟩ := C5
  obtain ⟨f_law_told, d_law_told, G_law_told, g_law_told, k_law_told, b_law_told⟩ := C6
  obtain ⟨f_same_meaning, d_same_meaning, G_same_meaning, g_same_meaning, k_same_meaning, b_same_meaning⟩ := C7
  obtain ⟨f_law_agree, d_law_agree, G_law_agree, g_law_agree, k_law_agree, b_law_agree⟩ := C8
  obtain ⟨f_law_changed, d_law_changed, G_law_changed, g_law_changed, k_law_changed, b_law_changed⟩ := C9
  obtain ⟨f_law_parts, d_law_parts, G_law_parts, g_law_parts, k_law_parts, b_law_parts⟩ := C10
  refine F.ok sc_law (fun vs H Q E h => ?_) (fun cdv A outer s H vs Q E hr h => ?_)
  · obtain ⟨a, ns, rfl, _⟩ := h
    rfl
  · obtain ⟨sa, ns, rfl, hs, hn, q⟩ := h
    refine ⟨_, (pss_cons (ps_set (i := 1) sc_law.nd rfl (.inl rfl) (pe_call G_law_pool (hr.mono (by omega)) (by rfl) g_law_pool k_law_pool b_law_pool .nil pass0 (pa_cons (pv 0) pa_nil)))
    (pss_cons (ps_for PassesOwn.never rfl (pi_range1 rfl T.range (pa_cons pe_int pa_nil)) (pg_name (i := 2) sc_law.nd rfl (.inl rfl))
      (pss_cons (ps_set (i := 3) sc_law.nd rfl (.inl rfl) (pe_call G_law_record (hr.mono (by omega)) (by rfl) g_law_record k_law_record b_law_record .nil pass0 (pa_cons (pv 1) pa_nil)))
      (pss_cut (ps_if (PW.pt (pw_and (pt_cmpR op_gt (pe_ix ix_tup (pv 3) pe_int (fun _ _ => rfl)) (pe_ix ix_tup (pv 3) pe_int (fun _ _ => rfl)) (nomark _)) (pw_and1 (pt_not (pt_val (pe_call G_law_parts (hr.mono (by omega)) (by rfl) g_law_parts k_law_parts b_law_parts .nil pass0 (pa_cons (pv 1) (pa_cons (pv 3) pa_nil))))))))
        (pss_one (ps_ret pe_bl))
        pss_nil)
      (pss_cons (ps_if (pt_not (pt_val (pe_call G_law_same (hr.mono (by omega)) (by rfl) g_law_same k_law_same b_law_same .nil pass0 (pa_cons (pe_call G_cut (hr.mono (by omega)) (by rfl) g_cut k_cut b_cut .nil passX0 (pa_cons (pv 3) (pa_cons (pe_ix ix_tup (pv 3) pe_int (fun _ _ => rfl)) (pa_cons (pe_ix ix_tup (pv 3) pe_int (fun _ _ => rfl)) pa_nil)))) (pa_cons (pv 3) pa_nil)))))
        (pss_one (ps_ret pe_bl))
        pss_nil)
      (pss_cons (ps_for PassesOwn.never rfl (pi_list (pe_lst (pa_cons (pe_tup (pa_cons (pe_op op_sub (pe_ix ix_tup (pv 3) pe_int (fun _ _ => rfl)) pe_int) (pa_cons (pe_ix ix_tup (pv 3) pe_int (fun _ _ => rfl)) pa_nil))) (pa_cons (pe_tup (pa_cons (pe_ix ix_tup (pv 3) pe_int (fun _ _ => rfl)) (pa_cons (pe_op op_add (pe_ix ix_tup (pv 3) pe_int (fun _ _ => rfl)) pe_int) pa_nil))) (pa_cons (pe_tup (pa_cons (pe_ix ix_tup (pv 3) pe_int (fun _ _ => rfl)) (pa_cons (pe_op op_sub (pe_ix ix_tup (pv 3) pe_int (fun _ _ => rfl)) pe_int) pa_nil))) pa_nil))))) (pg_name (i := 4) sc_law.nd rfl (.inl rfl))
        (pss_one (ps_if (pt_cmpR op_ne (pe_call G_law_told (hr.mono (by omega)) (by rfl) g_law_told k_law_told b_law_told .nil pass0 (pa_cons pe_int (pa_cons (pv 3) (pa_cons (pe_ix ix_tup (pv 4) pe_int (fun _ _ => rfl)) (pa_cons (pe_ix ix_tup (pv 4) pe_int (fun _ _ => rfl)) pa_nil))))) pe_int (nomark _))
          (pss_one (ps_ret pe_bl))
          pss_nil)))
      (pss_one (ps_if (pt_cmpR (op_neD hr.units) (pe_ix ix_tup (pv 3) pe_int (fun _ _ => rfl)) (pe_tup pa_nil) (nomark _))
        (pss_cons (ps_set (i := 5) sc_law.nd rfl (.inl rfl) (pe_call G_law_changed (hr.mono (by omega)) (by rfl) g_law_changed k_law_changed b_law_changed .nil pass0 (pa_cons (pv 1) (pa_cons (pv 3) pa_nil))))
        (pss_cons (ps_if (pt_not (pt_val (pe_call G_law_same (hr.mono (by omega)) (by rfl) g_law_same k_law_same b_law_same .nil pass0 (pa_cons (pe_call G_same_meaning (hr.mono (by omega)) (by rfl) g_same_meaning k_same_meaning b_same_meaning .nil pass0 (pa_cons (pv 3) (pa_cons (pv 5) pa_nil))) (pa_cons (pe_call G_law_agree (hr.mono (by omega)) (by rfl) g_law_agree k_law_agree b_law_agree .nil pass0 (pa_cons (pv 3) (pa_cons (pv 5) pa_nil))) pa_nil)))))
          (pss_one (ps_ret pe_bl))
          pss_nil)
        (pss_cons (ps_set (i := 6) sc_law.nd rfl (.inl rfl) (pe_op op_add (pe_ix ix_tup (pv 3) pe_int (fun _ _ => rfl)) (pe_call G_law_draw (hr.mono (by omega)) (by rfl) g_law_draw k_law_draw b_law_draw .nil pass0 (pa_cons (pv 1) (pa_cons (pe_op op_add (pe_op op_sub (pe_ix ix_tup (pv 3) pe_int (fun _ _ => rfl)) (pe_ix ix_tup (pv 3) pe_int (fun _ _ => rfl))) pe_int) pa_nil)))))
        (pss_cons (ps_set (i := 7) sc_law.nd rfl (.inl rfl) (pe_call G_law_cut (hr.mono (by omega)) (by rfl) g_law_cut k_law_cut b_law_cut .nil pass0 (pa_cons (pv 5) (pa_cons (pv 6) (pa_cons (pe_ix ix_tup (pv 3) pe_int (fun _ _ => rfl)) pa_nil)))))
        (pss_cons (ps_if (pt_not (pt_val (pe_call G_law_same (hr.mono (by omega)) (by rfl) g_law_same k_law_same b_law_same .nil pass0 (pa_cons (pe_call G_same_meaning (hr.mono (by omega)) (by rfl) g_same_meaning k_same_meaning b_same_meaning .nil pass0 (pa_cons (pv 3) (pa_cons (pv 7) pa_nil))) (pa_cons (pe_call G_law_agree (hr.mono (by omega)) (by rfl) g_law_agree k_law_agree b_law_agree .nil pass0 (pa_cons (pv 3) (pa_cons (pv 7) pa_nil))) pa_nil)))))
          (pss_one (ps_ret pe_bl))
          pss_nil)
        (pss_one (ps_if (pt_not (pt_val (pe_call G_law_same (hr.mono (by omega)) (by rfl) g_law_same k_law_same b_law_same .nil pass0 (pa_cons (pe_call G_same_meaning (hr.mono (by omega)) (by rfl) g_same_meaning k_same_meaning b_same_meaning .nil pass0 (pa_cons (pv 7) (pa_cons (pv 3) pa_nil))) (pa_cons (pe_call G_law_agree (hr.mono (by omega)) (by rfl) g_law_agree k_law_agree b_law_agree .nil pass0 (pa_cons (pv 7) (pa_cons (pv 3) pa_nil))) pa_nil)))))
          (pss_one (ps_ret pe_bl))
          pss_nil)))))))
        pss_nil)))))))
    (pss_one (ps_ret pe_bl)))), ?_⟩
    refine ⟨_, rfl, sa, ns, rfl, hs, by omega, fun p a H0 hp _ _ => ⟨_, rfl, by decide, by decide, for_range (n := ((3 : Nat) : Int).toNat)
      (fun k σ H' => PoolOk p a H' ∧ ∃ y2 y3 y4 y5 y6 y7 : Option V, σ = [some (.ref sa), some (.ref p), y2, y3, y4, y5, y6, y7]) ⟨hp, _, _, _, _, _, _, rfl⟩ ?_ ?_⟩⟩
    · rintro k σ H1 hk ⟨hp1, y2, y3, y4, y5, y6, y7, rfl⟩
      refine ⟨_, rfl, p, a, rfl, hp1, fun c r H2 X2 ok hrec => ?_⟩
      have okc := rcOk ok
      have hrl := ok.rows
      have hone := ok.one
      have hsz := ok.size
      have hh : r.high = r.low + (r.size : Int) - 1 := rfl
      have hrec' := hrec
      obtain ⟨rt, ra, hc, hrt, hA⟩ := hrec'
      refine ⟨fun σ H' => Px p a H1 H' ∧ RecAt H' c r ∧ σ = [some (.ref sa), some (.ref p), some (.int (0 + (k : Nat))), some (.ref c), y4, y5, y6, y7], ?_, ?_⟩
      · by_cases hlt : r.low < r.high
        · refine ⟨_, rfl, _, _, _, _, rfl, rfl, SqT.of hc, atI_nat (j := 1) rfl, _, rfl, _, _, _, _, rfl, rfl, SqT.of hc, atI_nat (j := 0) rfl, _, _, rfl, rfl, _, rfl, iteY (decide_eq_true (by omega)) ⟨_, rfl, _, rfl, p, a, c, r, rfl, X2.pool, hrec, ok, hlt, fun H3 X3 => ⟨_, rfl, iteF ⟨X2.trans X3, ?_, rfl⟩⟩⟩⟩
          have T3 := X3.tup
          exact ⟨rt, ra, T3 _ _ hc, T3 _ _ hrt, hA.imp fun _ _ z => z.te T3⟩
        · exact ⟨_, rfl, _, _, _, _, rfl, rfl, SqT.of hc, atI_nat (j := 1) rfl, _, rfl, _, _, _, _, rfl, rfl, SqT.of hc, atI_nat (j := 0) rfl, _, _, rfl, rfl, _, rfl, iteN (decide_eq_false (by omega)) ⟨X2, hrec, rfl⟩⟩
      rintro σ H3 ⟨X3, hrec3, rfl⟩
      have hv : CutOk r r.low r.high := ⟨Int.le_refl _, by omega, Int.le_refl _⟩
      have hrec3' := hrec3
      obtain ⟨rt3, ra3, hc3, hrt3, hA3⟩ := hrec3'
      refine ⟨_, rfl, _, rfl, _, _, _, _, rfl, rfl, SqT.of hc3, atI_nat (j := 0) rfl, _, rfl, _, _, _, _, rfl, rfl, SqT.of hc3, atI_nat (j := 1) rfl, c, r, _, _, rfl, hrec3, okc, fun _ d H4 E4 hd => ?_, fun hn => (hn hv).elim⟩
      rw [subR_all okc] at hd
      refine ⟨_, rfl, _, _, recD r, rfl, rep_rec hd, rep_rec (hrec3.ex E4), okD_recK okc, _, rfl, iteF ?_⟩
      have hrec4 := hrec3.ex E4
      have hc4 := E4 _ _ hc3
      refine ⟨_, rfl, _, _, _, _, rfl, rfl, SqT.of hc4, atI_nat (j := 0) rfl, _, _, rfl, rfl, _, rfl, _, _, _, _, rfl, rfl, SqT.of hc4, atI_nat (j := 1) rfl, (by show 2 ≤ sizeLine; decide), fun t1 m1 => ?_⟩
      have F1 : Ex H4 (upd H4 t1 (.tup [.int (r.low - 1), .int r.high])) := Ex.new m1
      have g1 : upd H4 t1 (.tup [.int (r.low - 1), .int r.high]) t1 = some (.tup [.int (r.low - 1), .int r.high]) := upd_same
      have hc5 := F1 _ _ hc4
      generalize upd H4 t1 (.tup [.int (r.low - 1), .int r.high]) = H5 at *
      refine ⟨_, rfl, _, _, _, _, rfl, rfl, SqT.of hc5, atI_nat (j := 0) rfl, _, rfl, _, _, _, _, rfl, rfl, SqT.of hc5, atI_nat (j := 1) rfl, _, _, rfl, rfl, (by show 2 ≤ sizeLine; decide), fun t2 m2 => ?_⟩
      have F2 : Ex H5 (upd H5 t2 (.tup [.int r.low, .int (r.high + 1)])) := Ex.new m2
      have g2 : upd H5 t2 (.tup [.int r.low, .int (r.high + 1)]) t2 = some (.tup [.int r.low, .int (r.high + 1)]) := upd_same
      have hc6 := F2 _ _ hc5
      generalize upd H5 t2 (.tup [.int r.low, .int (r.high + 1)]) = H6 at *
      refine ⟨_, rfl, _, _, _, _, rfl, rfl, SqT.of hc6, atI_nat (j := 1) rfl, _, rfl, _, _, _, _, rfl, rfl, SqT.of hc6, atI_nat (j := 0) rfl, _, _, rfl, rfl, (by show 2 ≤ sizeLine; decide), fun t3 m3 => ⟨(by show 3 ≤ sizeLine; decide), fun L nL => ?_⟩⟩
      have F3 : Ex H6 (upd H6 t3 (.tup [.int r.high, .int (r.low - 1)])) := Ex.new m3
      have g3 : upd H6 t3 (.tup [.int r.high, .int (r.low - 1)]) t3 = some (.tup [.int r.high, .int (r.low - 1)]) := upd_same
      have F4 : Ex (upd H6 t3 (.tup [.int r.high, .int (r.low - 1)])) (upd (upd H6 t3 (.tup [.int r.high, .int (r.low - 1)])) L (.lst [.ref t1, .ref t2, .ref t3])) := Ex.new nL
      have hL : upd (upd H6 t3 (.tup [.int r.high, .int (r.low - 1)])) L (.lst [.ref t1, .ref t2, .ref t3]) L = some (.lst ([t1, t2, t3].map V.ref)) := upd_same
      have F47 := F1.trans (F2.trans (F3.trans F4))
      have hpairs : ∀ (i : Nat) (t : Addr), [t1, t2, t3][i]? = some t → ∃ lo hi : Int, upd (upd H6 t3 (.tup [.int r.high, .int (r.low - 1)])) L (.lst [.ref t1, .ref t2, .ref t3]) t = some (.tup [.int lo, .int hi]) ∧ ¬ CutOk r lo hi := fun i t ht => by
        match i, ht with
        | 0, ht => cases ht; exact ⟨_, _, F4 _ _ (F3 _ _ (F2 _ _ g1)), fun z => by have := z.1; omega⟩
        | 1, ht => cases ht; exact ⟨_, _, F4 _ _ (F3 _ _ g2), fun z => by have := z.2.2; omega⟩
        | 2, ht => cases ht; exact ⟨_, _, F4 _ _ g3, fun z => by have := z.2.1; omega⟩
        | n + 3, ht => cases ht
      have hrec7 := hrec4.ex F47
      have X7 := X3.more (E4.trans F47)
      generalize upd (upd H6 t3 (.tup [.int r.high, .int (r.low - 1)])) L (.lst [.ref t1, .ref t2, .ref t3]) = H7 at *
      refine ⟨L, rfl, ⟨_, SqL.of hL⟩, for_list (K := K) (a := L) (xs := [t1, t2, t3].map V.ref) (fun j σ H' => Ex H7 H' ∧ ∃ y4 : Option V, σ = [some (.ref sa), some (.ref p), some (.int (0 + (k : Nat))), some (.ref c), y4, y5, y6, y7]) ⟨Ex.refl _, _, rfl⟩ (fun j σ H' _ g => SqL.of (g.1 _ _ hL)) ?_ ?_⟩
      · rintro j z σ H8 hz ⟨E8, y4, rfl⟩
        obtain ⟨t, ht, rfl⟩ := refs_get hz
        obtain ⟨lo, hi, htp, hno⟩ := hpairs j t ht
        have htp8 := E8 _ _ htp
        refine ⟨_, rfl, _, rfl, _, _, _, _, rfl, rfl, SqT.of htp8, atI_nat (j := 0) rfl, _, rfl, _, _, _, _, rfl, rfl, SqT.of htp8, atI_nat (j := 1) rfl, .inl ⟨c, r, lo, hi, rfl, hrec7.ex E8, okc, hno, fun H9 E9 => ⟨rfl, _, rfl, iteN rfl ⟨E8.trans E9, _, rfl⟩⟩⟩⟩
      · rintro σ H8 ⟨E8, y4', rfl⟩
        have hrec8 := hrec7.ex E8
        have X8 := X7.more E8
        have hrec8' := hrec8
        obtain ⟨rt8, ra8, hc8, hrt8, hA8⟩ := hrec8'
        refine ⟨_, rfl, _, _, _, _, rfl, rfl, SqT.of hc8, atI_nat (j := 2) rfl, Nat.zero_le _, fun t0 nt0 => ?_⟩
        have E9 : Ex H8 (upd H8 t0 (.tup [])) := Ex.new nt0
        have hA9 := hA8.imp fun _ _ z => z.ex E9
        refine ⟨_, _, .tup (SqT.of (E9 _ _ hrt8)) (dpAll_rowsK ra8 _ hA9), .tup (SqT.of (xs := []) upd_same) .nil, rows_shapedK (fun x hx => name_smallK (ok.row x hx).1), by decide +kernel, ?_⟩
        rw [eqv_nilT]
        have hrec9 := hrec8.ex E9
        have X9 := X8.more E9
        generalize upd H8 t0 (.tup []) = H9 at *
        by_cases hne : r.rows = []
        · refine ⟨_, rfl, iteN (by rw [hne]; rfl) ?_⟩
          exact ⟨X9.pool, _, _, _, _, _, _, rfl⟩
        refine ⟨_, rfl, iteY (by cases hr : r.rows with | nil => exact absurd hr hne | cons x l => rfl) ?_⟩
        refine ⟨_, rfl, _, rfl, p, a, c, r, rfl, X9.pool, hrec9, ok, hne, fun o r' H10 X10 ho ok' elow esize => ?_⟩
        have T10 := X10.tup
        have hrec10 : RecAt H10 c r := by
          obtain ⟨q1, q2, e1, e2, e3⟩ := hrec9
          exact ⟨q1, q2, T10 _ _ e1, T10 _ _ e2, e3.imp fun _ _ z => z.te T10⟩
        refine ⟨_, rfl, _, rfl, c, o, _, _, rfl, hrec10, ho, okc, ok', fun H11 E11 => ?_⟩
        have hrec11 := hrec10.ex E11
        have ho11 := ho.ex E11
        refine ⟨_, rfl, _, rfl, c, o, _, _, rfl, hrec11, ho11, okc, ok', ?_⟩
        refine ⟨_, _, .bl _, rfl, .bl _, .bl _, trivial, _, rfl, iteF ?_⟩
        have hrec11' := hrec11
        obtain ⟨rt11, ra11, hc11, hrt11, hA11⟩ := hrec11'
        have X11 := X10.more E11
        refine ⟨_, rfl, _, _, _, _, rfl, rfl, SqT.of hc11, atI_nat (j := 0) rfl, _, rfl, _, rfl, _, _, _, _, rfl, rfl, SqT.of hc11, atI_nat (j := 1) rfl, _, rfl, _, _, _, _, rfl, rfl, SqT.of hc11, atI_nat (j := 0) rfl, _, _, rfl, rfl, _, _, rfl, rfl, p, a, (r.high - r.low + 1), rfl, by omega, by omega, X11.pool, fun v H12 hv12 X12 k12 => ⟨_, _, rfl, rfl, ?_⟩⟩
        have T12 := X12.tup
        have hrec12 : RecAt H12 c r := ⟨rt11, ra11, T12 _ _ hc11, T12 _ _ hrt11, hA11.imp fun _ _ z => z.te T12⟩
        have ho12 : RecAt H12 o r' := by
          obtain ⟨q1, q2, e1, e2, e3⟩ := ho11
          exact ⟨q1, q2, T12 _ _ e1, T12 _ _ e2, e3.imp fun _ _ z => z.te T12⟩
        have hv' : CutOk r' (r.low + (v : Int)) r.high := ⟨by rw [elow]; omega, by omega, by
          show r.high ≤ r'.low + (r'.size : Int) - 1
          rw [elow, esize]; omega⟩
        have okp := subR_ok ok' hv'.1 hv'.2.1 hv'.2.2
        have hc12 := T12 _ _ hc11
        refine ⟨_, rfl, _, rfl, _, rfl, _, _, _, _, rfl, rfl, SqT.of hc12, atI_nat (j := 1) rfl, o, r', _, _, rfl, ho12, ok', hv', fun pt H13 E13 hpt => ?_⟩
        have hrec13 := hrec12.ex E13
        refine ⟨_, rfl, _, rfl, c, pt, _, _, rfl, hrec13, hpt, okc, okp, fun H14 E14 => ?_⟩
        have hrec14 := hrec13.ex E14
        have hpt14 := hpt.ex E14
        refine ⟨_, rfl, _, rfl, c, pt, _, _, rfl, hrec14, hpt14, okc, okp, ?_⟩
        refine ⟨_, _, .bl _, rfl, .bl _, .bl _, trivial, _, rfl, iteF ?_⟩
        refine ⟨_, rfl, _, rfl, pt, c, _, _, rfl, hpt14, hrec14, okp, okc, fun H15 E15 => ?_⟩
        refine ⟨_, rfl, _, rfl, pt, c, _, _, rfl, hpt14.ex E15, hrec14.ex E15, okp, okc, ?_⟩
        refine ⟨_, _, .bl _, rfl, .bl _, .bl _, trivial, _, rfl, iteF ?_⟩
        exact ⟨((X9.trans X11).trans X12).pool.kept (E13.trans (E14.trans E15)), _, _, _, _, _, _, rfl⟩
    · rintro σ H1 ⟨hp1, y2, y3, y4, y5, y6, y7, rfl⟩
      exact q H1
end
end G
namespace G
open PySem PySem.Spec PyProof.Rows L2
/-- the defs and the built-in names as the top has left them -/
structure All (K : PySem.W.Frag) (mg : Str → Option Value) : Prop where
  d_same_meaning : Dfd K mg "same_meaning" s_same_meaning ["first", "second"]
  d_cut : Dfd K mg "cut" s_cut ["record", "low", "high"]
  d_glued : Dfd K mg "glued" s_glued ["first", "second"]
  d_between : Dfd K mg "_between" s_between ["record", "low", "high"]
  d_law_pool : Dfd K mg "_law_pool" s_law_pool ["script"]
  d_law_spread : Dfd K mg "_law_spread" s_law_spread ["cell"]
  d_law_draw : Dfd K mg "_law_draw" s_law_draw ["pool", "many"]
  d_law_same : Dfd K mg "_law_same" s_law_same ["actual", "due"]
  d_law_word : Dfd K mg "_law_word" s_law_word ["pool"]
  d_law_record : Dfd K mg "_law_record" s_law_record ["pool"]
  d_law_part : Dfd K mg "_law_part" s_law_part ["pool"]
  d_law_told : Dfd K mg "_law_told" s_law_told ["kind", "first", "second", "third"]
  d_law_cut : Dfd K mg "_law_cut" s_law_cut ["record", "low", "high"]
  d_law_agree : Dfd K mg "_law_agree" s_law_agree ["first", "second"]
  d_law_changed : Dfd K mg "_law_changed" s_law_changed ["pool", "record"]
  d_law_parts : Dfd K mg "_law_parts" s_law_parts ["pool", "record"]
  z_max : mg "max" = none
  z_min : mg "min" = none
  z_any : mg "any" = none
  z_tuple : mg "tuple" = none
  z_zip : mg "zip" = none
  z_int : mg "int" = none
  z_list : mg "list" = none
  z_range : mg "range" = none
  z_len : mg "len" = none
  z_isinstance : mg "isinstance" = none
  z_bool : mg "bool" = none
  z_str : mg "str" = none
  z_ValueError : mg "ValueError" = none
  i_BadArgument : ∃ C : Addr, ExcI K mg "BadArgument" C ∧ IsK K mg C "BadArgument" true ∧ IsK K mg C "Refused" false ∧ CatchK K mg C "SignoffError"
  i_Refused : ∃ C : Addr, ExcI K mg "Refused" C ∧ IsK K mg C "BadArgument" false ∧ IsK K mg C "Refused" true ∧ CatchK K mg C "SignoffError"
end G
namespace G
open PySem PySem.Spec PyProof.Rows L2
theorem glue {P : Program} {w : World} {K : PySem.W.Frag} {mg : Str → Option Value} {base : Heap} (A : All K mg) {f : Addr} {fd : FuncData} (F : Fun K "law" "law" s_law f fd) : FnOk P w K mg base CX0 7 f fd ["script"] (spLaw K) := by
  have TL : TxtL mg := ⟨A.z_int, A.z_len, A.z_list, A.z_range⟩
  have TS : TxtS mg := ⟨A.z_isinstance, A.z_tuple, A.z_list, A.z_len, A.z_range, A.z_bool, A.z_int, A.z_str⟩
  have TV : TxtV mg := ⟨A.z_zip, A.z_tuple, A.z_max, A.z_min, A.z_any, A.z_list, A.z_len, A.z_range, A.z_isinstance⟩
  obtain ⟨B, UB, bb, br, b4⟩ := A.i_BadArgument
  obtain ⟨R, UR, rb, rr, r4⟩ := A.i_Refused
  obtain ⟨S, gS, hS⟩ := id b4
  have hD := ok_law_draw (P := P) (w := w) (base := base) A.d_law_draw TL (ok_law_spread A.d_law_spread TL)
  have hd := drawX hD
  have hdL := drawXL hD
  have hlw := ok_law_word A.d_law_word TS hd
  have hb := ok_between (P := P) (w := w) (base := base) A.d_between TS
  have hc := ok_cut A.d_cut UB.u hb
  have hg := ok_glued (P := P) (w := w) (base := base) A.d_glued UR.u TV
  have hs := ok_law_same (P := P) (w := w) (base := base) A.d_law_same TS 5
  have hlc := ok_law_cut (P := P) (w := w) (base := base) A.d_law_cut TV
  have ht := ok_law_told A.d_law_told TV UB.u.gC UR.u.gC gS UB.isc UR.isc (bb.at_ UB.u.gC) (br.at_ UR.u.gC) (rb.at_ UB.u.gC) (rr.at_ UR.u.gC) hS (r4.at_ gS) hc hg
  have hm := ok_same_meaning A.d_same_meaning TV hb
  have ha := ok_law_agree (P := P) (w := w) (base := base) A.d_law_agree TV
  exact fn_law F TV (ok_law_pool A.d_law_pool TL) hd hc (ok_law_record A.d_law_record TS hdL (ok_law_part A.d_law_part hd hlw)) hs hlc ht hm ha (ok_law_changed A.d_law_changed TV hd)
    (ok_law_parts A.d_law_parts TV hd hc hg hs hlc ht hm ha)
end G
namespace G
open PySem PySem.Spec PyProof.Rows L2
theorem all_mk {l : PySem.W.OpenLaw} {w : World} {K : PySem.W.Frag} {h : Heap} {mg : Str → Option Value} {fa f0 f1 f2 f3 f4 f5 f6 f7 f8 f9 f10 f11 f12 f13 f14 f15 f16 : Addr} (X : K.In h) (G : h.Ns mainGlobals mg) (hfa : mg "law" = some (.ref fa))
    {od0 an0 od1 an1 od2 an2 od3 an3 od4 an4 od5 an5 od6 an6 od7 an7 od8 an8 od9 an9 od10 an10 od11 an11 od12 an12 od13 an13 od14 an14 od15 an15 od16 an16 : Option Addr} {sl0 sl1 sl2 sl3 sl4 sl5 sl6 sl7 sl8 sl9 sl10 sl11 sl12 sl13 sl14 sl15 sl16 : Array (Option Value)} {oc0 kv0 dc0 pm0 cd0 ct0 oc1 kv1 dc1 pm1 cd1 ct1 oc2 kv2 dc2 pm2 cd2 ct2 oc3 kv3 dc3 pm3 cd3 ct3 oc4 kv4 dc4 pm4 cd4 ct4 oc5 kv5 dc5 pm5 cd5 ct5 oc6 kv6 dc6 pm6 cd6 ct6 oc7 kv7 dc7 pm7 cd7 ct7 oc8 kv8 dc8 pm8 cd8 ct8 oc9 kv9 dc9 pm9 cd9 ct9 oc10 kv10 dc10 pm10 cd10 ct10 oc11 kv11 dc11 pm11 cd11 ct11 oc12 kv12 dc12 pm12 cd12 ct12 oc13 kv13 dc13 pm13 cd13 ct13 oc14 kv14 dc14 pm14 cd14 ct14 oc15 kv15 dc15 pm15 cd15 ct15 oc16 kv16 dc16 pm16 cd16 ct16 : Value}
    (a0 : PySem.W.nsIn K mainGlobals "same_meaning" = some (some (.ref f0))) (l0 : K.lookup f0 = some ⟨oc0, od0, .func (PySem.W.fnOf "same_meaning" "same_meaning" (defArgs s_same_meaning) (defBody s_same_meaning) (defScope s_same_meaning) .none kv0 dc0 pm0 an0 cd0 ct0), sl0⟩) (c0 : PySem.W.codeIn K cd0 "same_meaning" = true) (k0 : PySem.W.keepIn K (.ref f0) = true)
    (a1 : PySem.W.nsIn K mainGlobals "cut" = some (some (.ref f1))) (l1 : K.lookup f1 = some ⟨oc1, od1, .func (PySem.W.fnOf "cut" "cut" (defArgs s_cut) (defBody s_cut) (defScope s_cut) .none kv1 dc1 pm1 an1 cd1 ct1), sl1⟩) (c1 : PySem.W.codeIn K cd1 "cut" = true) (k1 : PySem.W.keepIn K (.ref f1) = true)
    (a2 : PySem.W.nsIn K mainGlobals "glued" = some (some (.ref f2))) (l2 : K.lookup f2 = some ⟨oc2, od2, .func (PySem.W.fnOf "glued" "glued" (defArgs s_glued) (defBody s_glued) (defScope s_glued) .none kv2 dc2 pm2 an2 cd2 ct2), sl2⟩) (c2 : PySem.W.codeIn K cd2 "glued" = true) (k2 : PySem.W.keepIn K (.ref f2) = true)
    (a3 : PySem.W.nsIn K mainGlobals "_between" = some (some (.ref f3))) (l3 : K.lookup f3 = some ⟨oc3, od3, .func (PySem.W.fnOf "_between" "_between" (defArgs s_between) (defBody s_between) (defScope s_between) .none kv3 dc3 pm3 an3 cd3 ct3), sl3⟩) (c3 : PySem.W.codeIn K cd3 "_between" = true) (k3 : PySem.W.keepIn K (.ref f3) = true)
    (a4 : PySem.W.nsIn K mainGlobals "_law_pool" = some (some (.ref f4))) (l4 : K.lookup f4 = some ⟨oc4, od4, .func (PySem.W.fnOf "_law_pool" "_law_pool" (defArgs s_law_pool) (defBody s_law_pool) (defScope s_law_pool) .none kv4 dc4 pm4 an4 cd4 ct4), sl4⟩) (c4 : PySem.W.codeIn K cd4 "_law_pool" = true) (k4 : PySem.W.keepIn K (.ref f4) = true)
    (a5 : PySem.W.nsIn K mainGlobals "_law_spread" = some (some (.ref f5))) (l5 : K.lookup f5 = some ⟨oc5, od5, .func (PySem.W.fnOf "_law_spread" "_law_spread" (defArgs s_law_spread) (defBody s_law_spread) (defScope s_law_spread) .none kv5 dc5 pm5 an5 cd5 ct5), sl5⟩) (c5 : PySem.W.codeIn K cd5 "_law_spread" = true) (k5 : PySem.W.keepIn K (.ref f5) = true)
    (a6 : PySem.W.nsIn K mainGlobals "_law_draw" = some (some (.ref f6))) (l6 : K.lookup f6 = some ⟨oc6, od6, .func (PySem.W.fnOf "_law_draw" "_law_draw" (defArgs s_law_draw) (defBody s_law_draw) (defScope s_law_draw) .none kv6 dc6 pm6 an6 cd6 ct6), sl6⟩) (c6 : PySem.W.codeIn K cd6 "_law_draw" = true) (k6 : PySem.W.keepIn K (.ref f6) = true)
    (a7 : PySem.W.nsIn K mainGlobals "_law_same" = some (some (.ref f7))) (l7 : K.lookup f7 = some ⟨oc7, od7, .func (PySem.W.fnOf "_law_same" "_law_same" (defArgs s_law_same) (defBody s_law_same) (defScope s_law_same) .none kv7 dc7 pm7 an7 cd7 ct7), sl7⟩) (c7 : PySem.W.codeIn K cd7 "_law_same" = true) (k7 : PySem.W.keepIn K (.ref f7) = true)
    (a8 : PySem.W.nsIn K mainGlobals "_law_word" = some (some (.ref f8))) (l8 : K.lookup f8 = some ⟨oc8, od8, .func (PySem.W.fnOf "_law_word" "_law_word" (defArgs s_law_word) (defBody s_law_word) (defScope s_law_word) .none kv8 dc8 pm8 an8 cd8 ct8), sl8⟩) (c8 : PySem.W.codeIn K cd8 "_law_word" = true) (k8 : PySem.W.keepIn K (.ref f8) = true)
    (a9 : PySem.W.nsIn K mainGlobals "_law_record" = some (some (.ref f9))) (l9 : K.lookup f9 = some ⟨oc9, od9, .func (PySem.W.fnOf "_law_record" "_law_record" (defArgs s_law_record) (defBody s_law_record) (defScope s_law_record) .none kv9 dc9 pm9 an9 cd9 ct9), sl9⟩) (c9 : PySem.W.codeIn K cd9 "_law_record" = true) (k9 : PySem.W.keepIn K (.ref f9) = true)
    (a10 : PySem.W.nsIn K mainGlobals "_law_part" = some (some (.ref f10))) (l10 : K.lookup f10 = some ⟨oc10, od10, .func (PySem.W.fnOf "_law_part" "_law_part" (defArgs s_law_part) (defBody s_law_part) (defScope s_law_part) .none kv10 dc10 pm10 an10 cd10 ct10), sl10⟩) (c10 : PySem.W.codeIn K cd10 "_law_part" = true) (k10 : PySem.W.keepIn K (.ref f10) = true)
    (a11 : PySem.W.nsIn K mainGlobals "_law_told" = some (some (.ref f11))) (l11 : K.lookup f11 = some ⟨oc11, od11, .func (PySem.W.fnOf "_law_told" "_law_told" (defArgs s_law_told) (defBody s_law_told) (defScope s_law_told) .none kv11 dc11 pm11 an11 cd11 ct11), sl11⟩) (c11 : PySem.W.codeIn K cd11 "_law_told" = true) (k11 : PySem.W.keepIn K (.ref f11) = true)
    (a12 : PySem.W.nsIn K mainGlobals "_law_cut" = some (some (.ref f12))) (l12 : K.lookup f12 = some ⟨oc12, od12, .func (PySem.W.fnOf "_law_cut" "_law_cut" (defArgs s_law_cut) (defBody s_law_cut) (defScope s_law_cut) .none kv12 dc12 pm12 an12 cd12 ct12), sl12⟩) (c12 : PySem.W.codeIn K cd12 "_law_cut" = true) (k12 : PySem.W.keepIn K (.ref f12) = true)
    (a13 : PySem.W.nsIn K mainGlobals "_law_agree" = some (some (.ref f13))) (l13 : K.lookup f13 = some ⟨oc13, od13, .func (PySem.W.fnOf "_law_agree" "_law_agree" (defArgs s_law_agree) (defBody s_law_agree) (defScope s_law_agree) .none kv13 dc13 pm13 an13 cd13 ct13), sl13⟩) (c13 : PySem.W.codeIn K cd13 "_law_agree" = true) (k13 : PySem.W.keepIn K (.ref f13) = true)
    (a14 : PySem.W.nsIn K mainGlobals "_law_changed" = some (some (.ref f14))) (l14 : K.lookup f14 = some ⟨oc14, od14, .func (PySem.W.fnOf "_law_changed" "_law_changed" (defArgs s_law_changed) (defBody s_law_changed) (defScope s_law_changed) .none kv14 dc14 pm14 an14 cd14 ct14), sl14⟩) (c14 : PySem.W.codeIn K cd14 "_law_changed" = true) (k14 : PySem.W.keepIn K (.ref f14) = true)
    (a15 : PySem.W.nsIn K mainGlobals "_law_parts" = some (some (.ref f15))) (l15 : K.lookup f15 = some ⟨oc15, od15, .func (PySem.W.fnOf "_law_parts" "_law_parts" (defArgs s_law_parts) (defBody s_law_parts) (defScope s_law_parts) .none kv15 dc15 pm15 an15 cd15 ct15), sl15⟩) (c15 : PySem.W.codeIn K cd15 "_law_parts" = true) (k15 : PySem.W.keepIn K (.ref f15) = true)
    (a16 : PySem.W.nsIn K mainGlobals "law" = some (some (.ref f16))) (l16 : K.lookup f16 = some ⟨oc16, od16, .func (PySem.W.fnOf "law" "law" (defArgs s_law) (defBody s_law) (defScope s_law) .none kv16 dc16 pm16 an16 cd16 ct16), sl16⟩) (c16 : PySem.W.codeIn K cd16 "law" = true) (k16 : PySem.W.keepIn K (.ref f16) = true)
    {iC0 iD0_0 iD0_1 iD0_2 : Addr} (w0_0 : PySem.W.nsIn K mainGlobals "BadArgument" = some (some (.ref iC0))) (w0_1 : PySem.W.excIn K iC0 [.type "ValueError", .type "Exception", .type "BaseException", .type "object"] "ValueError.__new__" = true) (w0_2 : PySem.W.keepIn K (.ref iC0) = true) (w0_3 : PySem.W.subIn K (.ref iC0) (.type "BaseException") = some true) (w0_4 : PySem.W.typeIn K (.ref iC0) = some (.type "type")) (w0_5 : PySem.W.hasDictIn K iC0 = true) (w0_6 : PySem.W.subIn K (.ref iC0) (.ref iC0) = some true) (w0_7 : PySem.W.findIn K (.ref iC0) "__getattribute__" = some (some (.builtin "BaseException.__getattribute__"))) (w0_8 : PySem.W.findIn K (.ref iC0) "__getattr__" = some none) (w0_9 : PySem.W.findIn K (.ref iC0) "__class__" = some (some (.builtin "object.__class__"))) (w0_10 : PySem.W.specialIn K (.builtin "object.__class__") "__get__" = some (some (.builtin "getset_descriptor.__get__"))) (w0_11 : PySem.W.takesIn K (.builtin "object.__class__") = some true) (w0_12 : PySem.W.mroIn K iC0 (.type "object") = some true) (w0_13 : PySem.W.nsIn K mainGlobals "BadArgument" = some (some (.ref iD0_0))) (w0_14 : PySem.W.kitOne K (.ref iC0) (.ref iD0_0) = some true) (w0_15 : PySem.W.nsIn K mainGlobals "Refused" = some (some (.ref iD0_1))) (w0_16 : PySem.W.kitOne K (.ref iC0) (.ref iD0_1) = some false) (w0_17 : PySem.W.nsIn K mainGlobals "SignoffError" = some (some (.ref iD0_2))) (w0_18 : PySem.W.subIn K (.ref iD0_2) (.type "BaseException") = some true) (w0_19 : PySem.W.hasDictIn K iD0_2 = true) (w0_20 : PySem.W.typeIn K (.ref iD0_2) = some (.type "type")) (w0_21 : PySem.W.subIn K (.ref iC0) (.ref iD0_2) = some true)
    {iC1 iD1_0 iD1_1 iD1_2 : Addr} (w1_0 : PySem.W.nsIn K mainGlobals "Refused" = some (some (.ref iC1))) (w1_1 : PySem.W.excIn K iC1 [.type "ValueError", .type "Exception", .type "BaseException", .type "object"] "ValueError.__new__" = true) (w1_2 : PySem.W.keepIn K (.ref iC1) = true) (w1_3 : PySem.W.subIn K (.ref iC1) (.type "BaseException") = some true) (w1_4 : PySem.W.typeIn K (.ref iC1) = some (.type "type")) (w1_5 : PySem.W.hasDictIn K iC1 = true) (w1_6 : PySem.W.subIn K (.ref iC1) (.ref iC1) = some true) (w1_7 : PySem.W.findIn K (.ref iC1) "__getattribute__" = some (some (.builtin "BaseException.__getattribute__"))) (w1_8 : PySem.W.findIn K (.ref iC1) "__getattr__" = some none) (w1_9 : PySem.W.findIn K (.ref iC1) "__class__" = some (some (.builtin "object.__class__"))) (w1_10 : PySem.W.specialIn K (.builtin "object.__class__") "__get__" = some (some (.builtin "getset_descriptor.__get__"))) (w1_11 : PySem.W.takesIn K (.builtin "object.__class__") = some true) (w1_12 : PySem.W.mroIn K iC1 (.type "object") = some true) (w1_13 : PySem.W.nsIn K mainGlobals "BadArgument" = some (some (.ref iD1_0))) (w1_14 : PySem.W.kitOne K (.ref iC1) (.ref iD1_0) = some false) (w1_15 : PySem.W.nsIn K mainGlobals "Refused" = some (some (.ref iD1_1))) (w1_16 : PySem.W.kitOne K (.ref iC1) (.ref iD1_1) = some true) (w1_17 : PySem.W.nsIn K mainGlobals "SignoffError" = some (some (.ref iD1_2))) (w1_18 : PySem.W.subIn K (.ref iD1_2) (.type "BaseException") = some true) (w1_19 : PySem.W.hasDictIn K iD1_2 = true) (w1_20 : PySem.W.typeIn K (.ref iD1_2) = some (.type "type")) (w1_21 : PySem.W.subIn K (.ref iC1) (.ref iD1_2) = some true)
    (z0 : PySem.W.nsIn K mainGlobals "max" = some none) (z1 : PySem.W.nsIn K mainGlobals "min" = some none) (z2 : PySem.W.nsIn K mainGlobals "any" = some none) (z3 : PySem.W.nsIn K mainGlobals "tuple" = some none) (z4 : PySem.W.nsIn K mainGlobals "zip" = some none) (z5 : PySem.W.nsIn K mainGlobals "int" = some none) (z6 : PySem.W.nsIn K mainGlobals "list" = some none) (z7 : PySem.W.nsIn K mainGlobals "range" = some none) (z8 : PySem.W.nsIn K mainGlobals "len" = some none) (z9 : PySem.W.nsIn K mainGlobals "isinstance" = some none) (z10 : PySem.W.nsIn K mainGlobals "bool" = some none) (z11 : PySem.W.nsIn K mainGlobals "str" = some none) (z12 : PySem.W.nsIn K mainGlobals "ValueError" = some none) :
    ∃ fd : FuncData, (∀ (s : Shared) (v : Value), BindsTo s fd ⟨[v], []⟩ [("script", v)]) ∧ ∀ base : Heap, K.In base → base.Ns mainGlobals mg → FnOk l.prog w K mg base CX0 7 fa fd ["script"] (spLaw K) := by
  have e := hfa.symm.trans (PySem.W.mg_of X G a16)
  cases e
  have F0 := fun_mk (st := s_same_meaning) l0 c0 k0
  have F1 := fun_mk (st := s_cut) l1 c1 k1
  have F2 := fun_mk (st := s_glued) l2 c2 k2
  have F3 := fun_mk (st := s_between) l3 c3 k3
  have F4 := fun_mk (st := s_law_pool) l4 c4 k4
  have F5 := fun_mk (st := s_law_spread) l5 c5 k5
  have F6 := fun_mk (st := s_law_draw) l6 c6 k6
  have F7 := fun_mk (st := s_law_same) l7 c7 k7
  have F8 := fun_mk (st := s_law_word) l8 c8 k8
  have F9 := fun_mk (st := s_law_record) l9 c9 k9
  have F10 := fun_mk (st := s_law_part) l10 c10 k10
  have F11 := fun_mk (st := s_law_told) l11 c11 k11
  have F12 := fun_mk (st := s_law_cut) l12 c12 k12
  have F13 := fun_mk (st := s_law_agree) l13 c13 k13
  have F14 := fun_mk (st := s_law_changed) l14 c14 k14
  have F15 := fun_mk (st := s_law_parts) l15 c15 k15
  have F16 := fun_mk (st := s_law) l16 c16 k16
  have A : All K mg := ⟨⟨f0, _, F0, PySem.W.mg_of X G a0, F0.binds (ps := ["first", "second"]) fun _ _ _ _ _ _ us hl => match us, hl with | [_, _], _ => rfl⟩,
    ⟨f1, _, F1, PySem.W.mg_of X G a1, F1.binds (ps := ["record", "low", "high"]) fun _ _ _ _ _ _ us hl => match us, hl with | [_, _, _], _ => rfl⟩,
    ⟨f2, _, F2, PySem.W.mg_of X G a2, F2.binds (ps := ["first", "second"]) fun _ _ _ _ _ _ us hl => match us, hl with | [_, _], _ => rfl⟩,
    ⟨f3, _, F3, PySem.W.mg_of X G a3, F3.binds (ps := ["record", "low", "high"]) fun _ _ _ _ _ _ us hl => match us, hl with | [_, _, _], _ => rfl⟩,
    ⟨f4, _, F4, PySem.W.mg_of X G a4, F4.binds (ps := ["script"]) fun _ _ _ _ _ _ us hl => match us, hl with | [_], _ => rfl⟩,
    ⟨f5, _, F5, PySem.W.mg_of X G a5, F5.binds (ps := ["cell"]) fun _ _ _ _ _ _ us hl => match us, hl with | [_], _ => rfl⟩,
    ⟨f6, _, F6, PySem.W.mg_of X G a6, F6.binds (ps := ["pool", "many"]) fun _ _ _ _ _ _ us hl => match us, hl with | [_, _], _ => rfl⟩,
    ⟨f7, _, F7, PySem.W.mg_of X G a7, F7.binds (ps := ["actual", "due"]) fun _ _ _ _ _ _ us hl => match us, hl with | [_, _], _ => rfl⟩,
    ⟨f8, _, F8, PySem.W.mg_of X G a8, F8.binds (ps := ["pool"]) fun _ _ _ _ _ _ us hl => match us, hl with | [_], _ => rfl⟩,
    ⟨f9, _, F9, PySem.W.mg_of X G a9, F9.binds (ps := ["pool"]) fun _ _ _ _ _ _ us hl => match us, hl with | [_], _ => rfl⟩,
    ⟨f10, _, F10, PySem.W.mg_of X G a10, F10.binds (ps := ["pool"]) fun _ _ _ _ _ _ us hl => match us, hl with | [_], _ => rfl⟩,
    ⟨f11, _, F11, PySem.W.mg_of X G a11, F11.binds (ps := ["kind", "first", "second", "third"]) fun _ _ _ _ _ _ us hl => match us, hl with | [_, _, _, _], _ => rfl⟩,
    ⟨f12, _, F12, PySem.W.mg_of X G a12, F12.binds (ps := ["record", "low", "high"]) fun _ _ _ _ _ _ us hl => match us, hl with | [_, _, _], _ => rfl⟩,
    ⟨f13, _, F13, PySem.W.mg_of X G a13, F13.binds (ps := ["first", "second"]) fun _ _ _ _ _ _ us hl => match us, hl with | [_, _], _ => rfl⟩,
    ⟨f14, _, F14, PySem.W.mg_of X G a14, F14.binds (ps := ["pool", "record"]) fun _ _ _ _ _ _ us hl => match us, hl with | [_, _], _ => rfl⟩,
    ⟨f15, _, F15, PySem.W.mg_of X G a15, F15.binds (ps := ["pool", "record"]) fun _ _ _ _ _ _ us hl => match us, hl with | [_, _], _ => rfl⟩,
    PySem.W.mg_none_of X G z0,
    PySem.W.mg_none_of X G z1,
    PySem.W.mg_none_of X G z2,
    PySem.W.mg_none_of X G z3,
    PySem.W.mg_none_of X G z4,
    PySem.W.mg_none_of X G z5,
    PySem.W.mg_none_of X G z6,
    PySem.W.mg_none_of X G z7,
    PySem.W.mg_none_of X G z8,
    PySem.W.mg_none_of X G z9,
    PySem.W.mg_none_of X G z10,
    PySem.W.mg_none_of X G z11,
    PySem.W.mg_none_of X G z12,
    ⟨iC0, ⟨⟨PySem.W.mg_of X G w0_0, w0_1, w0_2, w0_3, w0_4⟩, w0_5, w0_6, ⟨w0_7, w0_8, w0_3, w0_5, w0_9, w0_10, w0_11, w0_12⟩⟩, ⟨iD0_0, PySem.W.mg_of X G w0_13, w0_14⟩, ⟨iD0_1, PySem.W.mg_of X G w0_15, w0_16⟩, ⟨iD0_2, PySem.W.mg_of X G w0_17, PySem.W.exm_ref w0_18 w0_19 w0_20 w0_21⟩⟩,
    ⟨iC1, ⟨⟨PySem.W.mg_of X G w1_0, w1_1, w1_2, w1_3, w1_4⟩, w1_5, w1_6, ⟨w1_7, w1_8, w1_3, w1_5, w1_9, w1_10, w1_11, w1_12⟩⟩, ⟨iD1_0, PySem.W.mg_of X G w1_13, w1_14⟩, ⟨iD1_1, PySem.W.mg_of X G w1_15, w1_16⟩, ⟨iD1_2, PySem.W.mg_of X G w1_17, PySem.W.exm_ref w1_18 w1_19 w1_20 w1_21⟩⟩⟩
  exact ⟨_, fun s v => .of_eq rfl, fun base _ _ => glue A F16⟩
end G
open PySem PySem.W PyProof.Rows
set_option maxRecDepth 100000 in
set_option maxHeartbeats 0 in
theorem PySem.Challenge.cw_signoff_k88_whole_records_cut_and_glued_holds : PySem.Challenge.rw_signoff_k88_whole_records_cut_and_glued.Holds := by
  w_on; o_law; k_head; (case hw => w_witness2)
  k_fill
  refine L2.walk_of (l := PySem.Challenge.rw_signoff_k88_whole_records_cut_and_glued) (n := 63) (k := 7) (x := "script") (CX := fun _ => L2.CX0) (sp := fun w => G.spLaw _) rfl (by decide) rfl ⟨rfl, by decide, by decide⟩ (fun w h Y => PySem.W.kIn_of Y) ?F (fun _ _ a ns hl _ hS => ⟨a, ns, rfl, hS, hl, fun _ => rfl⟩) (fun _ _ _ _ _ h => h)
  case F =>
    intro w mg fa h KX GN hmg
    refine' G.all_mk KX GN hmg ?a0 ?l0 ?c0 ?k0 ?a1 ?l1 ?c1 ?k1 ?a2 ?l2 ?c2 ?k2 ?a3 ?l3 ?c3 ?k3 ?a4 ?l4 ?c4 ?k4 ?a5 ?l5 ?c5 ?k5 ?a6 ?l6 ?c6 ?k6 ?a7 ?l7 ?c7 ?k7 ?a8 ?l8 ?c8 ?k8 ?a9 ?l9 ?c9 ?k9 ?a10 ?l10 ?c10 ?k10 ?a11 ?l11 ?c11 ?k11 ?a12 ?l12 ?c12 ?k12 ?a13 ?l13 ?c13 ?k13 ?a14 ?l14 ?c14 ?k14 ?a15 ?l15 ?c15 ?k15 ?a16 ?l16 ?c16 ?k16 ?xw0_0 ?xw0_1 ?xw0_2 ?xw0_3 ?xw0_4 ?xw0_5 ?xw0_6 ?xw0_7 ?xw0_8 ?xw0_9 ?xw0_10 ?xw0_11 ?xw0_12 ?xw0_13 ?xw0_14 ?xw0_15 ?xw0_16 ?xw0_17 ?xw0_18 ?xw0_19 ?xw0_20 ?xw0_21 ?xw1_0 ?xw1_1 ?xw1_2 ?xw1_3 ?xw1_4 ?xw1_5 ?xw1_6 ?xw1_7 ?xw1_8 ?xw1_9 ?xw1_10 ?xw1_11 ?xw1_12 ?xw1_13 ?xw1_14 ?xw1_15 ?xw1_16 ?xw1_17 ?xw1_18 ?xw1_19 ?xw1_20 ?xw1_21 ?z0 ?z1 ?z2 ?z3 ?z4 ?z5 ?z6 ?z7 ?z8 ?z9 ?z10 ?z11 ?z12
    (case a0 => k_is)
    (case l0 => k_is)
    (case c0 => k_is)
    (case k0 => k_is)
    (case a1 => k_is)
    (case l1 => k_is)
    (case c1 => k_is)
    (case k1 => k_is)
    (case a2 => k_is)
    (case l2 => k_is)
    (case c2 => k_is)
    (case k2 => k_is)
    (case a3 => k_is)
    (case l3 => k_is)
    (case c3 => k_is)
    (case k3 => k_is)
    (case a4 => k_is)
    (case l4 => k_is)
    (case c4 => k_is)
    (case k4 => k_is)
    (case a5 => k_is)
    (case l5 => k_is)
    (case c5 => k_is)
    (case k5 => k_is)
    (case a6 => k_is)
    (case l6 => k_is)
    (case c6 => k_is)
    (case k6 => k_is)
    (case a7 => k_is)
    (case l7 => k_is)
    (case c7 => k_is)
    (case k7 => k_is)
    (case a8 => k_is)
    (case l8 => k_is)
    (case c8 => k_is)
    (case k8 => k_is)
    (case a9 => k_is)
    (case l9 => k_is)
    (case c9 => k_is)
    (case k9 => k_is)
    (case a10 => k_is)
    (case l10 => k_is)
    (case c10 => k_is)
    (case k10 => k_is)
    (case a11 => k_is)
    (case l11 => k_is)
    (case c11 => k_is)
    (case k11 => k_is)
    (case a12 => k_is)
    (case l12 => k_is)
    (case c12 => k_is)
    (case k12 => k_is)
    (case a13 => k_is)
    (case l13 => k_is)
    (case c13 => k_is)
    (case k13 => k_is)
    (case a14 => k_is)
    (case l14 => k_is)
    (case c14 => k_is)
    (case k14 => k_is)
    (case a15 => k_is)
    (case l15 => k_is)
    (case c15 => k_is)
    (case k15 => k_is)
    (case a16 => k_is)
    (case l16 => k_is)
    (case c16 => k_is)
    (case k16 => k_is)
    (case xw0_0 => first | k_exc | k_is | rfl)
    (case xw0_1 => first | k_exc | k_is | rfl)
    (case xw0_2 => first | k_exc | k_is | rfl)
    (case xw0_3 => first | k_exc | k_is | rfl)
    (case xw0_4 => first | k_exc | k_is | rfl)
    (case xw0_5 => first | k_exc | k_is | rfl)
    (case xw0_6 => first | k_exc | k_is | rfl)
    (case xw0_7 => first | k_exc | k_is | rfl)
    (case xw0_8 => first | k_exc | k_is | rfl)
    (case xw0_9 => first | k_exc | k_is | rfl)
    (case xw0_10 => first | k_exc | k_is | rfl)
    (case xw0_11 => first | k_exc | k_is | rfl)
    (case xw0_12 => first | k_exc | k_is | rfl)
    (case xw0_13 => first | k_exc | k_is | rfl)
    (case xw0_14 => first | k_exc | k_is | rfl)
    (case xw0_15 => first | k_exc | k_is | rfl)
    (case xw0_16 => first | k_exc | k_is | rfl)
    (case xw0_17 => first | k_exc | k_is | rfl)
    (case xw0_18 => first | k_exc | k_is | rfl)
    (case xw0_19 => first | k_exc | k_is | rfl)
    (case xw0_20 => first | k_exc | k_is | rfl)
    (case xw0_21 => first | k_exc | k_is | rfl)
    (case xw1_0 => first | k_exc | k_is | rfl)
    (case xw1_1 => first | k_exc | k_is | rfl)
    (case xw1_2 => first | k_exc | k_is | rfl)
    (case xw1_3 => first | k_exc | k_is | rfl)
    (case xw1_4 => first | k_exc | k_is | rfl)
    (case xw1_5 => first | k_exc | k_is | rfl)
    (case xw1_6 => first | k_exc | k_is | rfl)
    (case xw1_7 => first | k_exc | k_is | rfl)
    (case xw1_8 => first | k_exc | k_is | rfl)
    (case xw1_9 => first | k_exc | k_is | rfl)
    (case xw1_10 => first | k_exc | k_is | rfl)
    (case xw1_11 => first | k_exc | k_is | rfl)
    (case xw1_12 => first | k_exc | k_is | rfl)
    (case xw1_13 => first | k_exc | k_is | rfl)
    (case xw1_14 => first | k_exc | k_is | rfl)
    (case xw1_15 => first | k_exc | k_is | rfl)
    (case xw1_16 => first | k_exc | k_is | rfl)
    (case xw1_17 => first | k_exc | k_is | rfl)
    (case xw1_18 => first | k_exc | k_is | rfl)
    (case xw1_19 => first | k_exc | k_is | rfl)
    (case xw1_20 => first | k_exc | k_is | rfl)
    (case xw1_21 => first | k_exc | k_is | rfl)
    (case z0 => k_is)
    (case z1 => k_is)
    (case z2 => k_is)
    (case z3 => k_is)
    (case z4 => k_is)
    (case z5 => k_is)
    (case z6 => k_is)
    (case z7 => k_is)
    (case z8 => k_is)
    (case z9 => k_is)
    (case z10 => k_is)
    (case z11 => k_is)
    (case z12 => k_is)
#print axioms PySem.Challenge.cw_signoff_k88_whole_records_cut_and_glued_holds
