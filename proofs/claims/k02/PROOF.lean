import PyProof.Rows.All
import Wide.All
import OpenK.AllK
import Wide.FinOn
import HandS.ForMost
import HandS.Evl
import HandS.Wide
import HandS.WideBits
import HandS.Flow
import HandS.IsInst
import HandS.TupAny
import HandS.Walk
import HandS.Zip
import HandS.Steps
import KE.GoesMore
import KE.GoesEnum
import KE.KEqSeq
import HandS.StrMore
import PyProof.StrLawsFirst
import HandS.FStr
import HandS.Style
import HandS.Text
import HandS.ForExc
import HandS.ExcIs
import HandS.CallSlots
import HandS.Property
import HandS.Small
import HandS.ClsMeth
import HandS.ExcInit
import HandS.ExcField
import HandS.Nested
import KE.KExcSuper
import KE.KSuper
import KE.KExcIs
import PySem.Challenge.RW_signoff_k02_bad_tokens_told
set_option Elab.async false
set_option linter.all false
set_option maxRecDepth 100000
set_option maxHeartbeats 4000000
set_option Elab.async false
set_option linter.all false
set_option maxRecDepth 100000
set_option maxHeartbeats 4000000
namespace G
open PySem PySem.Spec PyProof.Rows L2 Evl
/-! ## defs by name -/
def Dfd (K : PySem.W.Frag) (mg : Str → Option Value) (x : Str) (st : Stmt) (ps : List Str) : Prop := ∃ (f : Addr) (fd : FuncData), Fun K x x st f fd ∧ mg x = some (.ref f) ∧ Binds K fd ps []
def Has (P : Program) (w : World) (K : PySem.W.Frag) (mg : Str → Option Value) (base : Heap) (k : Nat) (x : Str) (ps : List Str) (sp : Sp) : Prop :=
  ∃ (f : Addr) (fd : FuncData), FnOk P w K mg base CX0 k f fd ps sp ∧ mg x = some (.ref f) ∧ PySem.W.keepIn K (.ref f) = true ∧ Binds K fd ps []
section
variable {P : Program} {w : World} {K : PySem.W.Frag} {mg : Str → Option Value} {base : Heap}
theorem Dfd.has {x : Str} {st : Stmt} {ps : List Str} {k : Nat} {sp : Sp} (d : Dfd K mg x st ps) (h : ∀ f fd, Fun K x x st f fd → FnOk P w K mg base CX0 k f fd ps sp) : Has P w K mg base k x ps sp := by
  obtain ⟨f, fd, F, g, b⟩ := d
  exact ⟨f, fd, h f fd F, g, F.kp, b⟩
theorem Has.mono {x : Str} {ps : List Str} {j k : Nat} {sp : Sp} (h : Has P w K mg base j x ps sp) (l : j ≤ k) : Has P w K mg base k x ps sp := by
  obtain ⟨f, fd, F, g⟩ := h
  exact ⟨f, fd, F.mono l, g⟩
theorem Has.imp {x : Str} {ps : List Str} {k : Nat} {sp sp' : Sp} (h : Has P w K mg base k x ps sp) (i : ∀ vs H Q E, sp' vs H Q E → sp vs H Q E) : Has P w K mg base k x ps sp' := by
  obtain ⟨f, fd, F, g⟩ := h
  exact ⟨f, fd, F.imp i, g⟩
end
/-! ## heaps -/
theorem sq_ex {K : PySem.W.Frag} {H H' : Hp} {a : Addr} {xs : List V} (e : Ex H H') (h : SqL K H a xs) : SqL K H' a xs := ex_l e h
/-- the heap without what stands at p -/
def hid (p : Addr) (H : Hp) : Hp := fun b => if b = p then none else H b
theorem hid_self {p : Addr} {H : Hp} : hid p H p = none := by unfold hid; rw [if_pos rfl]
theorem hid_ne {p b : Addr} {H : Hp} (h : b ≠ p) : hid p H b = H b := by unfold hid; rw [if_neg h]
theorem hid_get {p b : Addr} {H : Hp} {o : HO} (h : hid p H b = some o) : H b = some o := by
  by_cases e : b = p
  · subst e; rw [hid_self] at h; cases h
  · rw [hid_ne e] at h; exact h
theorem hid_neq {p b : Addr} {H : Hp} {o : HO} (h : hid p H b = some o) : b ≠ p := by
  intro e; subst e; rw [hid_self] at h; cases h
theorem hid_ex {p : Addr} {H : Hp} : Ex (hid p H) H := fun _ _ h => hid_get h
theorem hid_upd {p : Addr} {H : Hp} {o : HO} : hid p (upd H p o) = hid p H := by
  funext b
  by_cases e : b = p
  · subst e; rw [hid_self, hid_self]
  · rw [hid_ne e, hid_ne e, upd_ne e]
theorem hid_upd_ne {p q : Addr} {H : Hp} {o : HO} (h : q ≠ p) : hid p (upd H q o) = upd (hid p H) q o := by
  funext b
  by_cases e2 : b = q
  · subst e2; rw [hid_ne h, upd_same, upd_same]
  · rw [upd_ne e2]
    by_cases e : b = p
    · subst e; rw [hid_self, hid_self]
    · rw [hid_ne e, hid_ne e, upd_ne e2]
theorem hid_none {p b : Addr} {H : Hp} (h : H b = none) : hid p H b = none := by
  unfold hid; split
  · rfl
  · exact h
/-! ## the pool of draws: the list at p, the script's copy at a -/
def PoolOk (p a : Addr) (H : Hp) : Prop := ∃ (ns : List Int) (i : Nat) (c k s : Int), H p = some (.lst [.ref a, .int i, .int c, .int k, .int s]) ∧ hid p H a = some (.lst (ns.map V.int)) ∧ ns.length ≤ 1000
/-- from H to H' all but the pool is kept, and the pool is a pool -/
structure Px (p a : Addr) (H H' : Hp) : Prop where
  was : PoolOk p a H
  pool : PoolOk p a H'
  ex : Ex (hid p H) (hid p H')
section
variable {p a : Addr} {H H1 H2 H' : Hp}
theorem Px.refl (h : PoolOk p a H) : Px p a H H := ⟨h, h, Ex.refl _⟩
theorem Px.trans (x : Px p a H H1) (y : Px p a H1 H2) : Px p a H H2 := ⟨x.was, y.pool, x.ex.trans y.ex⟩
theorem PoolOk.ne {b : Addr} (h : PoolOk p a H) (n : H b = none) : b ≠ p := by
  obtain ⟨_, _, _, _, _, e, _⟩ := h
  exact (ne_of_none e n).symm
theorem PoolOk.ne2 {b : Addr} (h : PoolOk p a H) (n : H b = none) : a ≠ b := by
  obtain ⟨_, _, _, _, _, _, e, _⟩ := h
  exact ne_of_none (hid_get e) n
theorem PoolOk.kept (h : PoolOk p a H) (e : Ex H H') : PoolOk p a H' := by
  obtain ⟨ns, i, c, k, s, h1, h2, h3⟩ := h
  exact ⟨ns, i, c, k, s, e _ _ h1, by rw [hid_ne (hid_neq h2)]; exact e _ _ (hid_get h2), h3⟩
theorem Px.ofEx (h : PoolOk p a H) (e : Ex H H') : Px p a H H' := ⟨h, h.kept e, fun b o hb => by rw [hid_ne (hid_neq hb)]; exact e _ _ (hid_get hb)⟩
theorem Px.more (x : Px p a H H1) (e : Ex H1 H2) : Px p a H H2 := x.trans (Px.ofEx x.pool e)
theorem Px.draw {o : HO} (w : PoolOk p a H) (h : PoolOk p a (upd H p o)) : Px p a H (upd H p o) := ⟨w, h, by rw [hid_upd]; exact Ex.refl _⟩
theorem Px.new (x : Px p a H H1) {l : Addr} {o : HO} (n : H1 l = none) : Px p a H (upd H1 l o) := x.more (Ex.new n)
/-- what H has is kept -/
theorem Px.get (x : Px p a H H1) {b : Addr} {o : HO} (h : hid p H b = some o) : hid p H1 b = some o := x.ex _ _ h
theorem Px.at_ (x : Px p a H H1) {b : Addr} {o : HO} (h : hid p H b = some o) : H1 b = some o := hid_get (x.ex _ _ h)
theorem Px.free (x : Px p a H H1) {b : Addr} (n : H1 b = none) : H b = none := by
  cases e : H b with
  | none => rfl
  | some o =>
    have hb : b ≠ p := x.pool.ne n
    have := x.ex b o (by rw [hid_ne hb]; exact e)
    rw [hid_get this] at n; cases n
/-- an object that H does not have may change -/
theorem Px.mut (x : Px p a H H1) {l : Addr} {o : HO} (n : H l = none) : Px p a H (upd H1 l o) := by
  have hl : l ≠ p := x.was.ne n
  have ha : a ≠ l := x.was.ne2 n
  refine ⟨x.was, ?_, ?_⟩
  · obtain ⟨ns, i, c, k, s, h1, h2, h3⟩ := x.pool
    exact ⟨ns, i, c, k, s, by rw [upd_ne hl.symm]; exact h1, by rw [hid_upd_ne hl, upd_ne ha]; exact h2, h3⟩
  · rw [hid_upd_ne hl]; exact Ex.mut x.ex (hid_none n)
/-- a fresh object stands apart from the pool -/
theorem Px.seen (x : Px p a H H1) {l : Addr} {o : HO} (n : H l = none) (e : H1 l = some o) : hid p H1 l = some o := by
  rw [hid_ne (x.was.ne n)]; exact e
end
end G
namespace G
open PySem PySem.Spec PyProof.Rows L2 Evl
/-! ## comprehensions whose elements are plain values -/
theorem given_all {n : Nat} {v : Nat → V} : given n (fun _ => true) v = (List.range n).map v := by
  unfold given
  rw [List.filter_eq_self.mpr (fun _ _ => rfl)]
section
variable {lo : Int} {n j : Nat} {tt : TT} {te : TE} {vs : List Nat} {σ : L2.St} {H1 : Hp} {D : Addr} {Qd : Hp → Prop} {K : PySem.W.Frag} {a : Addr} {xs : List V}
theorem lc_turn {f : Nat → Bool} {v : Nat → V} {i : Nat} {H : Hp} {σ2 : L2.St} (e : H = upd H1 D (.lst (given i f v))) (hi : i < 100000) (ht : Ans tt σ2 H (f i)) (he : f i = true → Val te σ2 H (v i)) :
    tt σ2 H fun b H3 => if b = true then te σ2 H3 fun y H4 => ∃ acc, H4 D = some (.lst acc) ∧ acc.length < sizeLine ∧ (upd H4 D (.lst (acc ++ [y]))) = upd H1 D (.lst (given (i + 1) f v)) else H3 = upd H1 D (.lst (given (i + 1) f v)) := by
  refine ht _ ?_
  subst e
  cases hf : f i with
  | true =>
    refine iteT (he hf _ ⟨_, upd_same, sz_lt (by have := given_len i f v; omega), ?_⟩)
    rw [given_yes hf, upd_upd]
  | false =>
    refine iteF ?_
    rw [given_no hf]
theorem lcR (f : Nat → Bool) (v : Nat → V) (hn : n ≤ 100000) (hw : ∀ x, wipe ((wipe σ vs).set j (some x)) vs = wipe σ vs)
    (ht : ∀ (i : Nat) (H : Hp), i < n → H = upd H1 D (.lst (given i f v)) → Ans tt ((wipe σ vs).set j (some (.int (lo + i)))) H (f i))
    (he : ∀ (i : Nat) (H : Hp), i < n → H = upd H1 D (.lst (given i f v)) → f i = true → Val te ((wipe σ vs).set j (some (.int (lo + i)))) H (v i)) (q : Qd (upd H1 D (.lst (given n f v)))) :
    ∃ W : Nat → Nat → Hp → Prop, (∃ m, W 0 m (upd H1 D (.lst []))) ∧ ∀ i m H, W i m H →
      ((Itr lo n).stop i H ∧ Qd H) ∨ ((Itr lo n).go i H ∧ ∃ Nx : Hp → Prop, (∀ H', Nx H' → ∃ m', m' < m ∧ W (i + 1) m' H') ∧ ∀ x H', (Itr lo n).yld i H x H' → gName j x (wipe σ vs) H' fun σ2 H2 => wipe σ2 vs = wipe σ vs ∧ tt σ2 H2 fun b H3 =>
        if b = true then te σ2 H3 fun y H4 => ∃ acc, H4 D = some (.lst acc) ∧ acc.length < sizeLine ∧ Nx (upd H4 D (.lst (acc ++ [y]))) else Nx H3) :=
  lc_range (fun i H => H = upd H1 D (.lst (given i f v))) rfl (fun i H hi e => ⟨hw _, lc_turn e (by omega) (ht i H hi e) (he i H hi e)⟩) (fun H e => by rw [e]; exact q)
theorem lcRv (v : Nat → V) (hn : n ≤ 100000) (hw : ∀ x, wipe ((wipe σ vs).set j (some x)) vs = wipe σ vs)
    (he : ∀ (i : Nat) (H : Hp), i < n → H = upd H1 D (.lst (given i (fun _ => true) v)) → Val te ((wipe σ vs).set j (some (.int (lo + i)))) H (v i)) (q : Qd (upd H1 D (.lst ((List.range n).map v)))) :
    ∃ W : Nat → Nat → Hp → Prop, (∃ m, W 0 m (upd H1 D (.lst []))) ∧ ∀ i m H, W i m H →
      ((Itr lo n).stop i H ∧ Qd H) ∨ ((Itr lo n).go i H ∧ ∃ Nx : Hp → Prop, (∀ H', Nx H' → ∃ m', m' < m ∧ W (i + 1) m' H') ∧ ∀ x H', (Itr lo n).yld i H x H' → gName j x (wipe σ vs) H' fun σ2 H2 => wipe σ2 vs = wipe σ vs ∧ tYes σ2 H2 fun b H3 =>
        if b = true then te σ2 H3 fun y H4 => ∃ acc, H4 D = some (.lst acc) ∧ acc.length < sizeLine ∧ Nx (upd H4 D (.lst (acc ++ [y]))) else Nx H3) :=
  lcR (fun _ => true) v hn hw (fun _ _ _ _ => fun _ q => q) (fun i H hi e _ => he i H hi e) (by rw [given_all]; exact q)
theorem lcL (f : Nat → Bool) (v : Nat → V) (hx : SqL K H1 a xs) (hD : H1 D = none) (hn : xs.length ≤ 100000) (hw : ∀ x, wipe ((wipe σ vs).set j (some x)) vs = wipe σ vs)
    (ht : ∀ (i : Nat) (x : V) (H : Hp), xs[i]? = some x → H = upd H1 D (.lst (given i f v)) → Ans tt ((wipe σ vs).set j (some x)) H (f i))
    (he : ∀ (i : Nat) (x : V) (H : Hp), xs[i]? = some x → H = upd H1 D (.lst (given i f v)) → f i = true → Val te ((wipe σ vs).set j (some x)) H (v i)) (q : Qd (upd H1 D (.lst (given xs.length f v)))) :
    ∃ W : Nat → Nat → Hp → Prop, (∃ m, W 0 m (upd H1 D (.lst []))) ∧ ∀ i m H, W i m H →
      ((Itl K a).stop i H ∧ Qd H) ∨ ((Itl K a).go i H ∧ ∃ Nx : Hp → Prop, (∀ H', Nx H' → ∃ m', m' < m ∧ W (i + 1) m' H') ∧ ∀ x H', (Itl K a).yld i H x H' → gName j x (wipe σ vs) H' fun σ2 H2 => wipe σ2 vs = wipe σ vs ∧ tt σ2 H2 fun b H3 =>
        if b = true then te σ2 H3 fun y H4 => ∃ acc, H4 D = some (.lst acc) ∧ acc.length < sizeLine ∧ Nx (upd H4 D (.lst (acc ++ [y]))) else Nx H3) :=
  lc_list (fun i H => H = upd H1 D (.lst (given i f v))) rfl (fun i H hi e => by rw [e]; exact ex_l (Ex.new hD) hx) (fun i x H hi e => ⟨hw _, lc_turn e (by have := (List.getElem?_eq_some_iff.mp hi).1; omega) (ht i x H hi e) (he i x H hi e)⟩) (fun H e => by rw [e]; exact q)
theorem lcT (f : Nat → Bool) (v : Nat → V) (hx : SqT K H1 a xs) (hD : H1 D = none) (hn : xs.length ≤ 100000) (hw : ∀ x, wipe ((wipe σ vs).set j (some x)) vs = wipe σ vs)
    (ht : ∀ (i : Nat) (x : V) (H : Hp), xs[i]? = some x → H = upd H1 D (.lst (given i f v)) → Ans tt ((wipe σ vs).set j (some x)) H (f i))
    (he : ∀ (i : Nat) (x : V) (H : Hp), xs[i]? = some x → H = upd H1 D (.lst (given i f v)) → f i = true → Val te ((wipe σ vs).set j (some x)) H (v i)) (q : Qd (upd H1 D (.lst (given xs.length f v)))) :
    ∃ W : Nat → Nat → Hp → Prop, (∃ m, W 0 m (upd H1 D (.lst []))) ∧ ∀ i m H, W i m H →
      ((Itt K a).stop i H ∧ Qd H) ∨ ((Itt K a).go i H ∧ ∃ Nx : Hp → Prop, (∀ H', Nx H' → ∃ m', m' < m ∧ W (i + 1) m' H') ∧ ∀ x H', (Itt K a).yld i H x H' → gName j x (wipe σ vs) H' fun σ2 H2 => wipe σ2 vs = wipe σ vs ∧ tt σ2 H2 fun b H3 =>
        if b = true then te σ2 H3 fun y H4 => ∃ acc, H4 D = some (.lst acc) ∧ acc.length < sizeLine ∧ Nx (upd H4 D (.lst (acc ++ [y]))) else Nx H3) :=
  lc_tup (fun i H => H = upd H1 D (.lst (given i f v))) rfl (fun i H hi e => by rw [e]; exact ex_t (Ex.new hD) hx) (fun i x H hi e => ⟨hw _, lc_turn e (by have := (List.getElem?_eq_some_iff.mp hi).1; omega) (ht i x H hi e) (he i x H hi e)⟩) (fun H e => by rw [e]; exact q)
theorem lcLm (g : V → V) (hx : SqL K H1 a xs) (hD : H1 D = none) (hn : xs.length ≤ 100000) (hw : ∀ x, wipe ((wipe σ vs).set j (some x)) vs = wipe σ vs)
    (he : ∀ (i : Nat) (x : V) (H : Hp), xs[i]? = some x → H = upd H1 D (.lst ((xs.take i).map g)) → Val te ((wipe σ vs).set j (some x)) H (g x)) (q : Qd (upd H1 D (.lst (xs.map g)))) :
    ∃ W : Nat → Nat → Hp → Prop, (∃ m, W 0 m (upd H1 D (.lst []))) ∧ ∀ i m H, W i m H →
      ((Itl K a).stop i H ∧ Qd H) ∨ ((Itl K a).go i H ∧ ∃ Nx : Hp → Prop, (∀ H', Nx H' → ∃ m', m' < m ∧ W (i + 1) m' H') ∧ ∀ x H', (Itl K a).yld i H x H' → gName j x (wipe σ vs) H' fun σ2 H2 => wipe σ2 vs = wipe σ vs ∧ tYes σ2 H2 fun b H3 =>
        if b = true then te σ2 H3 fun y H4 => ∃ acc, H4 D = some (.lst acc) ∧ acc.length < sizeLine ∧ Nx (upd H4 D (.lst (acc ++ [y]))) else Nx H3) :=
  lc_list (fun i H => H = upd H1 D (.lst ((xs.take i).map g))) (by rw [List.take_zero]; rfl) (fun i H hi e => by rw [e]; exact ex_l (Ex.new hD) hx)
    (fun i x H hi e => ⟨hw _, by
      refine iteT (B := H = upd H1 D (.lst ((xs.take (i + 1)).map g))) ?_
      refine he i x H hi e _ ?_
      subst e
      refine ⟨_, upd_same, sz_lt ?_, ?_⟩
      · rw [List.length_map, List.length_take]; have := (List.getElem?_eq_some_iff.mp hi).1; omega
      · rw [upd_upd, List.take_add_one, hi, List.map_append]; rfl⟩) (fun H e => by rw [e, List.take_length]; exact q)
theorem lcTm (g : V → V) (hx : SqT K H1 a xs) (hD : H1 D = none) (hn : xs.length ≤ 100000) (hw : ∀ x, wipe ((wipe σ vs).set j (some x)) vs = wipe σ vs)
    (he : ∀ (i : Nat) (x : V) (H : Hp), xs[i]? = some x → H = upd H1 D (.lst ((xs.take i).map g)) → Val te ((wipe σ vs).set j (some x)) H (g x)) (q : Qd (upd H1 D (.lst (xs.map g)))) :
    ∃ W : Nat → Nat → Hp → Prop, (∃ m, W 0 m (upd H1 D (.lst []))) ∧ ∀ i m H, W i m H →
      ((Itt K a).stop i H ∧ Qd H) ∨ ((Itt K a).go i H ∧ ∃ Nx : Hp → Prop, (∀ H', Nx H' → ∃ m', m' < m ∧ W (i + 1) m' H') ∧ ∀ x H', (Itt K a).yld i H x H' → gName j x (wipe σ vs) H' fun σ2 H2 => wipe σ2 vs = wipe σ vs ∧ tYes σ2 H2 fun b H3 =>
        if b = true then te σ2 H3 fun y H4 => ∃ acc, H4 D = some (.lst acc) ∧ acc.length < sizeLine ∧ Nx (upd H4 D (.lst (acc ++ [y]))) else Nx H3) :=
  lc_tup (fun i H => H = upd H1 D (.lst ((xs.take i).map g))) (by rw [List.take_zero]; rfl) (fun i H hi e => by rw [e]; exact ex_t (Ex.new hD) hx)
    (fun i x H hi e => ⟨hw _, by
      refine iteT (B := H = upd H1 D (.lst ((xs.take (i + 1)).map g))) ?_
      refine he i x H hi e _ ?_
      subst e
      refine ⟨_, upd_same, sz_lt ?_, ?_⟩
      · rw [List.length_map, List.length_take]; have := (List.getElem?_eq_some_iff.mp hi).1; omega
      · rw [upd_upd, List.take_add_one, hi, List.map_append]; rfl⟩) (fun H e => by rw [e, List.take_length]; exact q)
end
end G
namespace G
open PySem PySem.Spec PyProof.Rows L2 Evl
/-! ## rules within a comprehension's block: the written part by its letter -/
section
variable {X : Cx} {K : PySem.W.Frag}
theorem kIxT (h : X.K = K) : IxR X (rIxT K) := by subst h; exact ix_tup
theorem kIxL (h : X.K = K) : IxR X (rIxL K) := by subst h; exact ix_list
theorem kIx (h : X.K = K) : IxR X (rIx K) := by subst h; exact ix_seq
theorem kIn (h : X.K = K) : OpR X (compareOp .In) (rIn K false) := by subst h; exact op_in_seq
theorem kNotIn (h : X.K = K) : OpR X (compareOp .NotIn) (rIn K true) := by subst h; exact op_notIn_seq
theorem kLen (h : X.K = K) : CallR X (.builtin "len") (rLenS K) := by subst h; exact call_len_seq
theorem gStr {x s : Str} {t : Tok} {pos : Pos} (hg : Gl X x) (h : X.mg x = some (.str s t)) (hd : (x == ("__debug__" : Str)) = false := by decide) : PE X (.Name x pos) (tC (.str s)) := pe_glob (v := .str s) hg h ⟨t, rfl⟩ hd
theorem gInt {x : Str} {i : Int} {t : Tok} {pos : Pos} (hg : Gl X x) (h : X.mg x = some (.int i t)) (hd : (x == ("__debug__" : Str)) = false := by decide) : PE X (.Name x pos) (tC (.int i)) := pe_glob (v := .int i) hg h ⟨t, rfl⟩ hd
theorem gRef {x : Str} {a : Addr} {pos : Pos} (hg : Gl X x) (h : X.mg x = some (.ref a)) (hd : (x == ("__debug__" : Str)) = false := by decide) : PE X (.Name x pos) (tC (.ref a)) := pe_glob (v := .ref a) hg h rfl hd
theorem kSlL (h : X.K = K) : SlR X (rSlL K) := by subst h; exact sl_list
theorem kCatA (h : X.K = K) : OpR X (binaryOp .Add) (rCatA K) := by subst h; exact op_catA
theorem kAny (h : X.K = K) (hc : X.calm = true) : CallR X (.builtin "any") (rAny K) := by subst h; exact cr_any hc
theorem kAll (h : X.K = K) (hc : X.calm = true) : CallR X (.builtin "all") (rAll K) := by subst h; exact cr_all hc
theorem kLtT (h : X.K = K) (hu : X.A.units < cLine) : OpR X (compareOp .Lt) (rLtT K) := by subst h; exact op_ltT hu
theorem kPiT {e tg : Expr} {te : TE} (h : X.K = K) (he : PE X e te) : PI X tg e (iTup K te) := by subst h; exact pi_tup he
theorem kPiL {e tg : Expr} {te : TE} (h : X.K = K) (he : PE X e te) : PI X tg e (iList K te) := by subst h; exact pi_list he
theorem kSlA (h : X.K = K) : SlR X (rSlA K) := by subst h; exact sl_tupA
end
end G
namespace G
open PySem PySem.Spec PyProof.Rows L2 Evl
theorem dpAll_map {α : Type} {K : PySem.W.Frag} {H : Hp} {f : α → V} {g : α → PyData} (h : ∀ x, Dp K H (f x) (g x)) : ∀ l : List α, DpAll K H (l.map f) (l.map g)
  | [] => .nil
  | x :: r => .cons (h x) (dpAll_map h r)
theorem dp_ints {K : PySem.W.Frag} {H : Hp} {a : Addr} {ns : List Int} (h : SqL K H a (ns.map V.int)) : Dp K H (.ref a) (.list (ns.map PyData.int)) := .lst h (dpAll_map (fun i => .int i) ns)
theorem dp_nil {K : PySem.W.Frag} {H : Hp} {a : Addr} (h : SqL K H a []) : Dp K H (.ref a) (.list []) := .lst h .nil
theorem eqv_nil (l : List PyData) : PyData.eqv (.list l) (.list []) = l.isEmpty := by cases l <;> rfl
theorem shaped_nil : SeqAt.shaped (.list []) = true := by decide +kernel
end G
/-! enumerate over a tuple -/
namespace PySem
section
variable {prog : Program} {w : World} {A : Around} {E : Value → Shared → Prop} {s : Shared}
theorem G_tupOf {h : Heap} {a : Addr} {xs : Array Value} (p : PyProof.Rows.IsTup h a xs) : h.IsTuple a xs := p
set_option maxHeartbeats 2000000 in
theorem G_enumNew {v : Value} {o : Obj} {Hh : Heap → Prop} (B : Begins v o Hh) :
    Meets (Builtin.«enumerate.__new__» ⟨[.type "enumerate", v], []⟩) (fun _ R s => Hh s.heap ∧
      R (.ok (.ret (.ref (s.heap.push o).objs.size))) { s with heap := (s.heap.push o).push { cls := .type "enumerate", data := .fields #[.none, .bool false, .ref s.heap.objs.size, rawInt 0, .none, .none] } }) :=
  .of_wp fun pr wo ar rr sh hh => by
    obtain ⟨hp, gg, dd, tk, os⟩ := sh; obtain ⟨h1, h2⟩ := hh
    have sub0 := sub_enumerate
    have qq : ∀ {A' : Around} {E : Value → Shared → Prop} {Q : Value → Shared → Prop}, Q (.ref hp.objs.size) ⟨hp.push o, gg, dd, tk, os⟩ → wpAny (model pr wo) A' (pyIter v) Q E ⟨hp, gg, dd, tk, os⟩ :=
      fun z => B.iter pr wo _ _ ⟨hp, gg, dd, tk, os⟩ _ h1 z
    wp_walk using qq
    refine wpAny_stack_any fun _ => wpAny_pure ?_
    split
    · rename_i cc _ _ _ _ _
      cases (cc == Value.type "enumerate") <;> (wp_walk using qq; exact ⟨_, rfl, h2⟩)
    · wp_walk using qq
      exact ⟨_, rfl, h2⟩
theorem G_enumCall {v : Value} {o : Obj} {Hh : Heap → Prop} {Q : Value → Shared → Prop} (B : Begins v o Hh) (h1 : Hh s.heap)
    (k : ∀ h', IsEnum h' (s.heap.objs.size + 1) s.heap.objs.size 0 .none → h'.get? s.heap.objs.size = some o → (∀ b u, s.heap.get? b = some u → h'.get? b = some u) → Q (.ref (s.heap.objs.size + 1)) { s with heap := h' }) :
    wpAny (model prog w) A (call (.type "enumerate") [v]) Q E s := by
  refine callType_new F.called_enumerate (by decide) (F.typeCall_enumerate_1 _) (F.newCall_enumerate_1 _) (fun y => F.args_object_init_2 y _) F.entry_enumerate_new (G_enumNew B) ⟨h1, ?_⟩
  have hz : (s.heap.push o).objs.size = s.heap.objs.size + 1 := Heap.size_push ..
  show _ ∧ _
  rw [hz]
  have he : IsEnum ((s.heap.push o).push { cls := .type "enumerate", data := .fields #[.none, .bool false, .ref s.heap.objs.size, rawInt 0, .none, .none] }) (s.heap.objs.size + 1) s.heap.objs.size 0 .none := by
    have hs := Heap.get?_push_size (s.heap.push o) (o := { cls := .type "enumerate", data := .fields #[.none, .bool false, .ref s.heap.objs.size, rawInt 0, .none, .none] }) rfl
    rw [hz] at hs; exact hs
  exact ⟨⟨_, he, rfl⟩, k _ he (Heap.get?_push_of_some _ (Heap.get?_push_size _ B.free)) fun b u x => Heap.get?_push_of_some _ (Heap.get?_push_of_some _ x)⟩
end
end PySem
namespace G
open PySem PySem.Spec PyProof.Rows L2 Evl
/-- the tuple at a at each turn, each item in a new pair -/
def IteT (K : PySem.W.Frag) (a : Addr) : It :=
  ⟨fun i H => ∃ (xs : List V) (x : V), SqT K H a xs ∧ xs[i]? = some x,
   fun i H v H' => ∃ T x, v = .ref T ∧ H T = none ∧ H' = upd H T (.tup [.int (i : Nat), x]) ∧ ∀ xs, SqT K H a xs → xs[i]? = some x,
   fun i H => ∃ xs : List V, SqT K H a xs ∧ xs.length = i⟩
theorem turn_enumT {P : Program} {w : World} {K : PySem.W.Frag} {elts : List Expr} {kk : Nat} {tpos : Pos} (a e it : Addr) :
    Turn P w K (.Tuple elts kk tpos) (IteT K a) [e, it] e (fun i h => (∃ old, IsEnum h e it ((i : Nat) : Int) old) ∧ h.IsTupleIter it a i ∧ e ≠ it ∧ a ≠ it ∧ a ≠ e) where
  mem := by simp
  obj := fun i h st b hb => by
    obtain ⟨⟨old, he⟩, ⟨o, ho, hc, hd⟩, _⟩ := st
    have hb' : b = e ∨ b = it := by simpa using hb
    rcases hb' with z | z
    · rw [z]; exact ⟨_, he, fun v q => nomatch q⟩
    · rw [z]; exact ⟨o, ho, fun v q => by rw [hd] at q; cases q⟩
  keep := fun i h h' st k => by
    obtain ⟨⟨old, he⟩, hi, hne⟩ := st
    exact ⟨⟨old, k e (by simp) _ he⟩, hi.at fun o q => k it (by simp) o q, hne⟩
  item := by
    intro X hP hw hK hc i pins s σ H E I hf st hg
    subst hP hw hK
    obtain ⟨⟨old, he⟩, hit, hne, hai, hae⟩ := st
    obtain ⟨xs, x, hq, hx⟩ := hg
    obtain ⟨its, rv, p, hz⟩ := I.tuple hq
    obtain ⟨u, hu, ru⟩ := rv.get hx
    have hel : e < s.heap.objs.size := Heap.lt_size he
    have hil : it < s.heap.objs.size := by obtain ⟨_, q, _⟩ := hit; exact Heap.lt_size q
    have hh : X.A.handled = none := I.ok.hd hc
    refine wpAny_pyNext_enum_itemD (Draws.tuple (A := X.A.in1) hh it a hai its.toArray) he ⟨hit, p⟩ ?_ hne ?_ fun y h' tk hy ho hst hT hsz hk => ?_
    · have := (List.getElem?_eq_some_iff.mp hu).1
      simpa using this
    · intro hm
      have hm' : e = it ∨ e = a := by simpa using hm
      rcases hm' with z | z
      · exact hne z
      · exact hae z.symm
    · have ey : y = u := by
        have hy' : its[i]? = some y := by simpa using hy
        exact Option.some.inj (hy'.symm.trans hu)
      subst ey
      refine ⟨_, rfl, wpAny_letOwnedTupleGo_enum (s := { s with heap := h', toks := tk + 1 }) ho fun h'' he' sb => ?_⟩
      have hT2 : h''.get? s.heap.objs.size = some { cls := .type "tuple", data := .seq #[.int i tk, y] } := (sb.2 _ (Nat.ne_of_gt hel)).trans hT
      have new : ObjOk X.prog X.w (upd H s.heap.objs.size (.tup [.int (i : Nat), x])) h'' s.heap.objs.size (.tup [.int (i : Nat), x]) :=
        ⟨by show 2 ≤ sizeLine; decide, [.int i tk, y], .cons ⟨_, rfl⟩ (.cons ru .nil), ⟨_, hT2, rfl, _, rfl⟩⟩
      have I1 : Inv X pins σ (upd H s.heap.objs.size (.tup [.int (i : Nat), x])) { s with heap := h'', toks := tk + 1 } :=
        I.turnedNew (ch := [e, it]) (fun b ob hb q => (sb.2 b (fun z => hb (by simp [z]))).trans (hk b ob (fun z => hb (by simp [z])) (fun z => hb (by simp [z])) q)) hf (Nat.le_refl _) new
      refine ⟨.ref s.heap.objs.size, _, I1, rfl, ⟨_, x, rfl, I.hok.fresh (Nat.le_refl _), rfl, fun ys hy => by rw [I.tuple_inj hy hq]; exact hx⟩, ⟨⟨y, ?_⟩, hst.1.at fun o q => (sb.2 it (Ne.symm hne)).trans q, hne, hai, hae⟩, fun b hb => ?_⟩
      · have e1 : ((i + 1 : Nat) : Int) = (i : Int) + 1 := by omega
        rw [e1]; exact he'
      · have hb' : b < s.heap.objs.size := by
          have hb2 : b = e ∨ b = it := by simpa using hb
          rcases hb2 with z | z
          · rw [z]; exact hel
          · rw [z]; exact hil
        rw [upd_ne (Nat.ne_of_lt hb')]
        exact (hf b hb).1
  done := by
    intro X hP hw hK hc i pins s σ H E I hf st hg
    subst hP hw hK
    obtain ⟨⟨old, he⟩, hit, hne, hai, hae⟩ := st
    obtain ⟨xs, hq, hx⟩ := hg
    obtain ⟨its, rv, p, hz⟩ := I.tuple hq
    obtain ⟨f0, f1, f2, f3, f4, f5⟩ := hf it (by simp)
    have hl := rv.length
    have hh : X.A.handled = none := I.ok.hd hc
    have ei : its.toArray.size = i := by rw [List.size_toArray, ← hl]; exact hx
    have st2 : s.heap.IsTupleIter it a its.toArray.size ∧ s.heap.IsTuple a its.toArray := by rw [ei]; exact ⟨hit, p⟩
    exact wpAny_pyNext_enum_endD (Draws.tuple (A := X.A.in1) hh it a hai its.toArray) he st2 fun h' eb => ⟨rfl, I.turned (t' := s.toks) (fun b o hb q => eb b o hb q) f0 f1 f3 f4 f5⟩
  self := fun A i s Q E st h => by
    obtain ⟨⟨_, he⟩, _⟩ := st
    exact wpAny_pyIter_enum he h
def iEnumT (K : PySem.W.Frag) (ta : TA) : TI := fun σ H R => ta σ H fun vs H1 => ∃ a xs, vs = [.ref a] ∧ SqT K H1 a xs ∧ R (IteT K a) H1
theorem pi_enumT {X : Cx} {e : Expr} {ta : TA} {p pos tpos : Pos} {elts : List Expr} {kk : Nat} (hg : Gl X "enumerate") (hm : X.mg "enumerate" = none) (ha : PA X [e] ta) (hs : starEach [e] X.env = [(false, eval e X.env)] := by rfl) :
    PI X (.Tuple elts kk tpos) (.Call (.Name "enumerate" p) [e] [] pos) (iEnumT X.K ta) := by
  refine ⟨fun pins s σ H R I h => Call_ (ld_blt I hg hm boot_enumerate (PyProof.Rows.callWith_type1 (thn (ha.run pos pins s σ H _ I h) fun us s1 ⟨vs, H1, I1, r1, q1⟩ => ?_) hs rfl))⟩
  obtain ⟨a, xs, rfl, hq, q⟩ := q1
  cases r1 with
  | cons r rr =>
    cases rr
    cases r
    obtain ⟨its, rv, p', hz⟩ := I1.tuple hq
    have hal : a < s1.heap.objs.size := by obtain ⟨o, ho, _⟩ := p'; exact Heap.lt_size ho
    refine G_enumCall (begins_tuple a its.toArray) p' fun h' he hit hk => wpAny_pyIter_enum he ?_
    have I2 : Inv X pins σ H1 { s1 with heap := h' } := I1.kept (t' := s1.toks) hk
    refine ⟨s1.heap.objs.size + 1, [s1.heap.objs.size + 1, s1.heap.objs.size], _, _, H1, rfl, I2, turn_enumT a (s1.heap.objs.size + 1) s1.heap.objs.size,
      ⟨⟨.none, he⟩, ⟨_, hit, rfl, rfl⟩, Nat.succ_ne_self _, Nat.ne_of_lt hal, Nat.ne_of_lt (Nat.lt_succ_of_lt hal)⟩, fun b hb => ?_, q⟩
    have hb' : b = s1.heap.objs.size + 1 ∨ b = s1.heap.objs.size := by simpa using hb
    have hle : s1.heap.objs.size ≤ b := by
      rcases hb' with z | z
      · rw [z]; exact Nat.le_add_right _ _
      · rw [z]; exact Nat.le_refl _
    exact I1.fpOk hle (I1.hok.fresh hle)
theorem walk_enumT {K : PySem.W.Frag} {a : Addr} {xs : List V} : Walk (IteT K a) xs.length (fun H => SqT K H a xs) (YPair (fun i => some (.int (i : Nat))) (fun i => xs[i]?)) := by
  refine ⟨fun i _ hi q => ⟨xs, xs[i], q, by simp [hi]⟩, fun _ q => ⟨xs, q, rfl⟩, fun i H v H' _ q y => ?_⟩
  obtain ⟨T, x, h1, h2, h3, h4⟩ := y
  exact ⟨T, .int (i : Nat), x, h1, h2, h3, rfl, h4 xs q⟩
theorem kPiEnumT {X : Cx} {K : PySem.W.Frag} {e : Expr} {ta : TA} {p pos tpos : Pos} {elts : List Expr} {kk : Nat} (h : X.K = K) (hg : Gl X "enumerate") (hm : X.mg "enumerate" = none) (ha : PA X [e] ta) (hs : starEach [e] X.env = [(false, eval e X.env)] := by rfl) :
    PI X (.Tuple elts kk tpos) (.Call (.Name "enumerate" p) [e] [] pos) (iEnumT K ta) := by subst h; exact pi_enumT hg hm ha hs
end G
/-! t[a::2], t a tuple -/
namespace HT
open PySem PySem.Spec PyProof.Rows L2
section
variable {prog : Program} {w : World} {A : Around} {E : Value → Shared → Prop} {s : Shared}
theorem g_applied {sl : Addr} {vl vu vs : Value} {lo hi : Option Int} {st : Int} {n : Nat} {Q : Int × Int × Nat → Shared → Prop} (hs : s.heap.IsSliceOf sl vl vu vs) (pl : IsPart vl lo) (pu : IsPart vu hi) (ps : IsPart vs (some st)) (h0 : st ≠ 0)
    (h : Q ((Builtin.Slice.sliceAdjust lo hi st (n : Int)).1, st, Builtin.Slice.slicePlaces (Builtin.Slice.sliceAdjust lo hi st (n : Int)).1 (Builtin.Slice.sliceAdjust lo hi st (n : Int)).2 st) s) :
    wpAny (model prog w) A (Builtin.Slice.sliceApplied (.ref sl) (pure (n : Int))) Q E s := by
  obtain ⟨ob, hob, _, hd⟩ := id hs
  unfold Builtin.Slice.sliceApplied Builtin.Slice.sliceFields
  refine wpAny_bind (wpAny_bind (wpAny_field hob hd (x := vl) rfl (wpAny_bind (wpAny_field hob hd (x := vu) rfl (wpAny_bind (wpAny_field hob hd (x := vs) rfl (wpAny_pure ?_)))))))
  refine wpAny_bind (slicePart_ ps ?_)
  show wpAny _ _ (if (st == 0) = true then _ else _) _ _ s
  rw [if_neg (by intro q; exact h0 (eq_of_beq q))]
  exact wpAny_bind (slicePart_ pl (wpAny_bind (slicePart_ pu (wpAny_bind (wpAny_pure (wpAny_pure h))))))
def stepped (xs : List Value) (lo st : Int) (n : Nat) : List Value := (List.range n).filterMap fun (k : Nat) => xs.toArray[(lo + (k : Int) * st).toNat]?
theorem g_getStep {t sl : Addr} {its : List Value} {vl vu vs : Value} {lo hi : Option Int} {st : Int} {Q : Value → Shared → Prop} (ht : IsTup s.heap t its.toArray) (hs : s.heap.IsSliceOf sl vl vu vs) (pl : IsPart vl lo) (pu : IsPart vu hi) (ps : IsPart vs (some st)) (h0 : st ≠ 0) (h1 : st ≠ 1)
    (hz : (stepped its (Builtin.Slice.sliceAdjust lo hi st (its.toArray.size : Int)).1 st (Builtin.Slice.slicePlaces (Builtin.Slice.sliceAdjust lo hi st (its.toArray.size : Int)).1 (Builtin.Slice.sliceAdjust lo hi st (its.toArray.size : Int)).2 st)).length ≤ sizeLine)
    (h : Q (.ref s.heap.objs.size) { s with heap := s.heap.push { cls := .type "tuple", data := .seq (stepped its (Builtin.Slice.sliceAdjust lo hi st (its.toArray.size : Int)).1 st (Builtin.Slice.slicePlaces (Builtin.Slice.sliceAdjust lo hi st (its.toArray.size : Int)).1 (Builtin.Slice.sliceAdjust lo hi st (its.toArray.size : Int)).2 st)).toArray } }) :
    wpAny (model prog w) A (getItem (.ref t) (.ref sl)) Q E s := by
  have ok : sizeOk (.seq (stepped its (Builtin.Slice.sliceAdjust lo hi st (its.toArray.size : Int)).1 st (Builtin.Slice.slicePlaces (Builtin.Slice.sliceAdjust lo hi st (its.toArray.size : Int)).1 (Builtin.Slice.sliceAdjust lo hi st (its.toArray.size : Int)).2 st)).toArray) := by
    show (stepped its _ st _).toArray.size ≤ sizeLine
    rw [List.size_toArray]; exact hz
  obtain ⟨ob, hob, hc, hd⟩ := id hs
  have hTs : s.TypeIs (.ref sl) "slice" := ⟨ob, hob, hc⟩
  unfold getItem
  try with_reducible refine wpAny_holding ?_
  first | refine wpAny_bind (wpAny_pure ?_) | skip
  refine wpAny_bind (wpAny_sequenceKey ht.typeIs (by decide) ?_)
  refine wpAny_bind (wpAny_callSpecial?_slot (name := Str.ofString "__getitem__") ht.typeIs slot_tuple_getitem (wpAny_call_entry slot_tuple_getitem ht.typeIs entry_tuple_getitem ?_ (args_tuple_getitem _ _)))
  show wpAny _ _ (Builtin.Tuple.tupleItemsOf (.ref t) >>= _) _ _ s
  refine wpAny_bind (tupleItemsOf_ ht (wpAny_bind (wpAny_typeOf hTs ?_)))
  rw [if_pos (by decide)]
  refine wpAny_bind (g_applied hs pl pu ps h0 ?_)
  generalize (Builtin.Slice.sliceAdjust lo hi st (its.toArray.size : Int)).1 = l0 at *
  generalize Builtin.Slice.slicePlaces l0 (Builtin.Slice.sliceAdjust lo hi st (its.toArray.size : Int)).2 st = n0 at *
  have hno : ¬ ((l0 == 0 && st == 1 && n0 == its.toArray.size) = true) := by
    intro q
    rw [Bool.and_eq_true, Bool.and_eq_true] at q
    exact h1 (eq_of_beq q.1.2)
  show wpAny _ _ (if (l0 == 0 && st == 1 && n0 == its.toArray.size) = true then _ else _) _ _ s
  rw [if_neg hno]
  first
    | exact wpAny_bind (m := Builtin.Tuple.tupleExact _) (wpAny_newObj_type (wpAny_pure ⟨_, rfl, wpAny_pure h⟩) ok)
    | exact wpAny_bind (m := Builtin.Tuple.tupleExact _) (wpAny_newObj_type (wpAny_bind (wpAny_pure (wpAny_pure ⟨_, rfl, wpAny_pure h⟩))) ok)
    | exact wpAny_bind (wpAny_bind (m := Builtin.Tuple.tupleExact _) (wpAny_newObj_type (wpAny_pure (wpAny_pure ⟨_, rfl, wpAny_pure h⟩)) ok))
    | exact wpAny_bind (wpAny_bind (m := Builtin.Tuple.tupleExact _) (wpAny_newObj_type (wpAny_pure ⟨_, rfl, wpAny_pure h⟩) ok))
end
end HT
namespace G
open PySem PySem.Spec PyProof.Rows L2 Evl
/-- every second item from a on -/
def halfL {α : Type} (a : Nat) (xs : List α) : List α := (List.range ((xs.length - a + 1) / 2)).filterMap fun k => xs[a + 2 * k]?
theorem halfL_len {α : Type} (a : Nat) (xs : List α) : (halfL a xs).length ≤ xs.length + 1 := by
  unfold halfL
  refine Nat.le_trans (List.length_filterMap_le _ _) ?_
  rw [List.length_range]; omega
theorem vals_filterMap {f : Nat → Option V} {g : Nat → Option Value} : ∀ {l : List Nat}, (∀ k, k ∈ l → RelO (f k) (g k)) → Vals (l.filterMap f) (l.filterMap g)
  | [], _ => .nil
  | k :: r, h => by
    have hk := h k (List.mem_cons_self ..)
    have ih := vals_filterMap (l := r) fun j hj => h j (List.mem_cons_of_mem _ hj)
    rw [List.filterMap_cons, List.filterMap_cons]
    cases e : f k with
    | none =>
      cases e2 : g k with
      | none => exact ih
      | some u => rw [e, e2] at hk; exact hk.elim
    | some v =>
      cases e2 : g k with
      | none => rw [e, e2] at hk; exact hk.elim
      | some u => rw [e, e2] at hk; exact .cons hk ih
def tHalf (K : PySem.W.Frag) (a : Nat) (te : TE) : TE := fun σ H Q => te σ H fun x H1 => ∃ t xs, x = .ref t ∧ SqT K H1 t xs ∧ xs.length ≤ 100000 ∧ ∀ p, H1 p = none → Q (.ref p) (upd H1 p (.tup (halfL a xs)))
theorem half_places {a n : Nat} (h : a ≤ 1) : (Builtin.Slice.sliceAdjust (some (a : Int)) none 2 (n : Int)).1 = ((min a n : Nat) : Int) ∧
    Builtin.Slice.slicePlaces (Builtin.Slice.sliceAdjust (some (a : Int)) none 2 (n : Int)).1 (Builtin.Slice.sliceAdjust (some (a : Int)) none 2 (n : Int)).2 2 = (n - a + 1) / 2 := by
  have h2 : ¬ ((2 : Int) < 0) := by omega
  have h3 : (2 : Int) > 0 := by omega
  have ha : ¬ ((a : Int) < 0) := by omega
  have e : Builtin.Slice.sliceAdjust (some (a : Int)) none 2 (n : Int) = (((min a n : Nat) : Int), (n : Int)) := by
    unfold Builtin.Slice.sliceAdjust
    simp only [h2, if_false, ha]
    refine Prod.ext ?_ rfl
    show min (a : Int) (n : Int) = ((min a n : Nat) : Int)
    omega
  rw [e]
  refine ⟨rfl, ?_⟩
  show Builtin.Slice.slicePlaces ((min a n : Nat) : Int) (n : Int) 2 = (n - a + 1) / 2
  unfold Builtin.Slice.slicePlaces
  simp only [h3, if_true]
  split <;> omega
section
variable {X : Cx}
theorem pe_half {e : Expr} {te : TE} {a : Nat} {k1 k2 : Nat} {p1 p2 p3 pos : Pos} (ha : a ≤ 1) (he : PE X e te) : PE X (.Subscript e (.Slice (some (.Constant (.int (a : Int)) k1 p1)) none (some (.Constant (.int 2) k2 p2)) p3) pos) (tHalf X.K a te) := by
  refine ⟨fun pins s σ H Q I h => Subscript_ (thn (he.run pins s σ H _ I h) fun v s1 ⟨x, H1, I1, r1, q1⟩ => ?_)⟩
  obtain ⟨t, xs, rfl, hx, hlen, q⟩ := q1
  cases r1
  have hlo : PO X (some (.Constant (.int (a : Int)) k1 p1)) (tPart (tC (.int (a : Int)))) := po_some pe_int
  have hst : PO X (some (.Constant (.int 2) k2 p2)) (tPart (tC (.int 2))) := po_some pe_int
  refine wpAny_Slice (thn (hlo.run pins s1 σ H1 (fun o H2 => o = some (a : Int) ∧ H2 = H1) I1 ⟨_, rfl, rfl, rfl⟩) fun vl s2 ⟨l, H2, I2, pl, el, e2⟩ => ?_)
  subst el e2
  refine thn (po_none.run pins s2 σ H2 (fun o H3 => o = none ∧ H3 = H2) I2 ⟨rfl, rfl⟩) fun vu s3 ⟨u, H3, I3, pu, eu, e3⟩ => ?_
  subst eu e3
  refine thn (hst.run pins s3 σ H3 (fun o H4 => o = some 2 ∧ H4 = H3) I3 ⟨_, rfl, rfl, rfl⟩) fun vs s4 ⟨o, H4, I4, ps, eo, e4⟩ => ?_
  subst eo e4
  have I5 : Inv X pins σ H4 { s4 with heap := s4.heap.push { cls := .type "slice", data := .fields #[vl, vu, vs] } } := I4.kept (t' := s4.toks) fun b ob q => Heap.get?_push_of_some _ q
  obtain ⟨its, r, ht, hz⟩ := I5.tuple hx
  have hl : its.toArray.size = xs.length := by rw [List.size_toArray]; exact r.length.symm
  obtain ⟨hp1, hp2⟩ := half_places (n := xs.length) ha
  have hrel : Vals (halfL a xs) (HT.stepped its ((min a xs.length : Nat) : Int) 2 ((xs.length - a + 1) / 2)) := by
    unfold halfL HT.stepped
    refine vals_filterMap fun k hk => ?_
    have hk' := List.mem_range.mp hk
    have hi : a + 2 * k < xs.length := by omega
    have en : (((min a xs.length : Nat) : Int) + (k : Int) * 2).toNat = a + 2 * k := by omega
    rw [en, List.getElem?_eq_getElem hi]
    obtain ⟨u, hu, ru⟩ := r.get (List.getElem?_eq_getElem hi)
    rw [List.getElem?_toArray, hu]
    exact ru
  have hsz : (halfL a xs).length ≤ sizeLine := sz_of (by
    unfold halfL
    refine Nat.le_trans (List.length_filterMap_le _ _) ?_
    rw [List.length_range]
    omega)
  show wpAny (model X.prog X.w) X.A (subscriptTail e (.Slice (some (.Constant (.int (a : Int)) k1 p1)) none (some (.Constant (.int 2) k2 p2)) p3) (.ref t) (.ref s4.heap.objs.size)) (EP X pins σ Q) X.xe { s4 with heap := s4.heap.push { cls := .type "slice", data := .fields #[vl, vu, vs] } }
  refine tail_any (ops := [.ref t, .ref s4.heap.objs.size]) ht.typeIs PyProof.Rows.slot_tuple_getitem.lookup ?_ (by with_unfolding_all rfl)
  refine HT.g_getStep ht (Heap.IsSliceOf.new _ vl vu vs) pl pu ps (by decide) (by decide) ?_ ?_
  · rw [hl, hp2, hp1, ← hrel.length]; exact hsz
  · rw [hl, hp2, hp1]
    refine ⟨.ref _, _, I5.laid (t' := s4.toks) (o := .tup (halfL a xs)) (fun b ob q => Heap.get?_push_of_some _ q) (Nat.le_refl _) ?_, rfl, q _ (I5.hok.fresh (Nat.le_refl _))⟩
    exact ⟨hsz, _, hrel, ⟨_, Heap.get?_push_size _ rfl, rfl, _, rfl⟩⟩
end
end G
namespace SUP
open PySem PySem.Spec PyProof.Rows L2 PySem.W
/-! ## an own error whose `__init__` begins with super().__init__(e, ..), over own classes over ValueError -/
/-- what the written part says of the class at C and of its `__init__` -/
structure SupT (K : PySem.W.Frag) (mg : Str → Option Value) (C f : Addr) (fd : FuncData) (qual : Str) (params : Arguments) (body : List Stmt) (scope : Scope) (file : Str) : Prop where
  oex : OexC K C
  ini : PySem.W.findIn K (.ref C) "__init__" = some (some (.ref f))
  tI : PySem.W.typeIn K (.ref f) = some (.type "function")
  msup : mg "super" = none
  any : PySem.W.nsIn K cStatics "thirdparty.any" = some none
  vE : PySem.W.subIn K (.ref C) (.type "ValueError") = some true
  sub : PySem.W.mroIn K C (.ref C) = some true
  sup : PySem.W.ks_superIn K C C "__init__" = some (some (.builtin "ValueError.__init__"))
  ex : ∃ (oc : Value) (od : Option Addr) (dV kV doc pm : Value) (an : Option Addr) (cda cc : Addr) (ct : Value) (osl : Array (Option Value)),
    fd = PySem.W.fnX "__init__" qual params body scope [("__class__", cc)] dV kV doc pm an (.ref cda) ct ∧ K.lookup f = some ⟨oc, od, .func fd, osl⟩ ∧ PySem.W.codeIn K (.ref cda) qual = true ∧
    (∃ (oc2 : Value) (od2 : Option Addr) (vs : Array Value) (sl2 : Array (Option Value)) (tf : Tok), K.lookup cda = some ⟨oc2, od2, .fields vs, sl2⟩ ∧ vs[2]? = some (.str file tf)) ∧
    ∃ (oc3 : Value) (od3 : Option Addr) (sl3 : Array (Option Value)), K.lookup cc = some ⟨oc3, od3, .cell (some (.ref C)), sl3⟩

section
variable {X : Cx} {pins : List (Addr × Obj)} {σ : L2.St} {H : Hp} {a C : Addr}
theorem inst_of {s : Shared} (I : Inv X pins σ H s) (ea : H a = some (exo a C none)) : ∃ t1 : Addr, PySem.W.InstAt s.heap a { cls := .ref C, dict := none, data := .fields #[.ref t1, .none, .none, .none, .bool false, .none] } C none := by
  obtain ⟨t1, ho⟩ := exo_at I.hok ea
  exact ⟨t1, ho, rfl, rfl, trivial⟩
/-- the bound `__init__` of ValueError, called -/
theorem call_mw {u : Addr} {A : Around} {E : Value → Shared → Prop} {us : List Value} {Q : Value → Shared → Prop} {s : Shared} (T : OexC X.K C) (I : Inv X pins σ H s) (hu : s.heap.get? u = some (PySem.W.kxs_mw "ValueError.__init__" a)) (ea : H a = some (exo a C none))
    (hl : us.length ≤ sizeLine) (h : ∀ s', Inv X pins σ H s' → Q .none s') : wpAny (model X.prog X.w) A (call (.ref u) us) Q E s := by
  obtain ⟨nm, q, N, bs, bm, sn, sub, ab, col, dd, k0, k1, k2, k3, k5, hC, hbm⟩ := T.cls
  obtain ⟨t1, ho⟩ := exo_at I.hok ea
  obtain ⟨hp, g, d, t, os⟩ := s
  refine wpAny_call (codeAny_of_tree ?_)
  show wpAny _ A.in1 (callAny (.ref u) ⟨us, []⟩) _ _ _
  simp only [callAny]
  refine wpAny_bind (wpAny_load hu ?_)
  simp only [PySem.W.kxs_mw, show (Value.type "method-wrapper" == Value.type "method" || Value.type "method-wrapper" == Value.type "builtin_function_or_method" || Value.type "method-wrapper" == Value.type "method-wrapper") = true by decide, if_true]
  refine PySem.W.KFB.if_so (by decide) ?_
  refine wpAny_bind (PySem.W.check_bound_init F.excBase_ValueError.toExcCallFacts (I.kIn _ _ hC) ho rfl ?_)
  refine wpAny_bind (wpAny_pure (wpAny_pure ?_))
  refine ⟨plainId_quiet F.excBase_ValueError.init.plain _, codeAny_builtin F.excBase_ValueError.initEntry ?_⟩
  refine PySem.W.exc_init_tree (cls := .ref C) (t0 := t1) (dv := none) (c2 := .none) (c3 := .none) (b4 := .bool false) ho hl fun h' k hx _ => ?_
  have J := I.write (t' := t) (x := a) (e := a) (o := exo a C none) (by rw [ea]; exact True.intro) (.inl rfl) k ⟨_, hx⟩ (exo_ok hx)
  have eu : upd H a (exo a C none) = H := by
    funext b
    by_cases hb : b = a
    · rw [hb, upd_same, ea]
    · rw [upd_ne hb]
  rw [eu] at J
  exact h _ J
end

section
variable {CX : CXT} {P : Program} {w : World} {K : PySem.W.Frag} {mg : Str → Option Value} {base : Heap} {N ps : List Str} {k : Nat} {C f : Addr} {fd : FuncData} {qual : Str} {params : Arguments} {body rest : List Stmt} {scope : Scope} {file : Str} {e : Expr} {es : List Expr} {p0 p1 p2 p3 p4 : Pos} {ar : Arg} {sp : Sp}
/-- the nested form of it -/
abbrev nf (qual : Str) (params : Arguments) (body : List Stmt) (scope : Scope) (cc cda : Addr) : NdefX.NF := ⟨"__init__", qual, params, body, scope, [("__class__", cc)], cda⟩
/-- THE RULE: such an `__init__` by what follows -/
theorem fn_sup (T : SupT K mg C f fd qual params body scope file) (hfile : ((P.main.file : Str) == file) = true) (htop : (P.main.scope.names.lookup ("super" : Str)).isSome = false)
    (hb : body = .Expr (.Call (.Attribute (.Call (.Name "super" p0) [] [] p1) "__init__" p2) (e :: es) [] p3) p4 :: rest)
    (S : NdefX.NScope N ps ["__class__"] scope) (hp : (params.posonlyargs ++ params.args).head? = some ar) (h0 : N[0]? = some ar.arg) (hks : scope.names.lookup ("super" : Str) = some .globalImplicit) (hka : scope.names.lookup ar.arg = some .local)
    (len : ∀ vs H Q E, sp vs H Q E → vs.length = ps.length)
    (hbody : ∀ (cda cc : Addr) (A : Around) (outer : List Env) (s : Shared) (H : Hp) (vs : List V) (Q : VK) (E : XK), Room k (A.deeper (NdefX.envF (nf qual params body scope cc cda) f s.heap.objs.size)) → sp vs H Q E →
      ∃ ta t, PA (NdefX.ncx CX P w K mg base N (nf qual params body scope cc cda) f A outer s H E) (e :: es) ta ∧ PSs (NdefX.ncx CX P w K mg base N (nf qual params body scope cc cda) f A outer s H E) rest t ∧
        ∃ a, vs[0]? = some (.ref a) ∧ H a = some (exo a C none) ∧ ta (NdefX.startF N vs [none]) H fun ws H1 => ws.length ≤ 1000 ∧ H1 a = some (exo a C none) ∧ t { nx := fun _ H' => Q .non H', rt := Q } (NdefX.startF N vs [none]) H1)
    (pl : Env → Sem Bool) (hev : ∀ env, eval (.Call (.Attribute (.Call (.Name "super" p0) [] [] p1) "__init__" p2) (e :: es) [] p3) env = (do
        let ov ← attributeBase (.Call (.Name "super" p0) [] [] p1) "__init__" env (eval (.Call (.Name "super" p0) [] [] p1) env)
        standAt p2.atName
        let (f, first) ← holding [ov] (getMethod ov "__init__" (pl env))
        callWith p3 f first (backTo p3 (starEach (e :: es) env)) []) := by intro _; rfl)
    (hst : ∀ env, starEach (e :: es) env = (false, eval e env) :: starEach es env := by intro _; rfl) (hpl : ∀ env, (backTo p3 (starEach es env)).any (·.1) = false := by intro _; rfl)
    (hsw : ∀ env, swapsWith (.Call (.Attribute (.Call (.Name "super" p0) [] [] p1) "__init__" p2) (e :: es) [] p3) none p4.line env = pure false := by intro _; rfl)
    (hps : ps.length ≥ 1) : FnOk P w K mg base CX (k + 1) f fd ps sp := by
  refine ⟨len, fun A outer s H args us vs Q E hr e0 hbi r hsp => ?_⟩
  obtain ⟨oc, od, dV, kV, doc, pm, an, cda, cc, ct, osl, hfd, lk, hcd, ⟨oc2, od2, fvs, sl2, tf, lk2, hvs⟩, oc3, od3, sl3, lk3⟩ := T.ex
  have hl := len _ _ _ _ hsp
  have hul : us.length = ps.length := by rw [← r.length, hl]
  have KX : K.In s.heap := e0.mod.kin.keeps fun b o e => (e0.bs b o e).1
  have lim : s.heap.NoLimit := e0.mod.nolimit.keeps fun b o e => (e0.bs b o e).1
  obtain ⟨ta, t, hpa, hpss, a, hva, haH, hq⟩ := hbody cda cc A outer s H vs Q E (hr.deeper _) hsp
  subst hfd
  have hloc : ∀ y ∈ ps.zip us, scope.names.lookup y.1 = some .local := fun ⟨n, v⟩ hy => S.par n (List.of_mem_zip hy).1
  refine ks_codeAny_call_defAt (fd := PySem.W.fnX "__init__" qual params body scope [("__class__", cc)] dV kV doc pm an (.ref cda) ct) hr.depth (KX _ _ lk) rfl lim (PySem.W.codeRec_of KX hcd) rfl hbi S.nocell hloc (fun h1 hns hk => ?_) S.co S.gen S.kind
  have kb : ∀ b o, base.get? b = some o → s.heap.get? b = some o ∧ H b = none := e0.bs
  have cat : NdefX.CellsAt [("__class__", cc)] ["__class__"] [none] s.heap H := {
    len := rfl
    all := fun y c hy => by
      have := PySem.mem_of_lookup hy
      simp only [List.mem_singleton, Prod.mk.injEq] at this
      obtain ⟨rfl, rfl⟩ := this
      exact ⟨(kb _ _ (e0.mod.kin _ _ lk3)).2, some (.ref C), _, KX _ _ lk3, rfl⟩
    inj := fun x y c h1 h2 => by
      have := PySem.mem_of_lookup h1
      have t2 := PySem.mem_of_lookup h2
      simp only [List.mem_singleton, Prod.mk.injEq] at this t2
      exact this.1.trans t2.1.symm
    has := fun i y hy => by
      cases i with
      | zero =>
        have : "__class__" = y := Option.some.inj hy
        subst this
        exact ⟨cc, by simp [List.lookup], fun v hv => by cases hv⟩
      | succ i => simp at hy }
  have I : Inv (NdefX.ncx CX P w K mg base N (nf qual params body scope cc cda) f A outer s H E) [] (NdefX.startF N vs [none]) H { s with heap := h1, toks := s.toks + (ps.zip us).length } :=
    NdefX.inv_startN S hr.hd e0 hl r cat hns hk
  show _root_.PySem.wpAt (model P w) _ (.func body (NdefX.envF (nf qual params body scope cc cda) f s.heap.objs.size)) (execs body (NdefX.envF (nf qual params body scope cc cda) f s.heap.objs.size)) _ _ _
  have hz : interactive (NdefX.envF (nf qual params body scope cc cda) f s.heap.objs.size) = false := by
    simp [interactive, S.kind]
  rw [show execs body (NdefX.envF (nf qual params body scope cc cda) f s.heap.objs.size) = execs (.Expr (.Call (.Attribute (.Call (.Name "super" p0) [] [] p1) "__init__" p2) (e :: es) [] p3) p4 :: rest) (NdefX.envF (nf qual params body scope cc cda) f s.heap.objs.size) from by rw [← hb]]
  refine ks_wpAt_execs_cons (ks_wpAt_Expr_any (ks_wpAt_MethodCall (pl := pl _) ?_ (hev _)) hz (hsw _))
  -- super()
  have KI : K.In ({ s with heap := h1, toks := s.toks + (ps.zip us).length } : Shared).heap := I.kIn
  obtain ⟨nm, q, Nn, bs, bm, sn, sub, ab, col, dd, k0, k1, k2, k3, k5, hC, hbm⟩ := T.oex.cls
  obtain ⟨t1, In⟩ := inst_of I haH
  obtain ⟨mb, bl1, bl2⟩ := e0.mod.blt
  refine ks_wpAt_super_base hks (S.frk _ List.mem_cons_self) (by decide) rfl (KI _ _ lk) rfl hp rfl (KI _ _ lk2) rfl hvs hfile htop ?_
  refine ks_loadName_global S.kind hks (Calls.loadGlobal_builtin (e0.mod.glob.keeps I.bk) T.msup (bl1.keeps I.bk) ((bl2 _ (by decide)).trans PyProof.Rows.Boot.«super») ⟨rfl, ?_⟩)
  refine wpAny_loadName_free S.kind (S.frk _ List.mem_cons_self) (by simp [List.lookup]) ⟨_, KI _ _ lk3, rfl⟩ ?_
  obtain ⟨m, hm, hmv⟩ := I.loc
  have hs0 : (NdefX.startF N vs [none])[0]? = some (some (.ref a)) := by
    unfold NdefX.startF
    rw [List.getElem?_append_left (by rw [List.length_map]; omega), List.getElem?_map, hva]; rfl
  obtain ⟨u, ru, lu⟩ := hmv 0 ar.arg (.ref a) h0 hs0 (.inl hka)
  obtain rfl : u = Value.ref a := ru
  have hma : m ar.arg = some (.ref a) := by
    rcases lu with ⟨_, h⟩ | ⟨h, _⟩
    · exact h
    · rcases h with h | h
      · have h' : scope.names.lookup ar.arg = some .cell := h
        rw [hka] at h'; cases h'
      · have h' : scope.names.lookup ar.arg = some .free := h
        rw [hka] at h'; cases h'
  refine wpAny_loadName_local S.kind hka hm hma ?_
  refine ks_wpAny_isType_cls (KI _ _ hC) rfl ⟨rfl, ?_⟩
  refine ks_wpAny_call_super (KI _ _ hC) rfl In.at_ rfl (fun c z => by cases z) (PySem.W.looks_mroIn KI T.sub) (fun h2 e2 kk2 => ?_)
  have I2 := I.kept (t' := s.toks + (ps.zip us).length) kk2
  -- the bound __init__
  have hcl : PySem.W.clsIn K C = some { name := nm, bases := bs, mro := .ref C :: bm, ns := Nn, qualname := q, hasDict := true, slotNames := sn, subclasses := sub, abstract := ab, collection := col, hasDel := false } := by unfold PySem.W.clsIn; rw [hC] <;> rfl
  have hal : PySem.W.alongIn K "__init__" (((Value.ref C :: bm).dropWhile (· != .ref C)).drop 1) = some (some (.builtin "ValueError.__init__")) := by
    have := T.sup
    unfold PySem.W.ks_superIn at this
    rw [hcl] at this
    exact this
  obtain ⟨t2, In2⟩ := inst_of I2 haH
  refine PySem.W.kxs_getMethod PySem.W.kxs_ValueError e2 (PySem.W.looks_opaque I2.kIn T.any) (l₀ := .ref C :: bm) (fun A Q E s k q => wpAny_bind ((PySem.W.looks_clsIn I2.kIn hcl) A _ E s k (wpAny_pure q))) rfl I2.kIn hal (In2.type.andThen (PySem.W.looks_subIn I2.kIn T.vE)) (PySem.W.ks_ne I2.kIn In2 hcl) (by decide) ?_
  show wpAny _ _ (callWith p3 (.ref h2.objs.size) [] (backTo p3 (starEach (e :: es) (NdefX.envF (nf qual params body scope cc cda) f s.heap.objs.size))) []) _ _ _
  rw [hst]
  refine PySem.W.kxs_callWith (i := "ValueError.__init__") (x := a) (by show (false || (backTo p3 (starEach es _)).any (·.1)) = false; rw [hpl]; rfl) ?_
  refine Calls.evalArgs_plain ?_
  have I4 := ClX.pin_new (a := h2.objs.size) (o := PySem.W.kxs_mw "ValueError.__init__" a) (t' := s.toks + (ps.zip us).length + 1) (h' := h2.push (PySem.W.kxs_mw "ValueError.__init__" a)) I2 (fun b o z => Heap.get?_push_of_some _ z) (Nat.le_refl _) (Heap.get?_push_size _ rfl) (fun v z => by cases z)
  have hst' := hst (NdefX.envF (nf qual params body scope cc cda) f s.heap.objs.size)
  have hrun := hpa.run p3 _ _ _ _ _ I4 hq
  refine wpAny_mono (hst' ▸ hrun) (fun xs s5 hh => ?_) (fun _ _ x => x)
  obtain ⟨ws, H5, I5, r5, hwl, ea5, qt⟩ := hh
  have hu5 := ClX.pin_at I5
  refine ⟨hu5, ?_⟩
  refine call_mw (X := NdefX.ncx CX P w K mg base N (nf qual params body scope cc cda) f A outer s H E) T.oex I5 hu5 ea5 (by show xs.length ≤ _; rw [← Paired.length r5, sizeLine_eq]; omega) fun s6 J => ?_
  refine wpAt_of_wpAny ?_
  refine wpAny_mono (hpss.run _ s6 _ _ _ J qt) (fun fl s' hs => ?_) fun e s' hs => hs
  have fin : ∀ {σ' : L2.St} {H' : Hp} {v : V} {u : Value} {pins}, Inv (NdefX.ncx CX P w K mg base N (nf qual params body scope cc cda) f A outer s H E) pins σ' H' s' → L2.RelV v u → Q v H' → CE outer P w H s Q u s' :=
    fun {σ' H' v u pins} J rv q => ⟨v, H', J.os, J.bare, J.base, J.hok, rv, q⟩
  cases fl with
  | ret u =>
    obtain ⟨v, σ', H', J, rv, q⟩ := hs
    exact fin J rv q
  | next =>
    obtain ⟨σ', H', J, q⟩ := hs
    exact fin (v := V.non) (u := Value.none) J rfl q
  | brk =>
    obtain ⟨_, _, _, q⟩ := hs
    exact False.elim q
  | cont =>
    obtain ⟨_, _, _, q⟩ := hs
    exact False.elim q
end
end SUP
namespace G
open PySem PySem.Spec PyProof.Rows L2 Evl
theorem tYes_in {σ : L2.St} {H : Hp} {A B : Hp → Prop} (h : A H) : tYes σ H (fun b H3 => if b = true then A H3 else B H3) := by
  show if true = true then A H else B H
  exact iteT h
def tabV (bs : List Bool) : HO := .tup (bs.map V.bl)
theorem inV_ints {k : Int} {l : List Int} : inV (.int k) (l.map V.int) = l.contains k := by
  unfold inV
  rw [List.any_map, List.contains_eq_any_beq]
  congr 1
  funext y
  show (y == k) = (k == y)
  rw [Bool.eq_iff_iff]; simp; exact eq_comm
theorem inV_bls {k : Bool} {l : List Bool} : inV (.bl k) (l.map V.bl) = l.contains k := by
  unfold inV
  rw [List.any_map, List.contains_eq_any_beq]
  congr 1
  funext y
  show (y == k) = (k == y)
  cases y <;> cases k <;> rfl
theorem flat_map {α : Type} {f : α → V} (h : ∀ x, flatV (f x) = true) (l : List α) : (l.map f).all flatV = true := by
  rw [List.all_map]
  exact List.all_eq_true.mpr fun x _ => h x
theorem tif_by {tt : TE} {σ : L2.St} {H : Hp} {Q : VK} (R : V → Hp → Prop) (h : ∀ Q' : VK, (∀ v H', R v H' → Q' v H') → tt σ H Q') (rest : ∀ v H', R v H' → Q v H') : tt σ H Q := h Q rest
theorem bl_eq (a b : Bool) : decide (V.bl a = V.bl b) = decide (a = b) := by cases a <;> cases b <;> rfl
end G
namespace G
open PySem PySem.Spec PyProof.Rows L2 Evl
/-! ## two lists side by side -/
def All2 {α β : Type} (R : α → β → Prop) (as : List α) (bs : List β) : Prop := as.length = bs.length ∧ ∀ (i : Nat) (a : α) (b : β), as[i]? = some a → bs[i]? = some b → R a b
theorem All2.nil {α β : Type} {R : α → β → Prop} : All2 R [] [] := ⟨rfl, fun _ _ _ h => nomatch h⟩
theorem All2.imp {α β : Type} {R S : α → β → Prop} {as : List α} {bs : List β} (h : All2 R as bs) (f : ∀ a b, R a b → S a b) : All2 S as bs := ⟨h.1, fun i a b h1 h2 => f _ _ (h.2 i a b h1 h2)⟩
theorem All2.snoc {α β : Type} {R : α → β → Prop} {as : List α} {bs : List β} {a : α} {b : β} (h : All2 R as bs) (r : R a b) : All2 R (as ++ [a]) (bs ++ [b]) := by
  refine ⟨by rw [List.length_append, List.length_append, h.1]; rfl, fun i x y h1 h2 => ?_⟩
  by_cases hi : i < as.length
  · rw [List.getElem?_append_left hi] at h1
    rw [List.getElem?_append_left (h.1 ▸ hi)] at h2
    exact h.2 i x y h1 h2
  · rw [List.getElem?_append_right (by omega)] at h1
    rw [List.getElem?_append_right (by rw [← h.1]; omega), ← h.1] at h2
    cases e : i - as.length with
    | zero =>
      rw [e] at h1 h2
      cases h1; cases h2; exact r
    | succ n => rw [e] at h1; exact nomatch h1
theorem All2.at_ {α β : Type} {R : α → β → Prop} {as : List α} {bs : List β} (h : All2 R as bs) {i : Nat} {a : α} (e : as[i]? = some a) : ∃ b, bs[i]? = some b ∧ R a b := by
  have hi : i < bs.length := by rw [← h.1]; exact (List.getElem?_eq_some_iff.mp e).1
  exact ⟨bs[i], List.getElem?_eq_getElem hi, h.2 i a _ e (List.getElem?_eq_getElem hi)⟩
theorem All2.of {α β : Type} {R : α → β → Prop} {as : List α} {bs : List β} (h : All2 R as bs) {i : Nat} {b : β} (e : bs[i]? = some b) : ∃ a, as[i]? = some a ∧ R a b := by
  have hi : i < as.length := by rw [h.1]; exact (List.getElem?_eq_some_iff.mp e).1
  exact ⟨as[i], List.getElem?_eq_getElem hi, h.2 i _ b (List.getElem?_eq_getElem hi) e⟩
theorem All2.cons {α β : Type} {R : α → β → Prop} {as : List α} {bs : List β} {a : α} {b : β} (r : R a b) (h : All2 R as bs) : All2 R (a :: as) (b :: bs) := by
  refine ⟨by rw [List.length_cons, List.length_cons, h.1], fun i x y h1 h2 => ?_⟩
  cases i with
  | zero => cases h1; cases h2; exact r
  | succ i => exact h.2 i x y h1 h2
theorem take_snoc1 {α : Type} {l : List α} {j : Nat} {x : α} (h : l[j]? = some x) : l.take (j + 1) = l.take j ++ [x] := by rw [List.take_add_one, h]; rfl
theorem refs_get {as : List Addr} {k : Nat} {x : V} (hx : (as.map V.ref)[k]? = some x) : ∃ a, as[k]? = some a ∧ x = .ref a := by
  rw [List.getElem?_map] at hx
  cases e : as[k]? with
  | none => rw [e] at hx; cases hx
  | some a => rw [e] at hx; cases hx; exact ⟨a, rfl, rfl⟩
/-! ## walks: any body -/
theorem wk_list {K : PySem.W.Frag} {a : Addr} {xs : List V} {body : (Hp → Prop) → V → Hp → Prop} {H0 : Hp} {Qd : Hp → Prop} (Pv : Nat → Hp → Prop) (h0 : Pv 0 H0) (hl : ∀ i H, i ≤ xs.length → Pv i H → SqL K H a xs)
    (hs : ∀ i x H, xs[i]? = some x → Pv i H → body (Pv (i + 1)) x H) (hd : ∀ H, Pv xs.length H → Qd H) :
    ∃ W : Nat → Nat → Hp → Prop, (∃ m, W 0 m H0) ∧ ∀ i m H, W i m H → ((Itl K a).stop i H ∧ Qd H) ∨ ((Itl K a).go i H ∧ ∃ Nx : Hp → Prop, (∀ H', Nx H' → ∃ m', m' < m ∧ W (i + 1) m' H') ∧ ∀ x H', (Itl K a).yld i H x H' → body Nx x H') := by
  refine ⟨fun i m H => m = xs.length - i ∧ i ≤ xs.length ∧ Pv i H, ⟨xs.length, by simp, Nat.zero_le _, h0⟩, ?_⟩
  rintro i m H ⟨rfl, hi, p⟩
  have q := hl i H hi p
  rcases Nat.lt_or_ge i xs.length with lt | ge
  · have e : xs[i]? = some xs[i] := List.getElem?_eq_getElem lt
    refine .inr ⟨⟨xs, xs[i], q, e⟩, Pv (i + 1), fun H' p' => ⟨xs.length - (i + 1), by omega, rfl, lt, p'⟩, fun x H' y => ?_⟩
    obtain ⟨rfl, y⟩ := y
    exact hs i x _ (y xs q) p
  · have e : i = xs.length := by omega
    subst e
    exact .inl ⟨⟨xs, q, Nat.le_refl _⟩, hd H p⟩
theorem wk_tup {K : PySem.W.Frag} {a : Addr} {xs : List V} {body : (Hp → Prop) → V → Hp → Prop} {H0 : Hp} {Qd : Hp → Prop} (Pv : Nat → Hp → Prop) (h0 : Pv 0 H0) (hl : ∀ i H, i ≤ xs.length → Pv i H → SqT K H a xs)
    (hs : ∀ i x H, xs[i]? = some x → Pv i H → body (Pv (i + 1)) x H) (hd : ∀ H, Pv xs.length H → Qd H) :
    ∃ W : Nat → Nat → Hp → Prop, (∃ m, W 0 m H0) ∧ ∀ i m H, W i m H → ((Itt K a).stop i H ∧ Qd H) ∨ ((Itt K a).go i H ∧ ∃ Nx : Hp → Prop, (∀ H', Nx H' → ∃ m', m' < m ∧ W (i + 1) m' H') ∧ ∀ x H', (Itt K a).yld i H x H' → body Nx x H') := by
  refine ⟨fun i m H => m = xs.length - i ∧ i ≤ xs.length ∧ Pv i H, ⟨xs.length, by simp, Nat.zero_le _, h0⟩, ?_⟩
  rintro i m H ⟨rfl, hi, p⟩
  have q := hl i H hi p
  rcases Nat.lt_or_ge i xs.length with lt | ge
  · have e : xs[i]? = some xs[i] := List.getElem?_eq_getElem lt
    refine .inr ⟨⟨xs, xs[i], q, e⟩, Pv (i + 1), fun H' p' => ⟨xs.length - (i + 1), by omega, rfl, lt, p'⟩, fun x H' y => ?_⟩
    obtain ⟨rfl, y⟩ := y
    exact hs i x _ (y xs q) p
  · have e : i = xs.length := by omega
    subst e
    exact .inl ⟨⟨xs, q, Nat.le_refl _⟩, hd H p⟩
theorem wk_it {J : It} {n : Nat} {Gd : Hp → Prop} {Y : Nat → Hp → V → Hp → Prop} (w : Walk J n Gd Y) {body : (Hp → Prop) → V → Hp → Prop} {H0 : Hp} {Qd : Hp → Prop} (Pv : Nat → Hp → Prop) (h0 : Pv 0 H0) (hG : ∀ i H, i ≤ n → Pv i H → Gd H)
    (hs : ∀ i x H H', i < n → Pv i H → Y i H x H' → body (Pv (i + 1)) x H') (hd : ∀ H, Pv n H → Qd H) :
    ∃ W : Nat → Nat → Hp → Prop, (∃ m, W 0 m H0) ∧ ∀ i m H, W i m H → (J.stop i H ∧ Qd H) ∨ (J.go i H ∧ ∃ Nx : Hp → Prop, (∀ H', Nx H' → ∃ m', m' < m ∧ W (i + 1) m' H') ∧ ∀ x H', J.yld i H x H' → body Nx x H') := by
  refine ⟨fun i m H => m = n - i ∧ i ≤ n ∧ Pv i H, ⟨n, by simp, Nat.zero_le _, h0⟩, ?_⟩
  rintro i m H ⟨rfl, hi, p⟩
  rcases Nat.lt_or_ge i n with lt | ge
  · exact .inr ⟨w.goes i H lt (hG i H hi p), Pv (i + 1), fun H' p' => ⟨n - (i + 1), by omega, rfl, lt, p'⟩, fun x H' y => hs i x H H' lt p (w.yields i H x H' lt (hG i H hi p) y)⟩
  · have e : i = n := by omega
    subst e
    exact .inl ⟨w.stops H (hG i H hi p), hd H p⟩
/-! ## tuples joined and cut, whatever object that is -/
theorem cat_tup {K : PySem.W.Frag} {H : Hp} {a b : Addr} {xs ys : List V} {Q : VK} (ha : H a = some (.tup xs)) (hb : H b = some (.tup ys)) (hl : xs.length + ys.length ≤ sizeLine) (q : ∀ c H', Ex H H' → H' c = some (.tup (xs ++ ys)) → Q (.ref c) H') : rCatA K (.ref a) (.ref b) H Q := by
  refine ⟨a, b, xs, ys, rfl, rfl, SqT.of ha, SqT.of hb, hl, fun e => ?_, fun _ e => ?_, fun _ _ p np => ?_⟩
  · subst e; exact q b H (Ex.refl _) hb
  · subst e; exact q a H (Ex.refl _) (by rw [List.append_nil]; exact ha)
  · exact q p _ (Ex.new np) upd_same
theorem cut_tup {K : PySem.W.Frag} {H : Hp} {a : Addr} {xs : List V} {lo hi : Option Int} {Q : VK} (ha : H a = some (.tup xs)) (q : ∀ c H', Ex H H' → H' c = some (.tup (cutV xs lo hi)) → Q (.ref c) H') : rSlA K (.ref a) lo hi H Q := by
  refine ⟨a, xs, rfl, SqT.of ha, fun e => ?_, fun _ p np => q p _ (Ex.new np) upd_same⟩
  refine q a H (Ex.refl _) ?_
  rw [ha]
  unfold cutV
  rw [e.1, e.2, List.drop_zero, Nat.sub_zero, List.take_length]
theorem cutV_head {xs : List V} {k : Nat} (h : k ≤ xs.length) : cutV xs none (some (k : Int)) = xs.take k := by
  unfold cutV
  rw [HT.sIx_none, HT.sIx_nat, List.drop_zero, Nat.sub_zero, Nat.min_eq_left h]
theorem cutV_tail {xs : List V} {k : Nat} (h : k ≤ xs.length) : cutV xs (some (k : Int)) none = xs.drop k := by
  unfold cutV
  rw [HT.sIx_none, HT.sIx_nat, Nat.min_eq_left h, List.take_of_length_le]
  rw [List.length_drop]; exact Nat.le_refl _
end G
/-! ## texts -/
namespace G
open PySem PySem.Spec PyProof.Rows L2 Evl TL
open PySem.StrLaws (At occBody occ_eq occ_first)
open PySem.Builtin.Str (occurrences)
/-- the text of these signs -/
def mk (l : List Nat) : Str := ⟨l.toArray⟩
theorem tl_mkS (l : List Nat) : tl (mk l) = l := rfl
theorem mk_tlS (x : Str) : mk (tl x) = x := mk_tl x
theorem mk_inj {a b : List Nat} : mk a = mk b ↔ a = b := ⟨fun h => by have := congrArg tl h; exact this, fun h => by rw [h]⟩
theorem mk_app (a b : List Nat) : mk a ++ mk b = mk (a ++ b) := ext_tl (by rw [tl_append, tl_mkS, tl_mkS, tl_mkS])
theorem mk_len (a : List Nat) : (mk a).length = a.length := by rw [len_tl, tl_mkS]
theorem mk_one (c : Nat) : (⟨#[c]⟩ : Str) = mk [c] := rfl
theorem decV_str (a b : Str) : decide (V.str a = V.str b) = decide (a = b) := by
  by_cases h : a = b
  · rw [h, decide_eq_true rfl, decide_eq_true rfl]
  · rw [decide_eq_false h, decide_eq_false fun q => h (V.str.inj q)]
theorem decV_mk (a b : List Nat) : decide (V.str (mk a) = V.str (mk b)) = decide (a = b) := by
  rw [decV_str]
  by_cases h : a = b
  · rw [h, decide_eq_true rfl, decide_eq_true rfl]
  · rw [decide_eq_false h, decide_eq_false fun q => h (mk_inj.mp q)]
theorem occ_from (x y : Str) (lo : Nat) : (occurrences x y lo x.length 1 = [] ∧ ∀ k, lo ≤ k → ¬ At x y x.length k) ∨ ∃ k r, occurrences x y lo x.length 1 = k :: r ∧ lo ≤ k ∧ At x y x.length k ∧ ∀ j, lo ≤ j → j < k → ¬ At x y x.length j := by
  rw [occ_eq]
  have hmem : ∀ k, At x y x.length k → lo ≤ k → k ∈ List.range' lo (x.length + 1 - lo) := fun k hk hl => by
    have := hk.1
    simp [List.mem_range'_1]; omega
  rcases occ_first x y x.length 1 (by decide) (List.range' lo (x.length + 1 - lo)) lo (fun i hi => by simp [List.mem_range'_1] at hi; omega) with ⟨h0, hn⟩ | ⟨pr, a, post, e, h0, ha, hn⟩
  · exact .inl ⟨by rw [h0], fun k hl hk => hn k (hmem k hk hl) hk⟩
  · have hal : lo ≤ a := by
      have : a ∈ List.range' lo (x.length + 1 - lo) := by rw [e]; simp
      simp [List.mem_range'_1] at this; omega
    refine .inr ⟨a, ((forIn (List.range' lo (x.length + 1 - lo)) ((#[] : Array Nat), lo) (occBody x y x.length 1)).run.fst.toList).tail, ?_, hal, ha, fun j hl hj hA => ?_⟩
    · generalize (forIn (List.range' lo (x.length + 1 - lo)) ((#[] : Array Nat), lo) (occBody x y x.length 1)).run.fst = arr at h0
      have h1 : arr.toList[0]? = some a := by simpa using h0
      cases hL : arr.toList with
      | nil => rw [hL] at h1; cases h1
      | cons b t => rw [hL] at h1; simp at h1; rw [h1]; rfl
    · have hm := hmem j hA hl
      rw [e] at hm
      have hs : (pr ++ a :: post).Pairwise (· < ·) := by rw [← e]; exact List.pairwise_lt_range'
      rcases List.mem_append.mp hm with z | z
      · exact hn j z hA
      · rcases List.mem_cons.mp z with z | z
        · omega
        · have := (List.pairwise_cons.mp (List.pairwise_append.mp hs).2.1).1 j z
          omega
theorem at_one {x : Str} {c k : Nat} : At x (mk [c]) x.length k ↔ (tl x)[k]? = some c := by
  rw [at_iff (by rw [tl_mkS]; simp), tl_mkS]
  unfold pre
  show (((tl x).drop k).take 1 == [c]) = true ↔ _
  rw [beq_iff_eq]
  have h0 : (tl x)[k]? = ((tl x).drop k)[0]? := by rw [List.getElem?_drop, Nat.add_zero]
  rw [h0]
  cases (tl x).drop k with
  | nil => simp
  | cons d r => simp
theorem find_hit {x : Str} {c i : Nat} {body rest : List Nat} (h : (tl x).drop i = body ++ c :: rest) (hb : c ∉ body) : Txt.find3 x (mk [c]) (i : Int) = ((i + body.length : Nat) : Int) := by
  unfold Txt.find3
  rw [show PySem.fromIndex x.length (i : Int) = i by unfold PySem.fromIndex; rw [if_neg (by omega)]; omega]
  have hat : ∀ j, (tl x)[i + j]? = (body ++ c :: rest)[j]? := fun j => by rw [← h, List.getElem?_drop]
  have hhit : At x (mk [c]) x.length (i + body.length) := at_one.mpr (by rw [hat, List.getElem?_append_right (Nat.le_refl _), Nat.sub_self]; rfl)
  rcases occ_from x (mk [c]) i with ⟨_, hn⟩ | ⟨k, r, e, hl, hA, hn⟩
  · exact absurd hhit (hn _ (by omega))
  · rw [e]
    show ((k : Nat) : Int) = _
    have h1 : ¬ i + body.length < k := fun q => hn _ (by omega) q hhit
    have h2 : ¬ k < i + body.length := fun q => by
      have := at_one.mp hA
      obtain ⟨j, rfl⟩ : ∃ j, k = i + j := ⟨k - i, by omega⟩
      rw [hat, List.getElem?_append_left (by omega)] at this
      exact hb (List.mem_of_getElem? this)
    omega
theorem find_miss {x : Str} {c i : Nat} (h : c ∉ (tl x).drop i) : Txt.find3 x (mk [c]) (i : Int) = -1 := by
  unfold Txt.find3
  rw [show PySem.fromIndex x.length (i : Int) = i by unfold PySem.fromIndex; rw [if_neg (by omega)]; omega]
  rcases occ_from x (mk [c]) i with ⟨e, _⟩ | ⟨k, r, e, hl, hA, hn⟩
  · rw [e]
  · have := at_one.mp hA
    obtain ⟨j, rfl⟩ : ∃ j, k = i + j := ⟨k - i, by omega⟩
    rw [← List.getElem?_drop] at this
    exact absurd (List.mem_of_getElem? this) h
theorem starts_at {x y : Str} {i : Nat} (hy : tl y ≠ []) : Txt.startswith3 x y (i : Int) = pre (tl y) ((tl x).drop i) := by
  unfold Txt.startswith3
  rw [show PySem.fromIndex x.length (i : Int) = i by unfold PySem.fromIndex; rw [if_neg (by omega)]; omega]
  have h := at_iff (x := x) hy i
  unfold At at h
  rw [Bool.eq_iff_iff, Bool.and_eq_true, decide_eq_true_iff]
  exact h
theorem pre_iff {S L : List Nat} : pre S L = true ↔ ∃ r, L = S ++ r := by
  unfold pre
  rw [beq_iff_eq]
  constructor
  · intro h; exact ⟨L.drop S.length, by conv => lhs; rw [← List.take_append_drop S.length L, h]⟩
  · rintro ⟨r, rfl⟩; exact List.take_left' rfl
/-- the signs of x from i to j -/
theorem cut_nat {x : Str} {i j : Nat} (hi : i ≤ j) (hj : j ≤ x.length) : cutS x (some (i : Int)) (some (j : Int)) = mk (((tl x).drop i).take (j - i)) := by
  unfold cutS
  have e1 : HT.sIx x.length 0 (some (i : Int)) = i := by rw [HT.sIx_nat]; omega
  have e2 : HT.sIx x.length x.length (some (j : Int)) = j := by rw [HT.sIx_nat]; omega
  rw [e1, e2]; rfl
section
variable {tt : TT} {te : TE} {vs : List Nat} {σ : L2.St} {H1 : Hp} {D : Addr} {Qd : Hp → Prop} {j : Nat}
theorem lcSm {z : Str} (g : Nat → V) (hn : z.length ≤ 100000) (hw : ∀ x, wipe ((wipe σ vs).set j (some x)) vs = wipe σ vs)
    (he : ∀ (i c : Nat) (H : Hp), (tl z)[i]? = some c → H = upd H1 D (.lst (((tl z).take i).map g)) → Val te ((wipe σ vs).set j (some (.str (mk [c])))) H (g c)) (q : Qd (upd H1 D (.lst ((tl z).map g)))) :
    ∃ W : Nat → Nat → Hp → Prop, (∃ m, W 0 m (upd H1 D (.lst []))) ∧ ∀ i m H, W i m H →
      ((Its z).stop i H ∧ Qd H) ∨ ((Its z).go i H ∧ ∃ Nx : Hp → Prop, (∀ H', Nx H' → ∃ m', m' < m ∧ W (i + 1) m' H') ∧ ∀ x H', (Its z).yld i H x H' → gName j x (wipe σ vs) H' fun σ2 H2 => wipe σ2 vs = wipe σ vs ∧ tYes σ2 H2 fun b H3 =>
        if b = true then te σ2 H3 fun y H4 => ∃ acc, H4 D = some (.lst acc) ∧ acc.length < sizeLine ∧ Nx (upd H4 D (.lst (acc ++ [y]))) else Nx H3) :=
  lc_it walk_str (fun i H => H = upd H1 D (.lst (((tl z).take i).map g))) (by rw [List.take_zero]; rfl) (fun _ _ _ _ => trivial)
    (fun i x H H' hi e y => by
      obtain ⟨rfl, c, hc, rfl⟩ := y
      have hc' : (tl z)[i]? = some c := by rw [← hc]; simp [tl]
      refine ⟨hw _, ?_⟩
      refine iteT (B := H' = upd H1 D (.lst (((tl z).take (i + 1)).map g))) ?_
      refine he i c H' hc' e _ ?_
      subst e
      refine ⟨_, upd_same, sz_lt ?_, ?_⟩
      · rw [List.length_map, List.length_take]; have := (List.getElem?_eq_some_iff.mp hc').1; rw [len_tl] at hn; omega
      · rw [upd_upd, List.take_add_one, hc', List.map_append]; rfl)
    (fun H e => by
      have en : z.cps.size = (tl z).length := by simp [tl]
      rw [e, en, List.take_length]; exact q)
end
end G
namespace G
open PySem PySem.Spec PyProof.Rows L2
def topS (i : Nat) : Stmt := PySem.Challenge.pw_signoff_k02_bad_tokens_told.main.body.getD i (.Pass ⟨0, 0, 0, 0⟩)
abbrev s_BadToken_init : Stmt := inClass (topS 2) 0
abbrev s_BadSyntax_init : Stmt := inClass (topS 3) 0
abbrev s_tokenize : Stmt := topS 11
abbrev s_is_numeral : Stmt := topS 12
abbrev s_is_word : Stmt := topS 13
abbrev s_token_at : Stmt := topS 14
abbrev s_run_end : Stmt := topS 15
abbrev s_line_end : Stmt := topS 16
abbrev s_law_pool : Stmt := topS 18
abbrev s_law_spread : Stmt := topS 19
abbrev s_law_draw : Stmt := topS 20
abbrev s_law_same : Stmt := topS 21
abbrev s_law_word : Stmt := topS 22
abbrev s_law_numeral : Stmt := topS 23
abbrev s_law_blank : Stmt := topS 24
abbrev s_law_laid : Stmt := topS 25
abbrev s_law_wrong : Stmt := topS 26
abbrev s_law_told : Stmt := topS 27
abbrev s_law : Stmt := topS 28
end G
namespace G
open PySem PySem.Spec PyProof.Rows L2 Evl
structure TxtL (mg : Str → Option Value) : Prop where
  int : mg "int" = none
  len : mg "len" = none
  list : mg "list" = none
  range : mg "range" = none
section
variable {P : Program} {w : World} {K : PySem.W.Frag} {mg : Str → Option Value} {base : Heap}
def spSpread : Sp := fun vs H Q _ => ∃ (c : Int), vs = [.int c] ∧ ∀ v : Int, Q (.int v) H
theorem sc_law_spread : FnScope ["cell", "mixed", "total", "k"] ["cell"] (defScope s_law_spread) := ⟨rfl, rfl, rfl, by decide +kernel, rfl, by decide +kernel, by decide +kernel⟩
theorem ok_law_spread (D : Dfd K mg "_law_spread" s_law_spread ["cell"]) (T : TxtL mg) : Has P w K mg base 1 "_law_spread" ["cell"] spSpread := by
  refine D.has fun f fd F => F.ok sc_law_spread (fun vs H Q E h => ?_) (fun cdv A outer s H vs Q E hr h => ?_)
  · obtain ⟨c, rfl, _⟩ := h
    rfl
  · obtain ⟨c, rfl, q⟩ := h
    refine ⟨_, (pss_cons (ps_set (i := 1) sc_law_spread.nd rfl (.inl rfl) (pe_op op_mod (pe_callTy call_int1 (by rfl) T.int (by decide +kernel) (pa_cons (pv 0) pa_nil)) pe_int))
      (pss_cons (ps_set (i := 2) sc_law_spread.nd rfl (.inl rfl) pe_int)
      (pss_cons (ps_for PassesOwn.never rfl (pi_range1 rfl T.range (pa_cons pe_int pa_nil)) (pg_name (i := 3) sc_law_spread.nd rfl (.inl rfl))
        (pss_cons (ps_set (i := 1) sc_law_spread.nd rfl (.inl rfl) (pe_op op_mod (pe_callTy call_int1 (by rfl) T.int (by decide +kernel) (pa_cons (pe_op op_add (pe_op op_add (pe_op op_mul (pv 1) pe_int) pe_int) (pv 3)) pa_nil)) pe_int))
        (pss_one (ps_set (i := 2) sc_law_spread.nd rfl (.inl rfl) (pe_op op_add (pe_op op_mul (pv 2) pe_int) (pv 1))))))
      (pss_one (ps_ret (pv 2)))))), ?_⟩
    refine ⟨_, rfl, .inl ⟨_, rfl, _, _, rfl, rfl, (by show (0 : Int) < 2147483647; decide), 4, rfl, by decide, by decide, for_range (n := 4) (fun _ σ H' => H' = H ∧ ∃ (x y : Int) (z : Option V), σ = [some (.int c), some (.int x), some (.int y), z]) ⟨rfl, _, _, _, rfl⟩ ?_ ?_⟩⟩
    · rintro i σ H' hi ⟨rfl, x, y, z, rfl⟩
      refine ⟨_, rfl, _, _, rfl, rfl, .inr ⟨by decide, by decide⟩, _, _, rfl, rfl, _, rfl, _, _, rfl, rfl, .inl ⟨_, rfl, _, _, rfl, rfl, (by show (0 : Int) < 2147483647; decide), _, rfl, _, _, rfl, rfl, .inr ⟨by decide, by decide⟩, _, rfl, _, _, rfl, rfl, rfl, _, _, _, rfl⟩⟩
    · rintro σ H' ⟨rfl, x, y, z, rfl⟩
      exact ⟨_, rfl, q y⟩
/-- a draw below n -/
def spDraw : Sp := fun vs H Q _ => ∃ (p a : Addr) (n : Int), vs = [.ref p, .int n] ∧ 0 < n ∧ n.natAbs.log2 < 9000 ∧ PoolOk p a H ∧ ∀ (v : Int) (o : HO), 0 ≤ v → v < n → PoolOk p a (upd H p o) → Q (.int v) (upd H p o)
theorem sc_law_draw : FnScope ["pool", "many", "cell", "mixed", "value"] ["pool", "many"] (defScope s_law_draw) := ⟨rfl, rfl, rfl, by decide +kernel, rfl, by decide +kernel, by decide +kernel⟩
theorem ok_law_draw (D : Dfd K mg "_law_draw" s_law_draw ["pool", "many"]) (T : TxtL mg) (C : Has P w K mg base 1 "_law_spread" ["cell"] spSpread) : Has P w K mg base 2 "_law_draw" ["pool", "many"] spDraw := by
  obtain ⟨f_law_spread, d_law_spread, G_law_spread, g_law_spread, k_law_spread, b_law_spread⟩ := C
  refine D.has fun f fd F => F.ok sc_law_draw (fun vs H Q E h => ?_) (fun cdv A outer s H vs Q E hr h => ?_)
  · obtain ⟨p, a, n, rfl, _⟩ := h
    rfl
  · obtain ⟨p, a, n, rfl, n0, n9, hp, q⟩ := h
    refine ⟨_, (pss_cut (ps_if (PW.pt (pw_and (pt_cmpR op_le (pe_ix ix_list (pv 0) pe_int (fun _ _ => rfl)) pe_int (nomark _)) (pw_and1 (pt_cmpR op_lt (pe_ix ix_list (pv 0) pe_int (fun _ _ => rfl)) (pe_callB call_len_seq (by rfl) T.len (by decide +kernel) (pa_cons (pe_ix ix_list (pv 0) pe_int (fun _ _ => rfl)) pa_nil)) (nomark _)))))
      (pss_cons (ps_set (i := 2) sc_law_draw.nd rfl (.inl rfl) (pe_ix ix_list (pe_ix ix_list (pv 0) pe_int (fun _ _ => rfl)) (pe_ix ix_list (pv 0) pe_int (fun _ _ => rfl)) (fun _ _ => rfl)))
      (pss_cons (ps_asg (pe_op op_add (pe_ix ix_list (pv 0) pe_int (fun _ _ => rfl)) pe_int) (pg_sub (pv 0) pe_int set_list))
      (pss_cons (ps_asg (pv 2) (pg_sub (pv 0) pe_int set_list))
      (pss_one (ps_if (pt_cmpR op_lt (pv 2) pe_int (nomark _))
        (pss_one (ps_asg (pe_call G_law_spread hr (by rfl) g_law_spread k_law_spread b_law_spread .nil pass0 (pa_cons (pv 2) pa_nil)) (pg_sub (pv 0) pe_int set_list)))
        pss_nil)))))
      pss_nil)
    (pss_cons (ps_asg (pe_op op_add (pe_ix ix_list (pv 0) pe_int (fun _ _ => rfl)) pe_int) (pg_sub (pv 0) pe_int set_list))
    (pss_cons (ps_if (pt_cmpR op_le (pe_ix ix_list (pv 0) pe_int (fun _ _ => rfl)) pe_int (nomark _))
      (pss_cons (ps_set (i := 3) sc_law_draw.nd rfl (.inl rfl) (pe_op op_mod (pe_callTy call_int1 (by rfl) T.int (by decide +kernel) (pa_cons (pe_op op_add (pe_op op_add (pe_op op_mul (pe_ix ix_list (pv 0) pe_int (fun _ _ => rfl)) pe_int) (pe_op op_mul (pe_ix ix_list (pv 0) pe_int (fun _ _ => rfl)) pe_int)) pe_int) pa_nil)) pe_int))
      (pss_cons (ps_set (i := 3) sc_law_draw.nd rfl (.inl rfl) (pe_op op_mod (pe_callTy call_int1 (by rfl) T.int (by decide +kernel) (pa_cons (pe_op op_add (pe_op op_mul (pv 3) pe_int) (pe_ix ix_list (pv 0) pe_int (fun _ _ => rfl))) pa_nil)) pe_int))
      (pss_one (ps_ret (pe_op op_mod (pe_op op_fdiv (pv 3) pe_int) (pv 1))))))
      pss_nil)
    (pss_cons (ps_set (i := 4) sc_law_draw.nd rfl (.inl rfl) (pe_op op_mod (pe_callTy call_int1 (by rfl) T.int (by decide +kernel) (pa_cons (pe_ix ix_list (pv 0) pe_int (fun _ _ => rfl)) pa_nil)) (pv 1)))
    (pss_cons (ps_asg (pe_op op_fdivW (pe_ix ix_list (pv 0) pe_int (fun _ _ => rfl)) (pv 1)) (pg_sub (pv 0) pe_int set_list))
    (pss_one (ps_ret (pv 4)))))))), ?_⟩
    obtain ⟨ns, i, c, k, s5, hl, ha, hn⟩ := hp
    have hap : a ≠ p := hid_neq ha
    have haH := hid_get ha
    -- the pool as it stands after writes
    have pk : ∀ (i' : Nat) (c' k' s' : Int), PoolOk p a (upd H p (.lst [.ref a, .int i', .int c', .int k', .int s'])) := fun i' c' k' s' =>
      ⟨ns, i', c', k', s', upd_same, by rw [hid_upd]; exact ha, hn⟩
    refine ⟨fun σ H' => ∃ (i' : Nat) (c' k' s' : Int) (o1 : Option V), σ = [some (.ref p), some (.int n), o1, none, none] ∧ H' p = some (.lst [.ref a, .int i', .int c', .int k', .int s']) ∧ (∀ o, upd H' p o = upd H p o), ?_, ?_⟩
    · refine ⟨_, rfl, _, _, _, _, rfl, rfl, SqL.of hl, atI_nat (j := 2) rfl, _, _, rfl, rfl, _, rfl, ite2 (fun e1 => ?_) (fun e1 => ?_)⟩
      · refine ⟨_, rfl, _, _, _, _, rfl, rfl, SqL.of hl, atI_nat (j := 1) rfl, _, rfl, _, _, _, _, rfl, rfl, SqL.of hl, atI_nat (j := 0) rfl, _, _, rfl, .inl (SqL.of haH), _, _, rfl, rfl, _, rfl, ite2 (fun e2 => ?_) (fun e2 => ?_)⟩
        · have hi : i < (ns.map V.int).length := by have := of_decide_eq_true e2; omega
          have hi' : i < ns.length := by rw [List.length_map] at hi; exact hi
          have gi : (ns.map V.int)[i]? = some (.int ns[i]) := by rw [List.getElem?_map, List.getElem?_eq_getElem hi']; rfl
          refine ⟨_, rfl, _, _, _, _, rfl, rfl, SqL.of hl, atI_nat (j := 0) rfl, _, rfl, _, _, _, _, rfl, rfl, SqL.of hl, atI_nat (j := 1) rfl, _, _, _, _, rfl, rfl, SqL.of haH, atI_nat gi, ?_⟩
          refine ⟨_, rfl, _, _, _, _, rfl, rfl, SqL.of hl, atI_nat (j := 1) rfl, _, _, rfl, rfl, _, rfl, _, _, _, 1, rfl, rfl, hl, rfl, ?_⟩
          refine ⟨_, rfl, _, rfl, _, _, _, 2, rfl, rfl, upd_same, rfl, ?_⟩
          refine ⟨_, rfl, _, _, rfl, rfl, _, rfl, ite2 (fun e3 => ?_) (fun e3 => ?_)⟩
          · refine ⟨_, rfl, _, rfl, fun v => ⟨_, rfl, _, _, _, 2, rfl, rfl, upd_same, rfl, ?_⟩⟩
            exact ⟨i + 1, v, k, s5, _, rfl, upd_same, fun o => by rw [upd_upd, upd_upd, upd_upd]⟩
          · exact ⟨i + 1, ns[i], k, s5, _, rfl, upd_same, fun o => by rw [upd_upd, upd_upd]⟩
        · exact ⟨i, c, k, s5, _, rfl, hl, fun _ => rfl⟩
      · exact iteF ⟨i, c, k, s5, _, rfl, hl, fun _ => rfl⟩
    · rintro σ H' ⟨i, c, k, s5, o1, rfl, hl', hu⟩
      refine ⟨_, rfl, _, _, _, _, rfl, rfl, SqL.of hl', atI_nat (j := 3) rfl, _, _, rfl, rfl, _, rfl, _, _, _, 3, rfl, rfl, hl', rfl, ?_⟩
      refine ⟨_, rfl, _, _, _, _, rfl, rfl, SqL.of upd_same, atI_nat (j := 2) rfl, _, _, rfl, rfl, _, rfl, ite2 (fun e1 => ?_) (fun e1 => ?_)⟩
      · refine ⟨_, rfl, _, _, _, _, rfl, rfl, SqL.of upd_same, atI_nat (j := 4) rfl, _, _, rfl, rfl, .inr ⟨by decide, by decide⟩, _, rfl, _, _, _, _, rfl, rfl, SqL.of upd_same, atI_nat (j := 3) rfl, _, _, rfl, rfl, .inr ⟨by decide, by decide⟩, _, _, rfl, rfl, _, _, rfl, rfl, .inl ⟨_, rfl, _, _, rfl, rfl, (by show (0 : Int) < 2147483647; decide), ?_⟩⟩
        refine ⟨_, rfl, _, _, rfl, rfl, .inr ⟨by decide, by decide⟩, _, rfl, _, _, _, _, rfl, rfl, SqL.of upd_same, atI_nat (j := 3) rfl, _, _, rfl, rfl, .inl ⟨_, rfl, _, _, rfl, rfl, (by show (0 : Int) < 2147483629; decide), ?_⟩⟩
        refine ⟨_, rfl, _, _, rfl, rfl, ⟨by decide, by decide⟩, _, rfl, _, _, rfl, rfl, n0, ?_⟩
        show Q _ _
        rw [hu]
        exact q _ _ (Int.emod_nonneg _ (by omega)) (Int.emod_lt_of_pos _ n0) (pk i c (k + 1) s5)
      · refine ⟨_, rfl, _, _, _, _, rfl, rfl, SqL.of upd_same, atI_nat (j := 2) rfl, .inl ⟨_, rfl, _, rfl, _, _, rfl, rfl, n0, ?_⟩⟩
        refine ⟨_, rfl, _, _, _, _, rfl, rfl, SqL.of upd_same, atI_nat (j := 2) rfl, _, rfl, _, _, rfl, rfl, ⟨n0, n9⟩, _, rfl, _, _, _, 2, rfl, rfl, upd_same, rfl, _, rfl, ?_⟩
        show Q _ _
        rw [upd_upd, hu]
        exact q _ _ (Int.emod_nonneg _ (by omega)) (Int.emod_lt_of_pos _ n0) (pk i (c / n) (k + 1) s5)
/-- the same, the heap behind it a letter -/
def spDrawX : Sp := fun vs H Q _ => ∃ (p a : Addr) (n : Int), vs = [.ref p, .int n] ∧ 0 < n ∧ n ≤ 2 ^ 70 ∧ PoolOk p a H ∧ ∀ (v : Nat) (H' : Hp), (v : Int) < n → Px p a H H' → (∀ b, b ≠ p → H' b = H b) → Q (.int v) H'
theorem log2_small {n : Int} (h0 : 0 < n) (h : n ≤ 2 ^ 70) : n.natAbs.log2 < 9000 := by
  have h1 : n.natAbs < 2 ^ 71 := by omega
  have := PySem.Flt.log2_lt_of (by decide : 0 < 71) h1
  omega
theorem drawX (C : Has P w K mg base 2 "_law_draw" ["pool", "many"] spDraw) : Has P w K mg base 2 "_law_draw" ["pool", "many"] spDrawX :=
  C.imp fun vs H Q E h => by
    obtain ⟨p, a, n, rfl, h0, h1, hp, q⟩ := h
    refine ⟨p, a, n, rfl, h0, log2_small h0 h1, hp, fun v o v0 v1 hq => ?_⟩
    have e : v = ((v.toNat : Nat) : Int) := by omega
    rw [e]
    exact q v.toNat _ (by omega) (Px.draw hp hq) fun b hb => upd_ne hb
end
end G
namespace G
open PySem PySem.Spec PyProof.Rows L2 Evl
/-! ## data -/
inductive D where
  | non | bl (b : Bool) | int (i : Int) | str (s : Str) | tup (l : List D) | lst (l : List D)
def okD : Nat → D → Prop
  | 0, .tup _ => False
  | 0, .lst _ => False
  | n + 1, .tup l => l.length < 2 ^ 61 ∧ ∀ d ∈ l, okD n d
  | n + 1, .lst l => l.length < 2 ^ 61 ∧ ∀ d ∈ l, okD n d
  | _, _ => True
inductive Rep (H : Hp) : V → D → Prop where
  | non : Rep H .non .non
  | bl (b : Bool) : Rep H (.bl b) (.bl b)
  | int (i : Int) : Rep H (.int i) (.int i)
  | str (s : Str) : Rep H (.str s) (.str s)
  | tup {a : Addr} {xs : List V} {ds : List D} (h : H a = some (.tup xs)) (hl : xs.length = ds.length) (hr : ∀ (i : Nat) (x : V) (d : D), xs[i]? = some x → ds[i]? = some d → Rep H x d) : Rep H (.ref a) (.tup ds)
  | lst {a : Addr} {xs : List V} {ds : List D} (h : H a = some (.lst xs)) (hl : xs.length = ds.length) (hr : ∀ (i : Nat) (x : V) (d : D), xs[i]? = some x → ds[i]? = some d → Rep H x d) : Rep H (.ref a) (.lst ds)
theorem Rep.ex {H H' : Hp} (e : Ex H H') {x : V} {d : D} (r : Rep H x d) : Rep H' x d := by
  induction r with
  | non => exact .non
  | bl b => exact .bl b
  | int i => exact .int i
  | str s => exact .str s
  | tup h hl _ ih => exact .tup (e _ _ h) hl ih
  | lst h hl _ ih => exact .lst (e _ _ h) hl ih
theorem okD.mono : ∀ {n m : Nat} {d : D}, n ≤ m → okD n d → okD m d
  | 0, 0, d, _, h => h
  | 0, m + 1, .non, _, _ => trivial
  | 0, m + 1, .bl _, _, _ => trivial
  | 0, m + 1, .int _, _, _ => trivial
  | 0, m + 1, .str _, _, _ => trivial
  | 0, m + 1, .tup _, _, h => h.elim
  | 0, m + 1, .lst _, _, h => h.elim
  | n + 1, m + 1, .non, _, _ => trivial
  | n + 1, m + 1, .bl _, _, _ => trivial
  | n + 1, m + 1, .int _, _, _ => trivial
  | n + 1, m + 1, .str _, _, _ => trivial
  | n + 1, m + 1, .tup l, le, h => ⟨h.1, fun d hd => okD.mono (Nat.le_of_succ_le_succ le) (h.2 d hd)⟩
  | n + 1, m + 1, .lst l, le, h => ⟨h.1, fun d hd => okD.mono (Nat.le_of_succ_le_succ le) (h.2 d hd)⟩
structure TxtS (mg : Str → Option Value) : Prop where
  isinstance : mg "isinstance" = none
  tuple : mg "tuple" = none
  list : mg "list" = none
  len : mg "len" = none
  range : mg "range" = none
  bool : mg "bool" = none
  int : mg "int" = none
  str : mg "str" = none
section
variable {P : Program} {w : World} {K : PySem.W.Frag} {mg : Str → Option Value} {base : Heap}
/-- equal data: the answer is True -/
def spSame : Nat → Sp
  | 0 => fun _ _ _ _ => False
  | n + 1 => fun vs H Q _ => ∃ (x y : V) (d : D), vs = [x, y] ∧ Rep H x d ∧ Rep H y d ∧ okD n d ∧ Q (.bl true) H
theorem sc_law_same : FnScope ["actual", "due", "k"] ["actual", "due"] (defScope s_law_same) := ⟨rfl, rfl, rfl, by decide +kernel, rfl, by decide +kernel, by decide +kernel⟩
theorem fn_law_same {f : Addr} {fd : FuncData} (F : Fun K "_law_same" "_law_same" s_law_same f fd) (g_law_same : mg "_law_same" = some (.ref f)) (b_law_same : Binds K fd ["actual", "due"] []) (T : TxtS mg) : ∀ n, FnOk P w K mg base CX0 n f fd ["actual", "due"] (spSame n)
  | 0 => ⟨fun _ _ _ _ h => h.elim, fun _ _ _ _ _ _ _ _ _ _ _ _ _ h => h.elim⟩
  | n + 1 => by
    have G_law_same := fn_law_same F g_law_same b_law_same T n
    have k_law_same := F.kp
    refine F.ok sc_law_same (fun vs H Q E h => ?_) (fun cdv A outer s H vs Q E hr h => ?_)
    · obtain ⟨x, y, d, rfl, _⟩ := h
      rfl
    · obtain ⟨x, y, d, rfl, rx, ry, hd, q⟩ := h
      refine ⟨_, (pss_cons (ps_if (PW.pt (pw_or (pt_val (pe_callB call_isi (by rfl) T.isinstance (by decide +kernel) (pa_cons (pv 1) (pa_cons (pe_bltn (v := .ty "tuple") (by rfl) T.tuple (by decide +kernel) rfl) pa_nil)))) (pw_or1 (pt_val (pe_callB call_isi (by rfl) T.isinstance (by decide +kernel) (pa_cons (pv 1) (pa_cons (pe_bltn (v := .ty "list") (by rfl) T.list (by decide +kernel) rfl) pa_nil)))))))
      (pss_cons (ps_if (PW.pt (pw_or (pt_cmpR op_ne (pe_callB call_isi (by rfl) T.isinstance (by decide +kernel) (pa_cons (pv 1) (pa_cons (pe_bltn (v := .ty "tuple") (by rfl) T.tuple (by decide +kernel) rfl) pa_nil))) (pe_callB call_isi (by rfl) T.isinstance (by decide +kernel) (pa_cons (pv 0) (pa_cons (pe_bltn (v := .ty "tuple") (by rfl) T.tuple (by decide +kernel) rfl) pa_nil))) (nomark _)) (pw_or1 (pt_cmpR op_ne (pe_callB call_isi (by rfl) T.isinstance (by decide +kernel) (pa_cons (pv 1) (pa_cons (pe_bltn (v := .ty "list") (by rfl) T.list (by decide +kernel) rfl) pa_nil))) (pe_callB call_isi (by rfl) T.isinstance (by decide +kernel) (pa_cons (pv 0) (pa_cons (pe_bltn (v := .ty "list") (by rfl) T.list (by decide +kernel) rfl) pa_nil))) (nomark _)))))
        (pss_one (ps_ret pe_bl))
        pss_nil)
      (pss_cons (ps_if (pt_cmpR op_ne (pe_callB call_len_seq (by rfl) T.len (by decide +kernel) (pa_cons (pv 0) pa_nil)) (pe_callB call_len_seq (by rfl) T.len (by decide +kernel) (pa_cons (pv 1) pa_nil)) (nomark _))
        (pss_one (ps_ret pe_bl))
        pss_nil)
      (pss_cons (ps_for PassesOwn.never rfl (pi_range1 rfl T.range (pa_cons (pe_callB call_len_seq (by rfl) T.len (by decide +kernel) (pa_cons (pv 1) pa_nil)) pa_nil)) (pg_name (i := 2) sc_law_same.nd rfl (.inl rfl))
        (pss_one (ps_if (pt_not (pt_val (pe_call G_law_same hr (by rfl) g_law_same k_law_same b_law_same .nil pass0 (pa_cons (pe_ix ix_seq (pv 0) (pv 2) (fun _ _ => rfl)) (pa_cons (pe_ix ix_seq (pv 1) (pv 2) (fun _ _ => rfl)) pa_nil)))))
          (pss_one (ps_ret pe_bl))
          pss_nil)))
      (pss_one (ps_ret pe_bl)))))
      pss_nil)
    (pss_cons (ps_if (pt_cmpR op_isN (pv 1) pe_non (nomark _))
      (pss_one (ps_ret (pe_cmpR op_isN (pv 0) pe_non (nomark _))))
      pss_nil)
    (pss_cons (ps_if (pt_val (pe_callB call_isi (by rfl) T.isinstance (by decide +kernel) (pa_cons (pv 1) (pa_cons (pe_bltn (v := .ty "bool") (by rfl) T.bool (by decide +kernel) rfl) pa_nil))))
      (pss_one (ps_ret (pe_and (pe_callB call_isi (by rfl) T.isinstance (by decide +kernel) (pa_cons (pv 0) (pa_cons (pe_bltn (v := .ty "bool") (by rfl) T.bool (by decide +kernel) rfl) pa_nil))) (pe_one (pe_cmpR op_eq (pv 0) (pv 1) (nomark _))))))
      pss_nil)
    (pss_cons (ps_if (pt_val (pe_callB call_isi (by rfl) T.isinstance (by decide +kernel) (pa_cons (pv 1) (pa_cons (pe_bltn (v := .ty "int") (by rfl) T.int (by decide +kernel) rfl) pa_nil))))
      (pss_one (ps_ret (pe_and (pe_callB call_isi (by rfl) T.isinstance (by decide +kernel) (pa_cons (pv 0) (pa_cons (pe_bltn (v := .ty "int") (by rfl) T.int (by decide +kernel) rfl) pa_nil))) (pe_and (pe_not (pe_callB call_isi (by rfl) T.isinstance (by decide +kernel) (pa_cons (pv 0) (pa_cons (pe_bltn (v := .ty "bool") (by rfl) T.bool (by decide +kernel) rfl) pa_nil)))) (pe_one (pe_cmpR op_eq (pv 0) (pv 1) (nomark _)))))))
      pss_nil)
    (pss_one (ps_ret (pe_and (pe_callB call_isi (by rfl) T.isinstance (by decide +kernel) (pa_cons (pv 0) (pa_cons (pe_bltn (v := .ty "str") (by rfl) T.str (by decide +kernel) rfl) pa_nil))) (pe_one (pe_cmpR op_eq (pv 0) (pv 1) (nomark _)))))))))), ?_⟩
      cases rx with
      | non =>
        cases ry
        refine ⟨_, rfl, _, _, _, _, _, rfl, .ty "tuple", .base .non, kit_ty (a := "NoneType") (r := false) (by decide +kernel), _, rfl, iteF ⟨_, rfl, _, _, _, _, _, rfl, .ty "list", .base .non, kit_ty (a := "NoneType") (r := false) (by decide +kernel), _, rfl, iteF ⟨_, rfl, rfl, _, rfl, iteT ⟨_, rfl, rfl, ?_⟩⟩⟩⟩
        exact q
      | bl b =>
        cases ry
        refine ⟨_, rfl, _, _, _, _, _, rfl, .ty "tuple", .base (.bl _), kit_ty (a := "bool") (r := false) (by decide +kernel), _, rfl, iteF ⟨_, rfl, _, _, _, _, _, rfl, .ty "list", .base (.bl _), kit_ty (a := "bool") (r := false) (by decide +kernel), _, rfl, iteF ⟨_, rfl, rfl, _, rfl, iteF ⟨_, rfl, _, _, _, _, _, rfl, .ty "bool", .base (.bl _), kit_ty (a := "bool") (r := true) (by decide +kernel), _, rfl, iteT ⟨_, rfl, _, _, _, _, _, rfl, .ty "bool", .base (.bl _), kit_ty (a := "bool") (r := true) (by decide +kernel), _, rfl, iteT ⟨_, rfl, _, rfl, rfl, ?_⟩⟩⟩⟩⟩⟩
        rw [decide_eq_true rfl]
        exact q
      | int b =>
        cases ry
        refine ⟨_, rfl, _, _, _, _, _, rfl, .ty "tuple", .base (.int _), kit_ty (a := "int") (r := false) (by decide +kernel), _, rfl, iteF ⟨_, rfl, _, _, _, _, _, rfl, .ty "list", .base (.int _), kit_ty (a := "int") (r := false) (by decide +kernel), _, rfl, iteF ⟨_, rfl, rfl, _, rfl, iteF ⟨_, rfl, _, _, _, _, _, rfl, .ty "bool", .base (.int _), kit_ty (a := "int") (r := false) (by decide +kernel), _, rfl, iteF ⟨_, rfl, _, _, _, _, _, rfl, .ty "int", .base (.int _), kit_ty (a := "int") (r := true) (by decide +kernel), _, rfl, iteT ⟨_, rfl, _, _, _, _, _, rfl, .ty "int", .base (.int _), kit_ty (a := "int") (r := true) (by decide +kernel), _, rfl, iteT ⟨_, rfl, _, _, _, _, _, rfl, .ty "bool", .base (.int _), kit_ty (a := "int") (r := false) (by decide +kernel), _, rfl, _, rfl, iteT ⟨_, rfl, _, rfl, rfl, ?_⟩⟩⟩⟩⟩⟩⟩⟩
        rw [decide_eq_true rfl]
        exact q
      | str b =>
        cases ry
        refine ⟨_, rfl, _, _, _, _, _, rfl, .ty "tuple", .base (.str _), kit_ty (a := "str") (r := false) (by decide +kernel), _, rfl, iteF ⟨_, rfl, _, _, _, _, _, rfl, .ty "list", .base (.str _), kit_ty (a := "str") (r := false) (by decide +kernel), _, rfl, iteF ⟨_, rfl, rfl, _, rfl, iteF ⟨_, rfl, _, _, _, _, _, rfl, .ty "bool", .base (.str _), kit_ty (a := "str") (r := false) (by decide +kernel), _, rfl, iteF ⟨_, rfl, _, _, _, _, _, rfl, .ty "int", .base (.str _), kit_ty (a := "str") (r := false) (by decide +kernel), _, rfl, iteF ⟨_, rfl, _, _, _, _, _, rfl, .ty "str", .base (.str _), kit_ty (a := "str") (r := true) (by decide +kernel), _, rfl, iteT ⟨_, rfl, _, rfl, rfl, ?_⟩⟩⟩⟩⟩⟩⟩
        rw [decide_eq_true rfl]
        exact q
      | @tup a xs ds hx lx rx =>
        cases ry with
        | @tup b ys _ hy ly ry =>
          cases n with
          | zero => exact hd.elim
          | succ m =>
            obtain ⟨hlen, hall⟩ := hd
            refine ⟨_, rfl, _, _, _, _, _, rfl, .ty "tuple", .base (.tup hy), kit_ty (a := "tuple") (r := true) (by decide +kernel), _, rfl, iteT (iteT ⟨_, rfl, _, _, _, _, _, rfl, .ty "tuple", .base (.tup hy), kit_ty (a := "tuple") (r := true) (by decide +kernel), _, rfl, _, _, _, _, _, rfl, .ty "tuple", .base (.tup hx), kit_ty (a := "tuple") (r := true) (by decide +kernel), rfl, _, rfl, iteF ⟨_, rfl, _, _, _, _, _, rfl, .ty "list", .base (.tup hy), kit_ty (a := "tuple") (r := false) (by decide +kernel), _, rfl, _, _, _, _, _, rfl, .ty "list", .base (.tup hx), kit_ty (a := "tuple") (r := false) (by decide +kernel), rfl, _, rfl, iteF ⟨_, rfl, _, _, rfl, .inr (SqT.of hx), _, rfl, _, _, rfl, .inr (SqT.of hy), rfl, _, rfl, ?_⟩⟩⟩)⟩
            have el : decide (V.int (xs.length : Int) = V.int (ys.length : Int)) = true := decide_eq_true (by rw [lx, ly])
            rw [el]
            refine ⟨_, rfl, _, _, rfl, .inr (SqT.of hy), _, rfl, by omega, by omega, for_range (n := (ys.length : Int).toNat) (fun _ σ H' => H' = H ∧ ∃ z : Option V, σ = [some (.ref a), some (.ref b), z]) ⟨rfl, _, rfl⟩ ?_ ?_⟩
            · rintro i σ H' hi ⟨rfl, z, rfl⟩
              have hi' : i < ds.length := by omega
              have e0 : (0 : Int) + (i : Int) = (i : Int) := Int.zero_add _
              have g1 : xs[i]? = some xs[i] := List.getElem?_eq_getElem (by omega)
              have g2 : ys[i]? = some ys[i] := List.getElem?_eq_getElem (by omega)
              have g3 : ds[i]? = some ds[i] := List.getElem?_eq_getElem hi'
              rw [e0]
              refine ⟨_, rfl, _, rfl, .inr (.inl ⟨_, _, _, _, rfl, rfl, SqT.of hx, atI_nat g1, _, rfl, _, rfl, .inr (.inl ⟨_, _, _, _, rfl, rfl, SqT.of hy, atI_nat g2, ?_⟩)⟩)⟩
              exact ⟨_, _, ds[i], rfl, rx i _ _ g1 g3, ry i _ _ g2 g3, hall _ (List.getElem_mem hi'), _, rfl, rfl, _, rfl⟩
            · rintro σ H' ⟨rfl, z, rfl⟩
              exact q
      | @lst a xs ds hx lx rx =>
        cases ry with
        | @lst b ys _ hy ly ry =>
          cases n with
          | zero => exact hd.elim
          | succ m =>
            obtain ⟨hlen, hall⟩ := hd
            refine ⟨_, rfl, _, _, _, _, _, rfl, .ty "tuple", .base (.lst hy), kit_ty (a := "list") (r := false) (by decide +kernel), _, rfl, iteF ⟨_, rfl, _, _, _, _, _, rfl, .ty "list", .base (.lst hy), kit_ty (a := "list") (r := true) (by decide +kernel), _, rfl, iteT ⟨_, rfl, _, _, _, _, _, rfl, .ty "tuple", .base (.lst hy), kit_ty (a := "list") (r := false) (by decide +kernel), _, rfl, _, _, _, _, _, rfl, .ty "tuple", .base (.lst hx), kit_ty (a := "list") (r := false) (by decide +kernel), rfl, _, rfl, iteF ⟨_, rfl, _, _, _, _, _, rfl, .ty "list", .base (.lst hy), kit_ty (a := "list") (r := true) (by decide +kernel), _, rfl, _, _, _, _, _, rfl, .ty "list", .base (.lst hx), kit_ty (a := "list") (r := true) (by decide +kernel), rfl, _, rfl, iteF ⟨_, rfl, _, _, rfl, .inl (SqL.of hx), _, rfl, _, _, rfl, .inl (SqL.of hy), rfl, _, rfl, ?_⟩⟩⟩⟩⟩
            have el : decide (V.int (xs.length : Int) = V.int (ys.length : Int)) = true := decide_eq_true (by rw [lx, ly])
            rw [el]
            refine ⟨_, rfl, _, _, rfl, .inl (SqL.of hy), _, rfl, by omega, by omega, for_range (n := (ys.length : Int).toNat) (fun _ σ H' => H' = H ∧ ∃ z : Option V, σ = [some (.ref a), some (.ref b), z]) ⟨rfl, _, rfl⟩ ?_ ?_⟩
            · rintro i σ H' hi ⟨rfl, z, rfl⟩
              have hi' : i < ds.length := by omega
              have e0 : (0 : Int) + (i : Int) = (i : Int) := Int.zero_add _
              have g1 : xs[i]? = some xs[i] := List.getElem?_eq_getElem (by omega)
              have g2 : ys[i]? = some ys[i] := List.getElem?_eq_getElem (by omega)
              have g3 : ds[i]? = some ds[i] := List.getElem?_eq_getElem hi'
              rw [e0]
              refine ⟨_, rfl, _, rfl, .inl ⟨_, _, _, _, rfl, rfl, SqL.of hx, atI_nat g1, _, rfl, _, rfl, .inl ⟨_, _, _, _, rfl, rfl, SqL.of hy, atI_nat g2, ?_⟩⟩⟩
              exact ⟨_, _, ds[i], rfl, rx i _ _ g1 g3, ry i _ _ g2 g3, hall _ (List.getElem_mem hi'), _, rfl, rfl, _, rfl⟩
            · rintro σ H' ⟨rfl, z, rfl⟩
              exact q
theorem ok_law_same (D : Dfd K mg "_law_same" s_law_same ["actual", "due"]) (T : TxtS mg) (n : Nat) : Has P w K mg base n "_law_same" ["actual", "due"] (spSame n) := by
  obtain ⟨f, fd, F, g, b⟩ := D
  exact ⟨f, fd, fn_law_same F g b T n, g, F.kp, b⟩
end
/-! ## data made of flat lists -/
theorem rep_map {H : Hp} {α : Type} {f : α → V} {g : α → D} {l : List α} (h : ∀ x, Rep H (f x) (g x)) : (l.map f).length = (l.map g).length ∧ ∀ (i : Nat) (x : V) (d : D), (l.map f)[i]? = some x → (l.map g)[i]? = some d → Rep H x d := by
  refine ⟨by rw [List.length_map, List.length_map], fun i x d hx hd => ?_⟩
  rw [List.getElem?_map] at hx hd
  cases e : l[i]? with
  | none => rw [e] at hx; cases hx
  | some y =>
    rw [e] at hx hd
    have e1 : f y = x := Option.some.inj hx
    have e2 : g y = d := Option.some.inj hd
    rw [← e1, ← e2]
    exact h y
theorem rep_ints {H : Hp} {a : Addr} {l : List Int} (h : H a = some (.lst (l.map V.int))) : Rep H (.ref a) (.lst (l.map D.int)) :=
  let r := rep_map (H := H) (f := V.int) (g := D.int) (l := l) fun i => .int i
  .lst h r.1 r.2
theorem rep_bls {H : Hp} {a : Addr} {l : List Bool} (h : H a = some (.tup (l.map V.bl))) : Rep H (.ref a) (.tup (l.map D.bl)) :=
  let r := rep_map (H := H) (f := V.bl) (g := D.bl) (l := l) fun i => .bl i
  .tup h r.1 r.2
theorem okD_ints {l : List Int} (h : l.length < 2 ^ 61) : okD 1 (.lst (l.map D.int)) := ⟨by rw [List.length_map]; exact h, fun d hd => by obtain ⟨_, _, rfl⟩ := List.mem_map.mp hd; trivial⟩
end G
namespace G
open PySem PySem.Spec PyProof.Rows L2 Evl
section
variable {P : Program} {w : World} {K : PySem.W.Frag} {mg : Str → Option Value} {base : Heap}
theorem cutV_mem {xs : List V} {lo hi : Option Int} {i : Nat} {x : V} (h : (cutV xs lo hi)[i]? = some x) : x ∈ xs := by
  unfold cutV at h
  exact List.mem_of_mem_drop (List.mem_of_mem_take (List.mem_of_getElem? h))
theorem int_of {ns : List Int} {x : V} (h : x ∈ ns.map V.int) : ∃ z, x = .int z := by
  obtain ⟨z, _, e⟩ := List.mem_map.mp h
  exact ⟨z, e.symm⟩
def spPool (K : PySem.W.Frag) : Sp := fun vs H Q _ => ∃ (s : Addr) (ns : List Int), vs = [.ref s] ∧ SqL K H s (ns.map V.int) ∧ ns.length ≤ 1000 ∧ ∀ (p a : Addr) (H' : Hp), PoolOk p a H' → Ex H H' → H p = none → Q (.ref p) H'
theorem sc_law_pool : FnScope ["script", "salt", "cell"] ["script"] (defScope s_law_pool) := ⟨rfl, rfl, rfl, by decide +kernel, rfl, by decide +kernel, by decide +kernel⟩
theorem ok_law_pool (D : Dfd K mg "_law_pool" s_law_pool ["script"]) (T : TxtL mg) : Has P w K mg base 1 "_law_pool" ["script"] (spPool K) := by
  refine D.has fun f fd F => F.ok sc_law_pool (fun vs H Q E h => ?_) (fun cdv A outer s H vs Q E hr h => ?_)
  · obtain ⟨c, _, rfl, _⟩ := h
    rfl
  · obtain ⟨sa, ns, rfl, hs, hn, q⟩ := h
    refine ⟨_, (pss_cons (ps_set (i := 1) sc_law_pool.nd rfl (.inl rfl) pe_int)
      (pss_cons (ps_for PassesOwn.never rfl (pi_list (pe_slice sl_list (pv 0) po_none (po_some pe_int))) (pg_name (i := 2) sc_law_pool.nd rfl (.inl rfl))
        (pss_one (ps_set (i := 1) sc_law_pool.nd rfl (.inl rfl) (pe_op op_mod (pe_callTy call_int1 (by rfl) T.int (by decide +kernel) (pa_cons (pe_op op_add (pe_op op_mul (pv 1) pe_int) (pv 2)) pa_nil)) pe_int))))
      (pss_one (ps_ret (pe_lst (pa_cons (pe_callTy call_list_of (by rfl) T.list (by decide +kernel) (pa_cons (pv 0) pa_nil)) (pa_cons pe_int (pa_cons pe_int (pa_cons pe_int (pa_cons (pv 1) pa_nil)))))))))), ?_⟩
    refine ⟨_, rfl, _, rfl, sa, _, rfl, hs, fun c nc => ⟨c, rfl, ⟨_, SqL.of upd_same⟩, for_list (K := K) (a := c) (xs := cutV (ns.map V.int) none (some 63)) (fun _ σ H' => H' = upd H c (.lst (cutV (ns.map V.int) none (some 63))) ∧ ∃ (x : Int) (z : Option V), σ = [some (.ref sa), some (.int x), z]) ⟨rfl, _, _, rfl⟩ ?_ ?_ ?_⟩⟩
    · rintro i σ H' _ ⟨rfl, _⟩
      exact SqL.of upd_same
    · rintro i x σ H' hi ⟨rfl, y, z, rfl⟩
      obtain ⟨m, rfl⟩ := int_of (cutV_mem hi)
      exact ⟨_, rfl, _, _, rfl, rfl, .inr ⟨by decide, by decide⟩, _, rfl, _, _, rfl, rfl, .inl ⟨_, rfl, _, _, rfl, rfl, (by show (0 : Int) < 1000003; decide), rfl, _, _, rfl⟩⟩
    · rintro σ H' ⟨rfl, y, z, rfl⟩
      have e1 : Ex H (upd H c (.lst (cutV (ns.map V.int) none (some 63)))) := Ex.new nc
      refine ⟨_, rfl, _, _, rfl, .inl (ex_l e1 hs), fun l nl => ⟨_, rfl, (by show 5 ≤ sizeLine; decide), fun p np => ?_⟩⟩
      have e2 := e1.trans (Ex.new (o := .lst (ns.map V.int)) nl)
      have npl : l ≠ p := ne_of_none upd_same np
      exact q p l _ ⟨ns, 0, 0, 0, y, upd_same, by rw [hid_ne npl, upd_ne npl]; exact upd_same, hn⟩ (e2.trans (Ex.new np)) (fresh_back e2 np)
end
end G
namespace G
open PySem PySem.Spec PyProof.Rows L2 Evl
/-! ## own classes of errors -/
def HasX (P : Program) (w : World) (K : PySem.W.Frag) (mg : Str → Option Value) (base : Heap) (k : Nat) (x : Str) (ps : List Str) (sp : Sp) : Prop :=
  ∃ (f : Addr) (fd : FuncData), FnOk P w K mg base (L2.CX P w) k f fd ps sp ∧ mg x = some (.ref f) ∧ PySem.W.keepIn K (.ref f) = true ∧ Binds K fd ps []
theorem passX0 {X : Cx} {P : Program} {w : World} : Passes (L2.CX P w) X (fun _ _ _ => False) := fun _ _ _ _ _ _ _ h => by
  obtain ⟨_, _, _, _, _, _, _, _, _, _, _, _, h⟩ := h
  exact h.elim
/-- an own class over ValueError without __init__, at C -/
structure ExcT (K : PySem.W.Frag) (mg : Str → Option Value) (x : Str) (C : Addr) : Prop where
  gC : mg x = some (.ref C)
  xP : PySem.W.excIn K C [.type "ValueError", .type "Exception", .type "BaseException", .type "object"] "ValueError.__new__" = true
  kC : PySem.W.keepIn K (.ref C) = true
  bC : PySem.W.subIn K (.ref C) (.type "BaseException") = some true
  tC : PySem.W.typeIn K (.ref C) = some (.type "type")
/-- what an except clause asks of the class that it names -/
structure ExcH (K : PySem.W.Frag) (mg : Str → Option Value) (x : Str) (C : Addr) : Prop where
  u : ExcT K mg x C
  dict : PySem.W.hasDictIn K C = true
  self : PySem.W.subIn K (.ref C) (.ref C) = some true
theorem ExcH.hit {K : PySem.W.Frag} {mg : Str → Option Value} {x : Str} {C : Addr} (U : ExcH K mg x C) : PySem.W.exmOne K (.ref C) (.ref C) = some true := PySem.W.exm_ref U.u.bC U.dict U.u.tC U.self
end G
namespace G
open PySem PySem.Spec PyProof.Rows L2 Evl
/-! ## methods of built-in types within a suite: the written part by its letter -/
theorem kBm {X : Cx} {K : PySem.W.Frag} {T name id : String} {r : V → List V → Hp → VK → Prop} {o e : Expr} {es : List Expr} {to_ : TE} {t : TA} {apos cpos : Pos} (h : X.K = K) (p1 : PlainAttrs T) (p2 : Slot T name id) (p3 : typeOf (.builtin id) = pure (.type "method_descriptor")) (p4 : MtR X id r) (p5 : PE X o to_) (p6 : PA X (e :: es) t)
    (p7 : attributeBase o name X.env (eval o X.env) = eval o X.env := by rfl) (p8 : ((backTo cpos (starEach (e :: es) X.env)).all (fun x => !x.1) && (backToKw cpos (keywordEach [] X.env)).all (fun x => x.1.isSome) && decide ((e :: es).length + ([] : List Keyword).length + (if ([] : List Keyword).isEmpty then 0 else 1) < 30)) = true := by rfl)
    (p9 : (apos.endLine == cpos.line) = true := by rfl) (p10 : starEach (e :: es) X.env = (false, eval e X.env) :: starEach es X.env := by rfl) (p11 : (backTo cpos (starEach es X.env)).any (·.1) = false := by rfl) : PE X (.Call (.Attribute o name apos) (e :: es) [] cpos) (tBM K T r to_ t) := by
  subst h
  exact pe_bm p1 p2 p3 p4 p5 p6 p7 p8 p9 p10 p11
theorem kMtIndex {X : Cx} {K : PySem.W.Frag} (h : X.K = K) : MtR X "list.index" (rIndex K) := by subst h; exact mt_index
end G
namespace G
open PySem PySem.Spec PyProof.Rows L2 Evl
/-! ## own errors: caught by name or by a class above, asked for their class -/
structure ExcI (K : PySem.W.Frag) (mg : Str → Option Value) (x : Str) (C : Addr) : Prop where
  u : ExcT K mg x C
  dict : PySem.W.hasDictIn K C = true
  self : PySem.W.subIn K (.ref C) (.ref C) = some true
  isc : ExcC K C
def IsK (K : PySem.W.Frag) (mg : Str → Option Value) (C : Addr) (d : Str) (b : Bool) : Prop := ∃ D : Addr, mg d = some (.ref D) ∧ PySem.W.kitOne K (.ref C) (.ref D) = some b
def CatchK (K : PySem.W.Frag) (mg : Str → Option Value) (C : Addr) (s : Str) : Prop := ∃ D : Addr, mg s = some (.ref D) ∧ PySem.W.exmOne K (.ref C) (.ref D) = some true
theorem ExcI.hit {K : PySem.W.Frag} {mg : Str → Option Value} {x : Str} {C : Addr} (U : ExcI K mg x C) : PySem.W.exmOne K (.ref C) (.ref C) = some true := PySem.W.exm_ref U.u.bC U.dict U.u.tC U.self
theorem IsK.at_ {K : PySem.W.Frag} {mg : Str → Option Value} {C D : Addr} {d : Str} {b : Bool} (h : IsK K mg C d b) (g : mg d = some (.ref D)) : PySem.W.kitOne K (.ref C) (.ref D) = some b := by
  obtain ⟨D', g', k⟩ := h
  rw [g] at g'
  cases g'; exact k
theorem CatchK.at_ {K : PySem.W.Frag} {mg : Str → Option Value} {C D : Addr} {s : Str} (h : CatchK K mg C s) (g : mg s = some (.ref D)) : PySem.W.exmOne K (.ref C) (.ref D) = some true := by
  obtain ⟨D', g', k⟩ := h
  rw [g] at g'
  cases g'; exact k
theorem pe_ex {X : Cx} {e : Expr} {α : Type} {p : α → Prop} {t : α → TE} (h : ∀ x, p x → PE X e (t x)) : PE X e (fun σ H Q => ∃ x, p x ∧ t x σ H Q) := by
  refine ⟨fun ps s σ H Q I z => ?_⟩
  obtain ⟨x, px, hx⟩ := z
  exact (h x px).run ps s σ H Q I hx
/-- isinstance of the error that the suite holds: whichever own error it is -/
theorem pe_isE {X : Cx} {a : Addr} {oe : Obj} {pn : List (Addr × Obj)} {cls : Value} {dd : Option Addr} {e : Expr} {t : Addr → TE} (hz : Zc cls dd oe) (hf : ∃ vs, oe.data = .fields vs)
    (h : ∀ D : Addr, Zc (.ref D) none oe → ExcC X.K D → PE (X.suite a ((a, oe) :: pn)) e (t D)) : PE (X.suite a ((a, oe) :: pn)) e (fun σ H Q => ∃ D : Addr, (cls = .ref D ∧ dd = none ∧ ExcC X.K D) ∧ t D σ H Q) :=
  pe_ex (p := fun D => cls = .ref D ∧ dd = none ∧ ExcC X.K D) fun D z => by
    obtain ⟨rfl, rfl, ic⟩ := z
    exact h D hz ic
/-! ## methods and classes called where what is raised is taken at the slots -/
section
variable {X : Cx} {CX : CXT} {k : Nat} {f C : Addr} {fd : FuncData} {ps : List Str} {sp : Sp} {dvs : List V} {ds : List Value} {E : L2.St → XK} {x m : Str} {p pos apos : Pos} {e o : Expr} {es : List Expr} {to_ : TE} {t : TA}
def tMethX (C : Addr) (m : Str) (sp : Sp) (dvs : List V) (E : L2.St → XK) (to_ : TE) (t : TA) : TE := fun σ H Q => to_ σ H fun x H1 => ∃ a dx fs, x = .ref a ∧ H1 a = some (.ins C dx fs) ∧ fs.lookup m = none ∧ t σ H1 fun vs H2 => sp (x :: (vs ++ dvs)) H2 Q (E σ)
def tMakeX (C : Addr) (sp : Sp) (dvs : List V) (E : L2.St → XK) (t : TA) : TE := fun σ H Q => t σ H fun vs H1 => ∀ x dx, H1 x = none → H1 dx = none → dx ≠ x → sp (.ref x :: (vs ++ dvs)) (upd (upd H1 dx (.own x)) x (.ins C dx [])) (fun v H2 => v = .non ∧ Q (.ref x) H2) (E σ)
theorem pe_methX {pl : Sem Bool} (ho : PE X o to_) (cc : Cls X.K C) (mm : Meth X.K C m f) (Fk : FnOk X.prog X.w X.K X.mg X.base CX k f fd ps sp) (rm : Room k X.A) (bd : Binds X.K fd ps ds) (dv : Vals dvs ds)
    (px : ∀ σ, PassesAt CX X σ (E σ)) (pa : PA X (e :: es) t) (s1 : starEach (e :: es) X.env = (false, eval e X.env) :: starEach es X.env := by rfl) (s2 : (backTo pos (starEach es X.env)).any (·.1) = false := by rfl)
    (s3 : eval (.Call (.Attribute o m apos) (e :: es) [] pos) X.env = (do let ov ← eval o X.env; standAt apos.atName; let (f, first) ← holding [ov] (getMethod ov m pl); callWith pos f first (backTo pos (starEach (e :: es) X.env)) (backToKw pos (keywordEach [] X.env))) := by rfl) :
    PE X (.Call (.Attribute o m apos) (e :: es) [] pos) (tMethX C m sp dvs E to_ t) := by
  refine ⟨fun pins st σ H Q I z => PySem.W.methodCall_KW (pl := pl) (thn (ho.run pins st σ H _ I z) fun q0 st1 ⟨y, H1, I1, ry, b, dx, fl, ey, eb, lk, z1⟩ => ?_) s3⟩
  subst ey
  cases (show q0 = Value.ref b from ry)
  exact getmeth_ok I1 eb cc mm lk (PySem.W.callWith_K (first := [.ref b]) (h₀ := X.base) I.ok.mod.kin mm.kp (thn (pa.run pos pins st1 σ H1 _ I1 z1) fun ws st2 ⟨vs, H2, I2, rs, z2⟩ => ⟨I2.kIn, run_fnSD (us := .ref b :: ws) (vs := .ref b :: vs) Fk rm bd dv (px σ) I2 (.cons rfl rs) z2⟩) s1 s2)
theorem run_makeX {pins : List (Addr × Obj)} {σ : L2.St} {H : Hp} {st : Shared} {Q : VK} {us : List Value} {vs : List V} (M : Mk X.K C f) (Fk : FnOk X.prog X.w X.K X.mg X.base CX k f fd ps sp) (rm : Room (k + 1) X.A) (bd : Binds X.K fd ps ds) (dv : Vals dvs ds)
    (px : PassesAt CX X σ (E σ)) (I : Inv X pins σ H st) (rs : Vals vs us)
    (z : ∀ x dx, H x = none → H dx = none → dx ≠ x → sp (.ref x :: (vs ++ dvs)) (upd (upd H dx (.own x)) x (.ins C dx [])) (fun v H2 => v = .non ∧ Q (.ref x) H2) (E σ)) :
    wpAny (model X.prog X.w) X.A (call (.ref C) us) (EP X pins σ Q) X.xe st := by
  have z1 := z (st.heap.objs.size + 1) st.heap.objs.size (I.hok.fresh (Nat.le_succ _)) (I.hok.fresh (Nat.le_refl _)) (Nat.ne_of_lt (Nat.lt_succ_self _))
  have J := Inv.made (C := C) I
  have rr : Vals (V.ref (st.heap.objs.size + 1) :: (vs ++ dvs)) (Value.ref (st.heap.objs.size + 1) :: (us ++ ds)) := .cons rfl (rs.append dv)
  have len : (Value.ref (st.heap.objs.size + 1) :: us ++ ds).length = ps.length := (rr.length.symm.trans (Fk.len _ _ _ _ z1))
  refine wpAny_call (make_map (f := f) I.kIn M.makes M.init (beq_iff_eq.mp M.fn) (codeAny_mono (Fk.run _ X.stack _ _ ⟨Value.ref (st.heap.objs.size + 1) :: us, []⟩ (Value.ref (st.heap.objs.size + 1) :: (us ++ ds)) _ _ (E σ) (rm.make C us []) (J.env0.make C us []) (bd _ (Value.ref (st.heap.objs.size + 1) :: us) J.kIn len) rr z1) fun r st' h => ?_))
  match r, h with
  | .error er, h => exact px pins _ _ er st' J h
  | .ok (.ret u), h =>
    obtain ⟨v, H', I3, rv, ev, q3⟩ := J.after h
    subst ev
    exact ⟨rv, ⟨V.ref (st.heap.objs.size + 1), H', I3, rfl, q3⟩⟩
  | .ok .next, h => exact h.elim
  | .ok .brk, h => exact h.elim
  | .ok .cont, h => exact h.elim
theorem pe_makeX (M : Mk X.K C f) (Fk : FnOk X.prog X.w X.K X.mg X.base CX k f fd ps sp) (rm : Room (k + 1) X.A) (gl : Gl X x) (gm : X.mg x = some (.ref C)) (bd : Binds X.K fd ps ds) (dv : Vals dvs ds) (px : ∀ σ, PassesAt CX X σ (E σ)) (pa : PA X (e :: es) t)
    (s0 : (x == ("__debug__" : Str)) = false := by decide) (s1 : starEach (e :: es) X.env = (false, eval e X.env) :: starEach es X.env := by rfl) (s2 : (backTo pos (starEach es X.env)).any (·.1) = false := by rfl) : PE X (.Call (.Name x p) (e :: es) [] pos) (tMakeX C sp dvs E t) :=
  ⟨fun pins st σ H Q I z => wpAny_Call_Name_kw (ld_glob I gl gm (PySem.W.callWith_K (h₀ := X.base) I.ok.mod.kin M.kp (thn (pa.run pos pins st σ H _ I z) fun us st1 ⟨vs, H1, I1, r, q⟩ => ⟨I1.kIn, run_makeX M Fk rm bd dv (px σ) I1 r q⟩) s1 s2) s0)⟩
end
end G
namespace G
open PySem PySem.Spec PyProof.Rows L2
/-! ## isinstance(e, (A, B)) of the error that a suite holds -/
theorem vals_of_refs : ∀ {bs : List Addr} {us : List Value}, Vals (bs.map V.ref) us → us = bs.map Value.ref
  | [], _, r => by cases r; rfl
  | b :: bs, _, r => by
    cases r with
    | cons h t =>
      rw [List.map_cons, ← vals_of_refs t]
      cases h
      rfl
def rIsET (K : PySem.W.Frag) (D a : Addr) : List V → Hp → VK → Prop := fun xs H Q => ∃ (tp : Addr) (cs : List Addr) (b : Bool), xs = [.ref a, .ref tp] ∧ SqT K H tp (cs.map V.ref) ∧ PySem.W.kitAny K (.ref D) (cs.map Value.ref) = some b ∧ Q (.bl b) H
theorem call_isET {X : Cx} {a D : Addr} {oe : Obj} {pn : List (Addr × Obj)} (C : ExcC X.K D) (hz : Zc (.ref D) none oe) (hf : ∃ vs, oe.data = .fields vs) : CallR (X.suite a ((a, oe) :: pn)) (.builtin "isinstance") (rIsET X.K D a) := by
  intro pins s σ H xs us Q I r h
  obtain ⟨tp, cs, b, rfl, hq, e, q⟩ := h
  obtain rfl : us = [.ref a, .ref tp] := vals_of_refs (bs := [a, tp]) r
  obtain ⟨hget, _⟩ := I.pin (a, oe) (List.mem_append.mpr (.inl List.mem_cons_self))
  obtain ⟨its, rv, ⟨⟨oc, od, oda, osl⟩, ho, hcl, n, hdt⟩, _⟩ := I.tuple hq
  obtain rfl := vals_of_refs rv
  dsimp only at hcl hdt
  subst hcl hdt
  obtain ⟨vs, hv⟩ := hf
  have J : PySem.W.InstAt s.heap a oe D none := by
    obtain ⟨oc, od, oda, osl⟩ := oe
    obtain ⟨h1, h2⟩ := hz
    dsimp only at h1 h2 hv
    subst h1 h2 hv
    exact ⟨hget, rfl, rfl, trivial⟩
  exact PySem.W.kia_tup (PySem.W.handS_kitx_exc C.hg C.hk C.hs C.hd C.ha C.hn C.ht C.hm) I.kIn J ho e (fun z => nomatch z) fun tk => ⟨.bl b, H, I.kept (t' := tk) fun _ _ z => z, rfl, q⟩
end G
namespace G
open PySem PySem.Spec PyProof.Rows L2 Evl
/-! ## own errors with a field: made, raised, asked for their class, their field read -/
/-- a look at the class -/
def oexB (K : PySem.W.Frag) (C : Addr) : Bool := match K.lookup C with
  | some ⟨.type "type", _, .cls cd, ⟨[_, _, _, _, some (.builtin n), _]⟩⟩ => (match cd.mro with
    | .ref C' :: bm => decide (C' = C) && (decide (n = "ValueError.__new__") && (!cd.hasDel && (cd.hasDict && PySem.HandSPX.refsVE bm)))
    | _ => false)
  | _ => false
theorem oexB_ok {K : PySem.W.Frag} {C : Addr} (h : oexB K C = true) : ∃ nm q N bs bm sn sub ab col dd k0 k1 k2 k3 k5, K.lookup C = some (excClassObj nm q C N bs bm true sn sub ab col dd k0 k1 k2 k3 k5 "ValueError.__new__") ∧ PySem.HandSPX.refsVE bm = true := by
  unfold oexB at h
  split at h
  · rename_i dd cd k0 k1 k2 k3 n k5 hl
    obtain ⟨nm, bs, mro, N, q, hd, sn, sub, ab, col, del⟩ := cd
    dsimp only at h
    split at h
    · rename_i C' bm
      simp only [Bool.and_eq_true, decide_eq_true_eq, Bool.not_eq_true'] at h
      obtain ⟨h1, h2, h3, h4, h5⟩ := h
      subst h1 h2 h3 h4
      exact ⟨nm, q, N, bs, bm, sn, sub, ab, col, dd, k0, k1, k2, k3, k5, hl, h5⟩
    · cases h
  · cases h
/-- an own error class whose `__init__(self, f)` says super().__init__(..) and keeps f -/
structure ErrF (P : Program) (K : PySem.W.Frag) (mg : Str → Option Value) (x qual : Str) (C f : Addr) (fd : FuncData) (st : Stmt) (fld : Str) : Prop where
  gC : mg x = some (.ref C)
  sup : ∃ file : Str, SUP.SupT K mg C f fd qual (defArgs st) (defBody st) (defScope st) file ∧ ((P.main.file : Str) == file) = true
  top : (P.main.scope.names.lookup ("super" : Str)).isSome = false
  bd : Binds K fd ["self", fld] []
  no : PySem.W.findIn K (.ref C) fld = some none
  isc : ExcC K C
/-- what such an `__init__` does -/
def spErr (C : Addr) (fld : Str) (ok : V → Hp → Prop) : Sp := fun vs H Q _ => ∃ (a : Addr) (y : V), vs = [.ref a, y] ∧ H a = some (exo a C none) ∧ ok y H ∧ ∀ d, H d = none → d ≠ a → Q .non (upd (upd H d (exd d [(fld, y)])) a (exo a C (some d)))
/-- a class that may be made: its `__init__` keeps this -/
structure Own1 (P : Program) (w : World) (K : PySem.W.Frag) (mg : Str → Option Value) (base : Heap) (x fld : Str) (C f : Addr) (fd : FuncData) (ok : V → Hp → Prop) : Prop where
  gC : mg x = some (.ref C)
  oex : OexC K C
  ini : PySem.W.findIn K (.ref C) "__init__" = some (some (.ref f))
  tI : PySem.W.typeIn K (.ref f) = some (.type "function")
  fn : FnOk P w K mg base CX0 1 f fd ["self", fld] (spErr C fld ok)
  bd : Binds K fd ["self", fld] []
theorem pmk_own1 {X : Cx} {x fld : Str} {C f : Addr} {fd : FuncData} {ok : V → Hp → Prop} {p pos : Pos} {e : Expr} {es : List Expr} {ta : TA} (O : Own1 X.prog X.w X.K X.mg X.base x fld C f fd ok) (hr : Room 2 X.A) (hg : Gl X x) (ha : PA X (e :: es) ta)
    (hdb : (x == ("__debug__" : Str)) = false := by decide) (he : starEach (e :: es) X.env = (false, eval e X.env) :: starEach es X.env := by rfl) (hpl : (backTo pos (starEach es X.env)).any (·.1) = false := by rfl) :
    PMk X (.Call (.Name x p) (e :: es) [] pos) (tMkO C (spErr C fld ok) [] ta) :=
  pmk_oex O.oex O.ini O.tI O.fn hr O.bd .nil pass0 hg O.gC ha hdb he hpl
/-- the reading of it, behind its argument -/
theorem mk1 {C : Addr} {fld : Str} {ok : V → Hp → Prop} {y : V} {H1 : Hp} {Q : XK} {E : XK} (hok : ∀ a, H1 a = none → ok y (upd H1 a (exo a C none))) (q : ∀ d, H1 d = none → Q (.ref C) (some d) (upd H1 d (.xd [(fld, y)]))) :
    [y].length ≤ 1000 ∧ ∀ a, H1 a = none → spErr C fld ok (.ref a :: ([y] ++ [])) (upd H1 a (exo a C none))
      (fun v H2 => v = .non ∧ ∃ (d : Addr) (fs : List (Str × V)), H2 a = some (exo a C (some d)) ∧ H2 d = some (exd d fs) ∧ H1 d = none ∧ Q (.ref C) (some d) (upd (del H2 a) d (.xd fs))) E := by
  refine ⟨(by show 1 ≤ 1000; decide), fun a na => ⟨a, y, rfl, upd_same, hok a na, fun d nd hda => ⟨rfl, d, [(fld, y)], upd_same, ?_, ?_, ?_⟩⟩⟩
  · rw [upd_ne hda, upd_same]
  · rw [upd_ne hda] at nd; exact nd
  · have nd' : H1 d = none := by rw [upd_ne hda] at nd; exact nd
    have e : upd (del (upd (upd (upd H1 a (exo a C none)) d (exd d [(fld, y)])) a (exo a C (some d))) a) d (.xd [(fld, y)]) = upd H1 d (.xd [(fld, y)]) := by
      funext b
      by_cases h1 : b = d
      · rw [h1, upd_same, upd_same]
      · rw [upd_ne h1, upd_ne h1]
        by_cases h2 : b = a
        · rw [h2, del_same, na]
        · rw [del_ne h2, upd_ne h2, upd_ne h1, upd_ne h2]
    rw [e]
    exact q d nd'
section
variable {X : Cx} {a D : Addr} {oe : Obj} {pn : List (Addr × Obj)} {dd : Option Addr}
/-- a caught error's dict stands -/
def DictS (dd : Option Addr) (H : Hp) : Prop := ∀ d, dd = some d → ∃ fs, H d = some (.xd fs)
def rIsED (K : PySem.W.Frag) (D a : Addr) (dd : Option Addr) : List V → Hp → VK → Prop := fun xs H Q => DictS dd H ∧ rIsE K D a xs H Q
def rIsETD (K : PySem.W.Frag) (D a : Addr) (dd : Option Addr) : List V → Hp → VK → Prop := fun xs H Q => DictS dd H ∧ rIsET K D a xs H Q
theorem instD {s : Shared} {pins : List (Addr × Obj)} {σ : L2.St} {H : Hp} (I : Inv (X.suite a ((a, oe) :: pn)) pins σ H s) (hz : Zc (.ref D) dd oe) (hf : ∃ vs, oe.data = .fields vs) (hd : DictS dd H) : ∃ od, PySem.W.InstAt s.heap a oe D od := by
  obtain ⟨hget, _⟩ := I.pin (a, oe) (List.mem_append.mpr (.inl List.mem_cons_self))
  obtain ⟨vs, hv⟩ := hf
  cases dd with
  | none => exact ⟨none, hget, hz.1, by unfold PySem.W.notCls; rw [hv] <;> rfl, by rw [hz.2]; trivial⟩
  | some d =>
    obtain ⟨fs, e⟩ := hd d rfl
    have hx : ObjOk X.prog X.w H s.heap d (.xd fs) := I.hok d _ e
    obtain ⟨mA, hns, hr⟩ := hx
    obtain ⟨od, ho, hl⟩ := lookIn_ns hns
    exact ⟨some od, hget, hz.1, by unfold PySem.W.notCls; rw [hv] <;> rfl, by rw [hz.2]; exact ho⟩
theorem kitD {K : PySem.W.Frag} {od : Option Obj} (C : ExcC K D) : PySem.W.KitX K (.ref a) (.ref D) (fun h => PySem.W.InstAt h a oe D od) :=
  PySem.W.kitx_exc (by obtain ⟨cd, hc, _⟩ := PySem.W.any_some C.hd; rw [hc]; rfl) C.hg C.hk C.hs C.ha C.hn C.ht C.hm
theorem call_isED (C : ExcC X.K D) (hz : Zc (.ref D) dd oe) (hf : ∃ vs, oe.data = .fields vs) : CallR (X.suite a ((a, oe) :: pn)) (.builtin "isinstance") (rIsED X.K D a dd) := by
  intro pins s σ H xs us Q I r h
  obtain ⟨hd, c, cv, b, rfl, hcv, e, q⟩ := h
  cases r with
  | cons rx rr =>
    cases rr with
    | cons rt rr =>
      cases rr
      cases rx
      have ec := hcv _ rt
      subst ec
      obtain ⟨od, J⟩ := instD I hz hf hd
      exact PySem.W.kia_one (kitD C) I.kIn J e (fun z => nomatch z) fun tk => ⟨.bl b, H, I.kept (t' := tk) fun _ _ z => z, rfl, q⟩
theorem call_isETD (C : ExcC X.K D) (hz : Zc (.ref D) dd oe) (hf : ∃ vs, oe.data = .fields vs) : CallR (X.suite a ((a, oe) :: pn)) (.builtin "isinstance") (rIsETD X.K D a dd) := by
  intro pins s σ H xs us Q I r h
  obtain ⟨hd, tp, cs, b, rfl, hq, e, q⟩ := h
  obtain rfl : us = [.ref a, .ref tp] := vals_of_refs (bs := [a, tp]) r
  obtain ⟨its, rv, ⟨⟨oc, od0, oda, osl⟩, ho, hcl, n, hdt⟩, _⟩ := I.tuple hq
  obtain rfl := vals_of_refs rv
  dsimp only at hcl hdt
  subst hcl hdt
  obtain ⟨od, J⟩ := instD I hz hf hd
  exact PySem.W.kia_tup (kitD C) I.kIn J ho e (fun z => nomatch z) fun tk => ⟨.bl b, H, I.kept (t' := tk) fun _ _ z => z, rfl, q⟩
theorem pe_isED {cls : Value} {e : Expr} {t : Addr → TE} (hz : Zc cls dd oe) (hf : ∃ vs, oe.data = .fields vs)
    (h : ∀ D : Addr, Zc (.ref D) dd oe → ExcC X.K D → PE (X.suite a ((a, oe) :: pn)) e (t D)) : PE (X.suite a ((a, oe) :: pn)) e (fun σ H Q => ∃ D : Addr, (cls = .ref D ∧ ExcC X.K D) ∧ t D σ H Q) :=
  pe_ex (p := fun D => cls = .ref D ∧ ExcC X.K D) fun D z => by
    obtain ⟨rfl, ic⟩ := z
    exact h D hz ic
end
end G
/-! ## tokens -/
namespace G
open PySem PySem.Spec PyProof.Rows L2 Evl TL
def sLET : Str := "abcdefghijklmnopqrstuvwxyz"
def sDIG : Str := "0123456789"
def sRUN : Str := "abcdefghijklmnopqrstuvwxyz0123456789_"
def kwds : List Str := ["cell", "pin", "module", "gate", "part", "reg", "edge", "out", "setup", "hold", "start"]
def sgns : List Str := ["(", ")", "{", "}", ",", ";", ":", "=", "->", "..", "&", "|", "^", "!"]
def isRun (c : Nat) : Bool := decide (c ∈ tl sRUN)
def isWord (T : List Nat) : Bool := match T with
  | [] => false
  | c :: _ => decide (c ∈ tl sLET) && T.all isRun
def isNum (T : List Nat) : Bool := match T with
  | [] => false
  | c :: _ => decide (T.length ≤ 9) && !(decide (c = 48) && !decide (T = [48])) && T.all fun d => decide (d ∈ tl sDIG)
def isName (T : List Nat) : Bool := isWord T && !decide (mk T ∈ kwds)
/-- a token that is a run -/
def RunTok (T : List Nat) : Prop := T ≠ [] ∧ (∀ c ∈ T, isRun c = true) ∧ (isWord T = true ∨ isNum T = true)
def SgnTok (T : List Nat) : Prop := mk T ∈ sgns
def NoRun (S : List Nat) : Prop := ∀ c r, S = c :: r → isRun c = false
/-- S is a text of these tokens -/
inductive Lx : List Nat → List (List Nat) → Prop where
  | nil : Lx [] []
  | sp {c : Nat} {S : List Nat} {ts : List (List Nat)} (h : c = 32 ∨ c = 10) (r : Lx S ts) : Lx (c :: S) ts
  | com {b S : List Nat} {ts : List (List Nat)} (h : 10 ∉ b) (hs : S = [] ∨ ∃ q, S = 10 :: q) (r : Lx S ts) : Lx (35 :: b ++ S) ts
  | run {T S : List Nat} {ts : List (List Nat)} (h : RunTok T) (hs : NoRun S) (r : Lx S ts) : Lx (T ++ S) (T :: ts)
  | sgn {T S : List Nat} {ts : List (List Nat)} (h : SgnTok T) (r : Lx S ts) : Lx (T ++ S) (T :: ts)
theorem dig_run : ∀ c ∈ tl sDIG, isRun c = true := by decide +kernel
theorem let_run : ∀ c ∈ tl sLET, isRun c = true := by decide +kernel
theorem run_not : isRun 32 = false ∧ isRun 10 = false ∧ isRun 35 = false := by decide +kernel
theorem sgn_facts : ∀ s ∈ sgns, tl s ≠ [] ∧ isRun ((tl s).headD 0) = false ∧ (tl s).headD 0 ≠ 32 ∧ (tl s).headD 0 ≠ 10 ∧ (tl s).headD 0 ≠ 35 ∧ (tl s).length ≤ 2 := by decide +kernel
theorem sgn_apart : ∀ s ∈ sgns, ∀ u ∈ sgns, s ≠ u → pre (tl s) (tl u) = false := by decide +kernel
theorem sgn_of {T : List Nat} (h : SgnTok T) : T ≠ [] ∧ isRun (T.headD 0) = false ∧ T.headD 0 ≠ 32 ∧ T.headD 0 ≠ 10 ∧ T.headD 0 ≠ 35 ∧ T.length ≤ 2 := sgn_facts (mk T) h
/-- where a run ends -/
def RunTo (L : List Nat) (i e : Nat) : Prop := i ≤ e ∧ e ≤ L.length ∧ (∀ k, i ≤ k → k < e → ∀ c, L[k]? = some c → isRun c = true) ∧ (∀ c, L[e]? = some c → isRun c = false)
theorem runTo_eq {L T S : List Nat} {i e : Nat} (h : RunTo L i e) (hL : L.drop i = T ++ S) (hT : ∀ c ∈ T, isRun c = true) (hS : NoRun S) (hi : i ≤ L.length) : e = i + T.length := by
  obtain ⟨h1, h2, h3, h4⟩ := h
  have hat : ∀ j, L[i + j]? = (T ++ S)[j]? := fun j => by rw [← hL, List.getElem?_drop]
  have hlen : L.length = i + (T.length + S.length) := by
    have := congrArg List.length hL
    rw [List.length_drop, List.length_append] at this
    omega
  by_cases c1 : e < i + T.length
  · have he : L[e]? = some T[e - i] := by
      have := hat (e - i)
      rw [show i + (e - i) = e by omega, List.getElem?_append_left (by omega), List.getElem?_eq_getElem (show e - i < T.length by omega)] at this
      exact this
    have := h4 _ he
    rw [hT _ (List.getElem_mem (by omega))] at this
    cases this
  · by_cases c2 : i + T.length < e
    · cases hS' : S with
      | nil => rw [hS'] at hlen; simp at hlen; omega
      | cons c r =>
        have he : L[i + T.length]? = some c := by rw [hat, List.getElem?_append_right (Nat.le_refl _), Nat.sub_self, hS']; rfl
        have := h3 (i + T.length) (by omega) c2 c he
        rw [hS c r hS'] at this
        cases this
    · omega
theorem isWord_mem {T : List Nat} {c : Nat} {r : List Nat} (e : T = c :: r) : isWord T = (decide (c ∈ tl sLET) && T.all isRun) := by subst e; rfl
theorem isNum_mem {T : List Nat} {c : Nat} {r : List Nat} (e : T = c :: r) : isNum T = (decide (T.length ≤ 9) && !(decide (c = 48) && !decide (T = [48])) && T.all fun d => decide (d ∈ tl sDIG)) := by subst e; rfl
theorem inV_strs {k : Str} {l : List Str} : inV (.str k) (l.map V.str) = decide (k ∈ l) := by
  unfold inV
  rw [List.any_map, Bool.eq_iff_iff, List.any_eq_true, decide_eq_true_iff]
  constructor
  · rintro ⟨y, hy, h⟩
    have h' : (y == k) = true := h
    rw [← eq_of_beq h']; exact hy
  · intro h
    exact ⟨k, h, (beq_self_eq_true k : (k == k) = true)⟩
structure TxtK (K : PySem.W.Frag) (mg : Str → Option Value) : Prop where
  len : mg "len" = none
  all : mg "all" = none
  LETTERS : ∃ t, mg "LETTERS" = some (.str sLET t)
  DIGITS : ∃ t, mg "DIGITS" = some (.str sDIG t)
  RUN : ∃ t, mg "RUN_CHARACTERS" = some (.str sRUN t)
  MOST : ∃ t, mg "MOST_DIGITS" = some (.int 9 t)
  SIG : ∃ a, mg "SIGNS" = some (.ref a) ∧ ∀ H, SqT K H a (sgns.map V.str)
section
variable {P : Program} {w : World} {K : PySem.W.Frag} {mg : Str → Option Value} {base : Heap}
def spIsWord : Sp := fun vs H Q _ => ∃ T : List Nat, vs = [.str (mk T)] ∧ T ≠ [] ∧ T.length ≤ 50000 ∧ ∀ H', Ex H H' → Q (.bl (isWord T)) H'
theorem all_bl {l : List Nat} {g : Nat → Bool} : (l.map fun c => V.bl (g c)) = (l.map g).map V.bl := by rw [List.map_map]; rfl
theorem sc_is_word : FnScope ["token", "character"] ["token"] (defScope s_is_word) := ⟨rfl, rfl, rfl, by decide +kernel, rfl, by decide +kernel, by decide +kernel⟩
theorem ok_is_word (D : Dfd K mg "is_word" s_is_word ["token"]) (T : TxtK K mg) : Has P w K mg base 1 "is_word" ["token"] spIsWord := by
  obtain ⟨tL, g_LETTERS⟩ := T.LETTERS
  obtain ⟨tR, g_RUN_CHARACTERS⟩ := T.RUN
  refine D.has fun f fd F => F.ok sc_is_word (fun vs H Q E h => ?_) (fun cdv A outer s H vs Q E hr h => ?_)
  · obtain ⟨T, rfl, _⟩ := h
    rfl
  · obtain ⟨T, rfl, hne, hlen, q⟩ := h
    obtain ⟨c, r, rfl⟩ := List.exists_cons_of_ne_nil hne
    have hs : (mk (c :: r)).length ≤ sizeLine := by rw [mk_len]; exact sz_of (by omega)
    refine ⟨_, (pss_one (ps_ret (pe_and (pe_cmpR op_in_sign (pe_ix ix_str (pv 0) pe_int (fun _ _ => rfl)) (gStr rfl g_LETTERS) rfl) (pe_one (pe_callB (cr_all rfl) (by rfl) T.all (by decide +kernel) (pa_cons (pe_lc (own := [("character", 1)]) (g := gName 1) (tt := tYes) rfl sc_is_word.nd (pi_str (pv 0)) (blkOk_by (N := ["token", "character"]) (sc := defScope s_is_word) (own := [("character", 1)]) (by decide +kernel)) (fun _ _ _ _ _ => (pg_name (i := 1) sc_is_word.nd rfl (.inl rfl))) (fun _ _ _ _ _ => pts_nil) (fun _ _ _ _ _ => (pe_cmpR op_in_sign (pv 1) (gStr rfl g_RUN_CHARACTERS) rfl))) pa_nil)))))), ?_⟩
    refine ⟨_, rfl, _, _, c, rfl, rfl, hs, atI_nat (j := 0) rfl, c, sLET, rfl, rfl, _, rfl, ?_⟩
    have key : isWord (c :: r) = (decide (c ∈ tl sLET) && (c :: r).all isRun) := rfl
    cases hc : decide (c ∈ tl sLET) with
    | false =>
      refine iteF ?_
      rw [hc] at key
      have := q H (Ex.refl H)
      rw [key] at this
      exact this
    | true =>
      refine iteT ⟨_, rfl, _, rfl, fun L nL => lcSm (fun d => .bl (isRun d)) (by rw [mk_len]; omega) (fun _ => rfl) (fun i d H1 _ _ Q q => ⟨_, rfl, d, sRUN, rfl, rfl, q⟩) ?_⟩
      refine ⟨L, ((tl (mk (c :: r))).map isRun), rfl, SqL.of ?_, ?_⟩
      · rw [upd_same, all_bl]
      · rw [hc] at key
        have := q _ (Ex.new (o := .lst ((tl (mk (c :: r))).map fun d => V.bl (isRun d))) nL)
        rw [key, Bool.true_and] at this
        have e : ((tl (mk (c :: r))).map isRun).all id = (c :: r).all isRun := by rw [List.all_map]; rfl
        rw [e]
        exact this
def spIsNum : Sp := fun vs H Q _ => ∃ T : List Nat, vs = [.str (mk T)] ∧ T ≠ [] ∧ T.length ≤ 50000 ∧ ∀ H', Ex H H' → Q (.bl (isNum T)) H'
theorem sc_is_numeral : FnScope ["token", "character"] ["token"] (defScope s_is_numeral) := ⟨rfl, rfl, rfl, by decide +kernel, rfl, by decide +kernel, by decide +kernel⟩
theorem ok_is_numeral (D : Dfd K mg "is_numeral" s_is_numeral ["token"]) (T : TxtK K mg) : Has P w K mg base 1 "is_numeral" ["token"] spIsNum := by
  obtain ⟨tL, g_DIGITS⟩ := T.DIGITS
  obtain ⟨tM, g_MOST_DIGITS⟩ := T.MOST
  refine D.has fun f fd F => F.ok sc_is_numeral (fun vs H Q E h => ?_) (fun cdv A outer s H vs Q E hr h => ?_)
  · obtain ⟨T, rfl, _⟩ := h
    rfl
  · obtain ⟨T, rfl, hne, hlen, q⟩ := h
    obtain ⟨c, r, rfl⟩ := List.exists_cons_of_ne_nil hne
    have hs : (mk (c :: r)).length ≤ sizeLine := by rw [mk_len]; exact sz_of (by omega)
    have key : isNum (c :: r) = (decide ((c :: r).length ≤ 9) && !(decide (c = 48) && !decide (c :: r = [48])) && (c :: r).all fun d => decide (d ∈ tl sDIG)) := rfl
    have no : isNum (c :: r) = false → Q (.bl false) H := fun e => by have := q H (Ex.refl H); rw [e] at this; exact this
    refine ⟨_, (pss_cut (ps_if (PW.pt (pw_or (pt_cmpR op_gt (pe_callB call_len_str (by rfl) T.len (by decide +kernel) (pa_cons (pv 0) pa_nil)) (gInt rfl g_MOST_DIGITS) (nomark _)) (pw_or1 (PW.pt (pw_and (pt_cmpR op_eq (pe_ix ix_str (pv 0) pe_int (fun _ _ => rfl)) pe_str (nomark _)) (pw_and1 (pt_cmpR op_ne (pv 0) pe_str (nomark _))))))))
      (pss_one (ps_ret pe_bl))
      pss_nil)
    (pss_one (ps_ret (pe_callB (cr_all rfl) (by rfl) T.all (by decide +kernel) (pa_cons (pe_lc (own := [("character", 1)]) (g := gName 1) (tt := tYes) rfl sc_is_numeral.nd (pi_str (pv 0)) (blkOk_by (N := ["token", "character"]) (sc := defScope s_is_numeral) (own := [("character", 1)]) (by decide +kernel)) (fun _ _ _ _ _ => (pg_name (i := 1) sc_is_numeral.nd rfl (.inl rfl))) (fun _ _ _ _ _ => pts_nil) (fun _ _ _ _ _ => (pe_cmpR op_in_sign (pv 1) (gStr rfl g_DIGITS) rfl))) pa_nil))))), ?_⟩
    refine ⟨fun σ H' => σ = [some (.str (mk (c :: r))), none] ∧ H' = H ∧ (c :: r).length ≤ 9 ∧ (decide (c = 48) && !decide (c :: r = [48])) = false, ?_, ?_⟩
    · refine ⟨_, rfl, _, rfl, hs, _, _, rfl, rfl, _, rfl, ite2 (fun e => ?_) (fun e => ?_)⟩
      · refine iteT (no ?_)
        have h1 := of_decide_eq_true e
        rw [mk_len] at h1
        rw [key, decide_eq_false (by omega)]; rfl
      · have h9 : (c :: r).length ≤ 9 := by
          have : ¬ (9 : Int) < ((mk (c :: r)).length : Int) := fun z => e (decide_eq_true z)
          rw [mk_len] at this; omega
        refine ⟨_, rfl, _, _, c, rfl, rfl, hs, atI_nat (j := 0) rfl, rfl, _, rfl, ?_⟩
        have e48 : decide (V.str (⟨#[c]⟩ : Str) = V.str "0") = decide (c = 48) := by
          show decide (V.str (mk [c]) = V.str (mk [48])) = _
          rw [decV_mk]; by_cases h : c = 48 <;> simp [h]
        rw [e48]
        cases hc : decide (c = 48) with
        | false => exact iteF (iteF ⟨rfl, rfl, h9, rfl⟩)
        | true =>
          refine iteT ⟨_, rfl, rfl, _, rfl, ?_⟩
          have e0 : decide (V.str (mk (c :: r)) = V.str "0") = decide (c :: r = [48]) := decV_mk (c :: r) [48]
          rw [e0]
          cases hd : decide (c :: r = [48]) with
          | true => exact iteF ⟨rfl, rfl, h9, rfl⟩
          | false =>
            refine iteT (no ?_)
            rw [key, hc, hd, decide_eq_true h9]; rfl
    · rintro σ H' ⟨rfl, rfl, h9, hz⟩
      refine ⟨_, rfl, _, rfl, fun L nL => lcSm (fun d => .bl (decide (d ∈ tl sDIG))) (by rw [mk_len]; omega) (fun _ => rfl) (fun i d H1 _ _ Q q => ⟨_, rfl, d, sDIG, rfl, rfl, q⟩) ?_⟩
      refine ⟨L, ((tl (mk (c :: r))).map fun d => decide (d ∈ tl sDIG)), rfl, SqL.of ?_, ?_⟩
      · rw [upd_same, all_bl]
      · have := q _ (Ex.new (o := .lst ((tl (mk (c :: r))).map fun d => V.bl (decide (d ∈ tl sDIG)))) nL)
        rw [key, hz, decide_eq_true h9] at this
        have e : ((tl (mk (c :: r))).map fun d => decide (d ∈ tl sDIG)).all id = (c :: r).all fun d => decide (d ∈ tl sDIG) := by rw [List.all_map]; rfl
        show Q (.bl (((tl (mk (c :: r))).map fun d => decide (d ∈ tl sDIG)).all id)) _
        rw [e]
        exact this
def spRunEnd : Sp := fun vs H Q _ => ∃ (x : Str) (i : Nat), vs = [.str x, .int i] ∧ i ≤ x.length ∧ x.length ≤ 50000 ∧ ∀ e : Nat, RunTo (tl x) i e → Q (.int e) H
theorem sc_run_end : FnScope ["text", "at", "end"] ["text", "at"] (defScope s_run_end) := ⟨rfl, rfl, rfl, by decide +kernel, rfl, by decide +kernel, by decide +kernel⟩
theorem ok_run_end (D : Dfd K mg "_run_end" s_run_end ["text", "at"]) (T : TxtK K mg) : Has P w K mg base 1 "_run_end" ["text", "at"] spRunEnd := by
  obtain ⟨tR, g_RUN_CHARACTERS⟩ := T.RUN
  refine D.has fun f fd F => F.ok sc_run_end (fun vs H Q E h => ?_) (fun cdv A outer s H vs Q E hr h => ?_)
  · obtain ⟨_, _, rfl, _⟩ := h
    rfl
  · obtain ⟨x, i, rfl, hi, hlen, q⟩ := h
    have hs : x.length ≤ sizeLine := sz_of (by omega)
    refine ⟨_, (pss_cons (ps_set (i := 2) sc_run_end.nd rfl (.inl rfl) (pv 1))
    (pss_cons (ps_while PassesOwn.never (PW.pt (pw_and (pt_cmpR op_lt (pv 2) (pe_callB call_len_str (by rfl) T.len (by decide +kernel) (pa_cons (pv 0) pa_nil)) (nomark _)) (pw_and1 (pt_cmpR op_in_sign (pe_ix ix_str (pv 0) (pv 2) (fun _ _ => rfl)) (gStr rfl g_RUN_CHARACTERS) rfl))))
      (pss_one (ps_aug (i := 2) sc_run_end.nd rfl (.inl rfl) pe_int ip_add)))
    (pss_one (ps_ret (pv 2))))), ?_⟩
    refine ⟨_, rfl, fun m σ H' => H' = H ∧ ∃ e : Nat, σ = [some (.str x), some (.int i), some (.int e)] ∧ i ≤ e ∧ e ≤ x.length ∧ m = x.length - e ∧ ∀ k, i ≤ k → k < e → ∀ c, (tl x)[k]? = some c → isRun c = true, ⟨_, rfl, i, rfl, by omega, hi, rfl, fun k h1 h2 => by omega⟩, ?_⟩
    rintro m σ H' ⟨rfl, e, rfl, h1, h2, rfl, h3⟩
    refine ⟨_, rfl, _, rfl, _, rfl, hs, _, _, rfl, rfl, _, rfl, ite2 (fun c1 => ?_) (fun c1 => ?_)⟩
    · have he : e < x.length := by have := of_decide_eq_true c1; omega
      have het : e < (tl x).length := by rw [← len_tl]; exact he
      refine ⟨_, rfl, _, rfl, _, _, (tl x)[e], rfl, rfl, hs, atI_nat (List.getElem?_eq_getElem het), (tl x)[e], sRUN, rfl, rfl, _, rfl, ?_⟩
      cases hc : decide ((tl x)[e] ∈ tl sRUN) with
      | true =>
        refine iteT ⟨fun σ' H'' => H'' = H' ∧ σ' = [some (.str x), some (.int i), some (.int ((e + 1 : Nat) : Int))], ?_, ?_⟩
        · rintro σ' H'' ⟨rfl, rfl⟩
          refine ⟨x.length - (e + 1), by omega, rfl, e + 1, rfl, by omega, by omega, rfl, fun k k1 k2 c hk => ?_⟩
          by_cases ke : k = e
          · subst ke
            rw [List.getElem?_eq_getElem het] at hk
            rw [← Option.some.inj hk]; exact hc
          · exact h3 k k1 (by omega) c hk
        · exact ⟨_, rfl, _, _, rfl, rfl, rfl, rfl⟩
      | false =>
        refine iteF ⟨_, rfl, q e ⟨h1, by rw [← len_tl]; exact h2, h3, fun c hk => ?_⟩⟩
        rw [List.getElem?_eq_getElem het] at hk
        rw [← Option.some.inj hk]; exact hc
    · have he : e = x.length := by
        have : ¬ (e : Int) < (x.length : Int) := fun z => c1 (decide_eq_true z)
        omega
      refine iteF ⟨_, rfl, q e ⟨h1, by rw [← len_tl]; exact h2, h3, fun c hk => ?_⟩⟩
      rw [List.getElem?_eq_none (by rw [← len_tl]; omega)] at hk
      cases hk
end
end G
namespace G
open PySem PySem.Spec PyProof.Rows L2 Evl TL
section
variable {P : Program} {w : World} {K : PySem.W.Frag} {mg : Str → Option Value} {base : Heap}
def okAt : V → Hp → Prop := fun y _ => ∃ n : Nat, y = .int (n : Int) ∧ n ≤ 50000
theorem own_BadToken {C f : Addr} {fd : FuncData} (F : ErrF P K mg "BadToken" "BadToken.__init__" C f fd s_BadToken_init "at") : Own1 P w K mg base "BadToken" "at" C f fd okAt := by
  obtain ⟨file, T, hfile⟩ := F.sup
  refine ⟨F.gC, T.oex, T.ini, T.tI, ?_, F.bd⟩
  have SN : NdefX.NScope ["self", "at", "__class__"] ["self", "at"] ["__class__"] (defScope s_BadToken_init) := NdefX.nscope_by (by decide +kernel)
  refine SUP.fn_sup (N := ["self", "at", "__class__"]) T hfile F.top rfl SN rfl rfl (by decide +kernel) (by decide +kernel) (fun vs H Q E h => ?_) (fun cda cc A outer s H vs Q E hr h => ?_) _ (hps := by decide)
  · obtain ⟨_, _, rfl, _⟩ := h
    rfl
  · obtain ⟨a, y, rfl, ha, ⟨n, rfl, hn⟩, q⟩ := h
    have em : (Str.ofString (toString ((n : Nat) : Int))) = mk (numL n) := ext_tl (tl_num n)
    have hl := numL_len (n := n) (k := 9) (by decide) (by omega)
    have hg : (n : Int).natAbs.log2 < 1920 := by
      have : (n : Int).natAbs < 2 ^ 30 := by rw [Int.natAbs_natCast]; omega
      have := PySem.Flt.log2_lt_of (by decide : 0 < 30) this
      omega
    refine ⟨_, _, pa_cons (pe_joined (.cons pe_str (.cons (pe_fmt (pe_var (i := 1) rfl (.inl rfl))) .nil))) pa_nil, pss_one (ps_ost (pe_var (i := 0) rfl (.inl rfl)) (pe_var (i := 1) rfl (.inl rfl))), a, rfl, ha, ?_⟩
    refine ⟨_, rfl, by decide, _, rfl, .inr ⟨n, rfl, hg, _, rfl, ?_, (by show 1 ≤ 1000; decide), ha, _, rfl, _, rfl, a, C, rfl, T.oex, F.no, .inl ⟨ha, fun d nd hda => q d nd hda⟩⟩⟩
    rw [em]
    refine sz_of ?_
    rw [Str.length_append, Str.length_append, mk_len]
    show 0 + 35 + _ ≤ _
    omega
end
end G
namespace G
open PySem PySem.Spec PyProof.Rows L2 Evl TL
/-! ## where no token can be taken -/
def bads : List Nat := [34, 36, 39, 42, 43, 47, 60, 62, 63, 64, 91, 92, 93, 126, 45, 46, 65, 66, 90]
def BadTok (W : List Nat) : Prop := (W ≠ [] ∧ (∀ c ∈ W, isRun c = true) ∧ isWord W = false ∧ isNum W = false) ∨ ∃ c, W = [c] ∧ c ∈ bads
theorem bads_facts : ∀ c ∈ bads, isRun c = false ∧ c ≠ 32 ∧ c ≠ 10 ∧ c ≠ 35 := by decide +kernel
theorem bads_sign : ∀ c ∈ bads, ∀ u ∈ sgns, pre (tl u) [c, 32] = false := by decide +kernel
theorem bad_ne {W : List Nat} (h : BadTok W) : W ≠ [] := by
  rcases h with h | ⟨c, rfl, _⟩
  · exact h.1
  · exact List.cons_ne_nil _ _
theorem bad_head {W : List Nat} {c : Nat} {r : List Nat} (h : BadTok W) (e : W = c :: r) : c ≠ 32 ∧ c ≠ 10 ∧ c ≠ 35 := by
  rcases h with h | ⟨d, rfl, hd⟩
  · have hcr := h.2.1 c (by rw [e]; exact List.mem_cons_self ..)
    refine ⟨fun h => ?_, fun h => ?_, fun h => ?_⟩
    · rw [h, run_not.1] at hcr; cases hcr
    · rw [h, run_not.2.1] at hcr; cases hcr
    · rw [h, run_not.2.2] at hcr; cases hcr
  · injection e with e1 _
    subst e1
    exact (bads_facts _ hd).2
theorem bad_sign {W R : List Nat} (h : BadTok W) {u : Str} (hu : u ∈ sgns) : pre (tl u) (W ++ 32 :: R) = false := by
  cases hp : pre (tl u) (W ++ 32 :: R) with
  | false => rfl
  | true =>
    obtain ⟨r, e⟩ := pre_iff.mp hp
    obtain ⟨f1, f2, _, _, _, f6⟩ := sgn_facts u hu
    rcases h with h | ⟨c, rfl, hc⟩
    · obtain ⟨c, q, rfl⟩ := List.exists_cons_of_ne_nil h.1
      cases hq : tl u with
      | nil => exact absurd hq f1
      | cons a b =>
        rw [hq] at e f2
        have : c = a := by injection e
        have hcr := h.2.1 c (List.mem_cons_self ..)
        rw [this] at hcr
        have f2' : isRun a = false := f2
        rw [f2'] at hcr; cases hcr
    · have := bads_sign c hc u hu
      have h2 : pre (tl u) [c, 32] = true := pre_iff.mpr ⟨r.take (2 - (tl u).length), by
        have e2 := congrArg (List.take 2) e
        rw [List.take_append (l₁ := tl u), List.take_of_length_le f6] at e2
        exact e2⟩
      rw [h2] at this; cases this
section
variable {P : Program} {w : World} {K : PySem.W.Frag} {mg : Str → Option Value} {base : Heap}
/-- a comment ends ahead of the next line feed, or with the text -/
def spLineEnd : Sp := fun vs H Q _ => ∃ (x : Str) (i : Nat) (b S : List Nat), vs = [.str x, .int i] ∧ x.length ≤ 50000 ∧ i ≤ x.length ∧ (tl x).drop i = b ++ S ∧ 10 ∉ b ∧ (S = [] ∨ ∃ q, S = 10 :: q) ∧ Q (.int ((i + b.length : Nat) : Int)) H
theorem sc_line_end : FnScope ["text", "at", "end"] ["text", "at"] (defScope s_line_end) := ⟨rfl, rfl, rfl, by decide +kernel, rfl, by decide +kernel, by decide +kernel⟩
theorem ok_line_end (D : Dfd K mg "_line_end" s_line_end ["text", "at"]) (T : TxtK K mg) : Has P w K mg base 1 "_line_end" ["text", "at"] spLineEnd := by
  refine D.has fun f fd F => F.ok sc_line_end (fun vs H Q E h => ?_) (fun cdv A outer s H vs Q E hr h => ?_)
  · obtain ⟨_, _, _, _, rfl, _⟩ := h
    rfl
  · obtain ⟨x, i, b, S, rfl, hlen, hix, hd, hb, hS, q⟩ := h
    have hs : x.length ≤ sizeLine := sz_of (by omega)
    have hl : x.length = i + (b.length + S.length) := by
      have := congrArg List.length hd
      rw [List.length_drop, List.length_append, ← len_tl] at this
      omega
    refine ⟨_, (pss_cons (ps_set (i := 2) sc_line_end.nd rfl (.inl rfl) (pe_bm PySem.F.plainAttrs_str PySem.F.slot_str_find PySem.F.type_str_find mt_find3 (pv 0) (pa_cons pe_str (pa_cons (pv 1) pa_nil))))
    (pss_one (ps_ret (pe_ifExp (pt_cmpR op_lt (pv 2) pe_int (nomark _)) (pe_callB call_len_str (by rfl) T.len (by decide +kernel) (pa_cons (pv 0) pa_nil)) (pv 2))))), ?_⟩
    refine ⟨_, rfl, rfl, _, rfl, x, mk [10], (i : Int), rfl, rfl, ?_⟩
    rcases hS with rfl | ⟨q', rfl⟩
    · rw [find_miss (x := x) (c := 10) (i := i) (by rw [hd, List.append_nil]; exact hb)]
      refine ⟨_, rfl, _, _, rfl, rfl, _, rfl, iteT ⟨_, rfl, x, rfl, hs, ?_⟩⟩
      rw [hl, List.length_nil, Nat.add_zero]
      exact q
    · rw [find_hit (x := x) (c := 10) (i := i) hd hb]
      refine ⟨_, rfl, _, _, rfl, rfl, _, rfl, ite2 (fun e => ?_) (fun e => ⟨_, rfl, q⟩)⟩
      have := of_decide_eq_true e
      omega

/-- the token at a place, or the error -/
def spTokenAtB (B : Addr) : Sp := fun vs H Q E => ∃ (x : Str) (i : Nat), vs = [.str x, .int i] ∧ x.length ≤ 50000 ∧ i ≤ x.length ∧
  ((∃ T S, (tl x).drop i = T ++ S ∧ ((RunTok T ∧ NoRun S) ∨ SgnTok T) ∧ ∀ H', Ex H H' → Q (.str (mk T)) H') ∨
   (∃ W R, (tl x).drop i = W ++ 32 :: R ∧ BadTok W ∧ ∀ H1 d, Ex H H1 → H1 d = none → E (.ref B) (some d) (upd H1 d (.xd [("at", .int i)]))))
theorem sc_token_at : FnScope ["text", "at", "run", "sign"] ["text", "at"] (defScope s_token_at) := ⟨rfl, rfl, rfl, by decide +kernel, rfl, by decide +kernel, by decide +kernel⟩
theorem ok_token_atB {B fB : Addr} {dB : FuncData} (OB : Own1 P w K mg base "BadToken" "at" B fB dB okAt) (D : Dfd K mg "_token_at" s_token_at ["text", "at"]) (T : TxtK K mg) (C1 : Has P w K mg base 1 "_run_end" ["text", "at"] spRunEnd) (C2 : Has P w K mg base 1 "is_word" ["token"] spIsWord) (C3 : Has P w K mg base 1 "is_numeral" ["token"] spIsNum) :
    HasX P w K mg base 3 "_token_at" ["text", "at"] (spTokenAtB B) := by
  obtain ⟨f_run_end, d_run_end, G_run_end, g_run_end, k_run_end, b_run_end⟩ := C1
  obtain ⟨f_is_word, d_is_word, G_is_word, g_is_word, k_is_word, b_is_word⟩ := C2
  obtain ⟨f_is_numeral, d_is_numeral, G_is_numeral, g_is_numeral, k_is_numeral, b_is_numeral⟩ := C3
  obtain ⟨aS, g_SIGNS, hSg⟩ := T.SIG
  obtain ⟨f, fd, F, gf, bf⟩ := D
  refine ⟨f, fd, F.okX sc_token_at (fun vs H Q E h => ?_) (fun cdv A outer s H vs Q E hr h => ?_), gf, F.kp, bf⟩
  · obtain ⟨_, _, rfl, _⟩ := h
    rfl
  · obtain ⟨x, i, rfl, hlen, hix, hcase⟩ := h
    have hs : x.length ≤ sizeLine := sz_of (by omega)
    refine ⟨_, (pss_cons (ps_set (i := 2) sc_token_at.nd rfl (.inl rfl) (pe_slice sl_str (pv 0) (po_some (pv 1)) (po_some (pe_call G_run_end (hr.mono (by omega)) (by rfl) g_run_end k_run_end b_run_end .nil pass0 (pa_cons (pv 0) (pa_cons (pv 1) pa_nil))))))
    (pss_cut (ps_if (PW.pt (pw_and (pt_truth (pv 2) (by intro _; rfl)) (pw_and1 (PW.pt (pw_or (pt_val (pe_call G_is_word (hr.mono (by omega)) (by rfl) g_is_word k_is_word b_is_word .nil pass0 (pa_cons (pv 2) pa_nil))) (pw_or1 (pt_val (pe_call G_is_numeral (hr.mono (by omega)) (by rfl) g_is_numeral k_is_numeral b_is_numeral .nil pass0 (pa_cons (pv 2) pa_nil)))))))))
      (pss_one (ps_ret (pv 2)))
      pss_nil)
    (pss_cons (ps_for (passes_of rfl) rfl (pi_tup (gRef rfl g_SIGNS)) (pg_name (i := 3) sc_token_at.nd rfl (.inl rfl))
      (pss_one (ps_if (pt_val (pe_bm PySem.F.plainAttrs_str PySem.F.slot_str_startswith PySem.F.type_str_startswith mt_startswith3 (pv 0) (pa_cons (pv 3) (pa_cons (pv 1) pa_nil))))
        (pss_one (ps_ret (pv 3)))
        pss_nil)))
    (pss_one (ps_raise rfl (takes_of rfl rfl rfl rfl) (pmk_own1 OB (hr.mono (by omega)) rfl (pa_cons (pv 1) pa_nil))))))), ?_⟩
    refine ⟨_, rfl, _, rfl, _, rfl, _, rfl, _, rfl, x, i, rfl, hix, hlen, fun e he => ⟨_, rfl, x, rfl, hs, ?_⟩⟩
    have hcut : cutS x (some (i : Int)) (some (e : Int)) = mk (((tl x).drop i).take (e - i)) := cut_nat he.1 (by rw [len_tl]; exact he.2.1)
    rw [hcut]
    rcases hcase with ⟨T, S, hd, hT, q⟩ | ⟨W, R, hd, hW, q⟩
    case inr =>
      have hl : x.length = i + (W.length + (R.length + 1)) := by
        have := congrArg List.length hd
        rw [List.length_drop, List.length_append, List.length_cons, ← len_tl] at this
        omega
      have hns : NoRun (32 :: R) := fun d q z => by injection z with z1 _; rw [← z1]; exact run_not.1
      have hV : ∃ U : List Nat, ((tl x).drop i).take (e - i) = U ∧ (U = [] ∨ (U ≠ [] ∧ isWord U = false ∧ isNum U = false ∧ U.length ≤ 50000)) := by
        rcases hW with ⟨w1, w2, w3, w4⟩ | ⟨c, rfl, hc⟩
        · have ee := runTo_eq he hd w2 hns (by rw [← len_tl]; exact hix)
          exact ⟨W, by rw [hd, ee, show i + W.length - i = W.length by omega, List.take_left' rfl], .inr ⟨w1, w3, w4, by omega⟩⟩
        · refine ⟨[], ?_, .inl rfl⟩
          have ee : e = i := by
            by_cases c1 : i < e
            · have hc2 : (tl x)[i]? = some c := by
                have := List.getElem?_drop (xs := tl x) (i := i) (j := 0)
                rw [hd, Nat.add_zero] at this
                rw [← this]; rfl
              have := he.2.2.1 i (Nat.le_refl _) c1 c hc2
              rw [(bads_facts c hc).1] at this; cases this
            · have := he.1; omega
          rw [ee, Nat.sub_self, List.take_zero]
      obtain ⟨U, eV, hV⟩ := hV
      rw [eV]
      refine ⟨fun σ H' => σ = [some (.str x), some (.int i), some (.str (mk U)), none] ∧ Ex H H', ?_, ?_⟩
      · rcases hV with rfl | ⟨v1, v2, v3, v4⟩
        · exact ⟨_, rfl, false, ⟨by rw [mk_len]; exact Nat.zero_le _, rfl⟩, iteF (iteF ⟨rfl, Ex.refl _⟩)⟩
        · have h0 : ((mk U).length : Int) != 0 := by
            have : 0 < U.length := List.length_pos_iff.mpr v1
            exact bne_iff_ne.mpr (by rw [mk_len]; omega)
          refine ⟨_, rfl, true, ⟨by rw [mk_len]; exact sz_of (by omega), h0.symm⟩, iteT ⟨_, rfl, U, rfl, v1, v4, fun H1 e1 => ⟨_, rfl, ?_⟩⟩⟩
          rw [v2]
          refine iteF ⟨_, rfl, U, rfl, v1, v4, fun H2 e2 => ⟨_, rfl, ?_⟩⟩
          rw [v3]
          exact iteF ⟨rfl, e1.trans e2⟩
      · rintro σ H' ⟨rfl, EH⟩
        refine ⟨aS, rfl, ⟨_, hSg H'⟩, for_tup (K := K) (a := aS) (xs := sgns.map V.str) (fun j σ H2 => H2 = H' ∧ ∃ z : Option V, σ = [some (.str x), some (.int i), some (.str (mk U)), z])
          ⟨rfl, none, rfl⟩ (fun _ _ H2 _ _ => hSg H2) ?_ ?_⟩
        · rintro j y σ H2 hy ⟨rfl, z, rfl⟩
          rw [List.getElem?_map] at hy
          cases hj : sgns[j]? with
          | none => rw [hj] at hy; cases hy
          | some u =>
            rw [hj] at hy
            have ey : V.str u = y := Option.some.inj hy
            subst ey
            have hu : u ∈ sgns := List.mem_of_getElem? hj
            refine ⟨_, rfl, rfl, _, rfl, _, rfl, x, u, (i : Int), rfl, rfl, _, rfl, ?_⟩
            rw [starts_at (sgn_facts u hu).1, hd, bad_sign hW hu]
            exact iteF ⟨rfl, _, rfl⟩
        · rintro σ H2 ⟨rfl, z, rfl⟩
          exact ⟨_, rfl, mk1 (fun a na => ⟨i, rfl, by omega⟩) fun d nd => q H2 d EH nd⟩
    have hl : x.length = i + (T.length + S.length) := by
      have := congrArg List.length hd
      rw [List.length_drop, List.length_append, ← len_tl] at this
      omega
    rcases hT with ⟨hrun, hS⟩ | hsg
    · -- a run
      have ee := runTo_eq he hd hrun.2.1 hS (by rw [← len_tl]; exact hix)
      have et : ((tl x).drop i).take (e - i) = T := by rw [hd, ee, show i + T.length - i = T.length by omega, List.take_left' rfl]
      rw [et]
      refine ⟨fun _ _ => False, ?_, fun _ _ z => z.elim⟩
      have hTl : T.length ≤ 50000 := by omega
      have h0 : ((mk T).length : Int) != 0 := by
        have : 0 < T.length := List.length_pos_iff.mpr hrun.1
        exact bne_iff_ne.mpr (by rw [mk_len]; omega)
      refine ⟨_, rfl, true, ⟨by rw [mk_len]; exact sz_of (by omega), h0.symm⟩, iteT ⟨_, rfl, T, rfl, hrun.1, hTl, fun H1 e1 => ⟨_, rfl, ?_⟩⟩⟩
      cases hw : isWord T with
      | true => exact iteT (iteT ⟨_, rfl, q H1 e1⟩)
      | false =>
        refine iteF ⟨_, rfl, T, rfl, hrun.1, hTl, fun H2 e2 => ⟨_, rfl, ?_⟩⟩
        have hn : isNum T = true := by
          rcases hrun.2.2 with z | z
          · rw [hw] at z; cases z
          · exact z
        rw [hn]
        exact iteT ⟨_, rfl, q H2 (e1.trans e2)⟩
    · -- a sign
      obtain ⟨hne, hnr, _, _, _, _⟩ := sgn_of hsg
      obtain ⟨c, r, rfl⟩ := List.exists_cons_of_ne_nil hne
      have ee : e = i := by
        by_cases c1 : i < e
        · have hc : (tl x)[i]? = some c := by
            have := List.getElem?_drop (xs := tl x) (i := i) (j := 0)
            rw [hd, Nat.add_zero] at this
            rw [← this]; rfl
          have := he.2.2.1 i (Nat.le_refl _) c1 c hc
          have hnr' : isRun c = false := hnr
          rw [hnr'] at this; cases this
        · have := he.1; omega
      rw [ee, Nat.sub_self, List.take_zero]
      refine ⟨fun σ H' => σ = [some (.str x), some (.int i), some (.str (mk [])), none] ∧ H' = H, ?_, ?_⟩
      · exact ⟨_, rfl, false, ⟨by rw [mk_len]; exact Nat.zero_le _, rfl⟩, iteF (iteF ⟨rfl, rfl⟩)⟩
      · rintro σ H' ⟨rfl, rfl⟩
        refine ⟨aS, rfl, ⟨_, hSg H'⟩, for_tup (K := K) (a := aS) (xs := sgns.map V.str) (fun j σ H2 => H2 = H' ∧ (∀ k, k < j → sgns[k]? ≠ some (mk (c :: r))) ∧ ∃ z : Option V, σ = [some (.str x), some (.int i), some (.str (mk [])), z])
          ⟨rfl, fun k hk => by omega, none, rfl⟩ (fun _ _ H2 _ _ => hSg H2) ?_ ?_⟩
        · rintro j y σ H2 hy ⟨rfl, hno, z, rfl⟩
          rw [List.getElem?_map] at hy
          cases hj : sgns[j]? with
          | none => rw [hj] at hy; cases hy
          | some u =>
            rw [hj] at hy
            have ey : V.str u = y := Option.some.inj hy
            subst ey
            have hu : u ∈ sgns := List.mem_of_getElem? hj
            refine ⟨_, rfl, rfl, _, rfl, _, rfl, x, u, (i : Int), rfl, rfl, _, rfl, ?_⟩
            rw [starts_at (sgn_facts u hu).1, hd]
            by_cases hc : u = mk (c :: r)
            · have hp : pre (tl u) (c :: r ++ S) = true := pre_iff.mpr ⟨S, by rw [hc]; rfl⟩
              rw [hp, hc]
              exact iteT ⟨_, rfl, q H2 (Ex.refl _)⟩
            · have hp : pre (tl u) (c :: r ++ S) = false := by
                cases hq : pre (tl u) (c :: r ++ S) with
                | false => rfl
                | true =>
                  obtain ⟨r2, e2⟩ := pre_iff.mp hq
                  have hsg' : mk (c :: r) ∈ sgns := hsg
                  rcases Nat.le_total (tl u).length (c :: r).length with l1 | l1
                  · have : pre (tl u) (tl (mk (c :: r))) = true := pre_iff.mpr ⟨(c :: r).drop (tl u).length, by
                      have := congrArg (List.take (c :: r).length) e2
                      rw [List.take_left' rfl, List.take_append, List.take_of_length_le l1] at this
                      show c :: r = _
                      have h4 := congrArg (List.drop (tl u).length) this
                      rw [List.drop_left' rfl] at h4
                      rw [h4, ← this]⟩
                    rw [sgn_apart u hu _ hsg' hc] at this; cases this
                  · have : pre (tl (mk (c :: r))) (tl u) = true := pre_iff.mpr ⟨(tl u).drop (c :: r).length, by
                      have := congrArg (List.take (tl u).length) e2.symm
                      rw [List.take_left' rfl, List.take_append, List.take_of_length_le l1] at this
                      have h4 := congrArg (List.drop (c :: r).length) this
                      rw [List.drop_left' rfl] at h4
                      show tl u = c :: r ++ _
                      rw [h4, ← this]⟩
                    rw [sgn_apart _ hsg' u hu (fun z => hc z.symm)] at this; cases this
              rw [hp]
              refine iteF ⟨rfl, fun k hk => ?_, _, rfl⟩
              by_cases ek : k = j
              · subst ek; rw [hj]; exact fun z => hc (Option.some.inj z)
              · exact hno k (by omega)
        · rintro σ H2 ⟨rfl, hno, z, rfl⟩
          have hsg' : mk (c :: r) ∈ sgns := hsg
          obtain ⟨k, hk, he'⟩ := List.getElem_of_mem hsg'
          exact absurd (List.getElem?_eq_some_iff.mpr ⟨hk, he'⟩) (hno k (by rw [List.length_map]; exact hk))
end
end G
namespace G
open PySem PySem.Spec PyProof.Rows L2 Evl TL
/-- S: tokens and blanks, and n signs behind its begin a place where no token can be taken -/
inductive LxB : List Nat → Nat → Prop where
  | bad {W R : List Nat} (h : BadTok W) : LxB (W ++ 32 :: R) 0
  | sp {c : Nat} {S : List Nat} {n : Nat} (h : c = 32 ∨ c = 10) (r : LxB S n) : LxB (c :: S) (1 + n)
  | com {b S : List Nat} {n : Nat} (h : 10 ∉ b) (r : LxB (10 :: S) n) : LxB (35 :: b ++ 10 :: S) ((35 :: b).length + n)
  | run {T S : List Nat} {n : Nat} (h : RunTok T) (hs : NoRun S) (r : LxB S n) : LxB (T ++ S) (T.length + n)
  | sgn {T S : List Nat} {n : Nat} (h : SgnTok T) (r : LxB S n) : LxB (T ++ S) (T.length + n)
def strsV (ts : List (List Nat)) : List V := ts.map fun T => V.str (mk T)
theorem strsV_add (a : List (List Nat)) (T : List Nat) : strsV (a ++ [T]) = strsV a ++ [.str (mk T)] := by unfold strsV; rw [List.map_append]; rfl
section
variable {P : Program} {w : World} {K : PySem.W.Frag} {mg : Str → Option Value} {base : Heap}
def spTokenizeB (B : Addr) : Sp := fun vs H Q E => ∃ (x : Str) (n : Nat), vs = [.str x] ∧ x.length ≤ 50000 ∧ LxB (tl x) n ∧ ∀ H1 d, Ex H H1 → H1 d = none → E (.ref B) (some d) (upd H1 d (.xd [("at", .int n)]))
theorem sc_tokenize : FnScope ["text", "tokens", "at", "token"] ["text"] (defScope s_tokenize) := ⟨rfl, rfl, rfl, by decide +kernel, rfl, by decide +kernel, by decide +kernel⟩
theorem ok_tokenizeB {B : Addr} (D : Dfd K mg "tokenize" s_tokenize ["text"]) (T : TxtK K mg) (C1 : Has P w K mg base 1 "_line_end" ["text", "at"] spLineEnd) (C2 : HasX P w K mg base 3 "_token_at" ["text", "at"] (spTokenAtB B)) : HasX P w K mg base 4 "tokenize" ["text"] (spTokenizeB B) := by
  obtain ⟨f_line_end, d_line_end, G_line_end, g_line_end, k_line_end, b_line_end⟩ := C1
  obtain ⟨f_token_at, d_token_at, G_token_at, g_token_at, k_token_at, b_token_at⟩ := C2
  obtain ⟨f, fd, F, gf, bf⟩ := D
  refine ⟨f, fd, F.okX sc_tokenize (fun vs H Q E h => ?_) (fun cdv A outer s H vs Q E hr h => ?_), gf, F.kp, bf⟩
  · obtain ⟨_, _, rfl, _⟩ := h
    rfl
  · obtain ⟨x, n, rfl, hlen, hL, q⟩ := h
    have hs : x.length ≤ sizeLine := sz_of (by omega)
    refine ⟨_, (pss_cons (ps_set (i := 1) sc_tokenize.nd rfl (.inl rfl) (pe_lst pa_nil))
    (pss_cons (ps_set (i := 2) sc_tokenize.nd rfl (.inl rfl) pe_int)
    (pss_cons (ps_while (passes_of rfl) (pt_cmpR op_lt (pv 2) (pe_callB call_len_str (by rfl) T.len (by decide +kernel) (pa_cons (pv 0) pa_nil)) (nomark _))
      (pss_one (ps_if (PW.pt (pw_or (pt_cmpR op_eq (pe_ix ix_str (pv 0) (pv 2) (fun _ _ => rfl)) pe_str (nomark _)) (pw_or1 (pt_cmpR op_eq (pe_ix ix_str (pv 0) (pv 2) (fun _ _ => rfl)) pe_str (nomark _)))))
        (pss_one (ps_aug (i := 2) sc_tokenize.nd rfl (.inl rfl) pe_int ip_add))
        (pss_one (ps_if (pt_cmpR op_eq (pe_ix ix_str (pv 0) (pv 2) (fun _ _ => rfl)) pe_str (nomark _))
          (pss_one (ps_set (i := 2) sc_tokenize.nd rfl (.inl rfl) (pe_call G_line_end (hr.mono (by omega)) (by rfl) g_line_end k_line_end b_line_end .nil pass0 (pa_cons (pv 0) (pa_cons (pv 2) pa_nil)))))
          (pss_cons (ps_set (i := 3) sc_tokenize.nd rfl (.inl rfl) (pe_call G_token_at (hr.mono (by omega)) (by rfl) g_token_at k_token_at b_token_at .nil (passes_call (takes_of rfl rfl rfl rfl) fun _ _ _ _ h => h) (pa_cons (pv 0) (pa_cons (pv 2) pa_nil))))
          (pss_cons (ps_expr (pe_bm PySem.F.plainAttrs_list PySem.F.slot_list_append PySem.F.type_list_append mt_append (pv 1) (pa_cons (pv 3) pa_nil)))
          (pss_one (ps_aug (i := 2) sc_tokenize.nd rfl (.inl rfl) (pe_callB call_len_str (by rfl) T.len (by decide +kernel) (pa_cons (pv 3) pa_nil)) ip_add)))))))))
    (pss_one (ps_ret (pv 1)))))), ?_⟩
    refine ⟨Nat.zero_le _, fun o no => ⟨fun m σ H' => Ex H H' ∧ ∃ (i : Nat) (S : List Nat) (us : List (List Nat)) (k : Nat) (z : Option V), i ≤ x.length ∧ (tl x).drop i = S ∧ LxB S k ∧ i + k = n ∧ us.length ≤ i ∧ m = x.length - i ∧ H' o = some (.lst (strsV us)) ∧ σ = [some (.str x), some (.ref o), some (.int i), z],
      ⟨_, Ex.new no, 0, tl x, [], n, none, Nat.zero_le _, rfl, hL, Nat.zero_add _, Nat.le_refl _, rfl, upd_same, rfl⟩, ?_⟩⟩
    rintro m σ H1 ⟨e1, i, S, us, k, z, hi, hd, hS, hts, hul, rfl, ho, rfl⟩
    have hl : x.length = i + S.length := by
      have := congrArg List.length hd
      rw [List.length_drop, ← len_tl] at this
      omega
    have hc0 : ∀ c r, S = c :: r → (tl x)[i]? = some c := fun c r e => by
      have := List.getElem?_drop (xs := tl x) (i := i) (j := 0)
      rw [hd, e, Nat.add_zero] at this
      rw [← this]; rfl
    have dec1 : ∀ c d : Nat, decide (V.str (⟨#[c]⟩ : Str) = V.str (mk [d])) = decide (c = d) := fun c d => by
      show decide (V.str (mk [c]) = V.str (mk [d])) = _
      rw [decV_mk]; by_cases h : c = d <;> simp [h]
    refine ⟨_, rfl, _, rfl, x, rfl, hs, _, _, rfl, rfl, _, rfl, ?_⟩
    cases hS with
    | @bad W R hW =>
      obtain ⟨c, r, rfl⟩ := List.exists_cons_of_ne_nil (bad_ne hW)
      obtain ⟨n32, n10, n35⟩ := bad_head hW rfl
      have hcx := hc0 c (r ++ 32 :: R) rfl
      rw [List.length_append] at hl
      have hpos : 0 < (c :: r).length := Nat.succ_pos _
      rw [decide_eq_true (by omega)]
      refine iteT ⟨fun σ H' => False, fun _ _ z => z.elim, ?_⟩
      refine ⟨_, rfl, _, rfl, _, _, c, rfl, rfl, hs, atI_nat hcx, rfl, _, rfl, ?_⟩
      have d32 : decide (V.str (⟨#[c]⟩ : Str) = V.str " ") = false := (dec1 c 32).trans (decide_eq_false n32)
      have d10 : decide (V.str (⟨#[c]⟩ : Str) = V.str "\n") = false := (dec1 c 10).trans (decide_eq_false n10)
      have d35 : decide (V.str (⟨#[c]⟩ : Str) = V.str "#") = false := (dec1 c 35).trans (decide_eq_false n35)
      rw [d32]
      refine iteF ⟨_, rfl, _, rfl, _, _, c, rfl, rfl, hs, atI_nat hcx, rfl, _, rfl, ?_⟩
      rw [d10]
      refine iteF ⟨_, rfl, _, rfl, _, _, c, rfl, rfl, hs, atI_nat hcx, rfl, _, rfl, ?_⟩
      rw [d35]
      refine iteF ⟨_, rfl, _, rfl, x, i, rfl, hlen, hi, .inr ⟨c :: r, R, hd, hW, fun H2 d e2 nd => ?_⟩⟩
      have := q H2 d (e1.trans e2) nd
      rw [← hts, Nat.add_zero] at this
      exact this
    | @sp c S' k' hc hr' =>
      rw [List.length_cons] at hl
      have hcx := hc0 c S' rfl
      rw [decide_eq_true (by omega)]
      refine iteT ⟨fun σ H' => H' = H1 ∧ σ = [some (.str x), some (.ref o), some (.int ((i + 1 : Nat) : Int)), z], ?_, ?_⟩
      · rintro σ' H' ⟨rfl, rfl⟩
        refine ⟨x.length - (i + 1), by omega, e1, i + 1, S', us, k', z, by omega, ?_, hr', by omega, by omega, rfl, ho, rfl⟩
        rw [← List.drop_drop, hd]; rfl
      · refine ⟨_, rfl, _, rfl, _, _, c, rfl, rfl, hs, atI_nat hcx, rfl, _, rfl, ?_⟩
        have d32 : decide (V.str (⟨#[c]⟩ : Str) = V.str " ") = decide (c = 32) := dec1 c 32
        rw [d32]
        rcases hc with rfl | rfl
        · exact iteT (iteT ⟨_, rfl, _, _, rfl, rfl, rfl, rfl⟩)
        · refine iteF ⟨_, rfl, _, rfl, _, _, 10, rfl, rfl, hs, atI_nat hcx, rfl, _, rfl, ?_⟩
          have d10 : decide (V.str (⟨#[10]⟩ : Str) = V.str "\n") = decide (10 = 10) := dec1 10 10
          rw [d10]
          exact iteT ⟨_, rfl, _, _, rfl, rfl, rfl, rfl⟩
    | @com b S' k' hb hr' =>
      have hcx := hc0 35 (b ++ 10 :: S') rfl
      rw [List.cons_append, List.length_cons, List.length_append] at hl
      rw [decide_eq_true (by omega)]
      refine iteT ⟨fun σ H' => H' = H1 ∧ σ = [some (.str x), some (.ref o), some (.int ((i + (35 :: b).length : Nat) : Int)), z], ?_, ?_⟩
      · rintro σ' H' ⟨rfl, rfl⟩
        refine ⟨x.length - (i + (35 :: b).length), by rw [List.length_cons]; omega, e1, i + (35 :: b).length, 10 :: S', us, k', z, by rw [List.length_cons]; omega, ?_, hr', by omega, by omega, rfl, ho, rfl⟩
        rw [← List.drop_drop, hd, List.drop_left' rfl]
      · refine ⟨_, rfl, _, rfl, _, _, 35, rfl, rfl, hs, atI_nat hcx, rfl, _, rfl, ?_⟩
        have d32 : decide (V.str (⟨#[35]⟩ : Str) = V.str " ") = decide (35 = 32) := dec1 35 32
        rw [d32]
        refine iteF ⟨_, rfl, _, rfl, _, _, 35, rfl, rfl, hs, atI_nat hcx, rfl, _, rfl, ?_⟩
        have d10 : decide (V.str (⟨#[35]⟩ : Str) = V.str "\n") = decide (35 = 10) := dec1 35 10
        rw [d10]
        refine iteF ⟨_, rfl, _, rfl, _, _, 35, rfl, rfl, hs, atI_nat hcx, rfl, _, rfl, ?_⟩
        have d35 : decide (V.str (⟨#[35]⟩ : Str) = V.str "#") = decide (35 = 35) := dec1 35 35
        rw [d35]
        refine iteT ⟨_, rfl, _, rfl, x, i, 35 :: b, 10 :: S', rfl, hlen, hi, hd, ?_, .inr ⟨_, rfl⟩, rfl, rfl⟩
        intro h10
        rcases List.mem_cons.mp h10 with h | h
        · omega
        · exact hb h
    | @run T S' k' hT hn hr' =>
      obtain ⟨c, r, rfl⟩ := List.exists_cons_of_ne_nil hT.1
      have hcr : isRun c = true := hT.2.1 c (List.mem_cons_self ..)
      have n32 : c ≠ 32 := fun h => by rw [h, run_not.1] at hcr; cases hcr
      have n10 : c ≠ 10 := fun h => by rw [h, run_not.2.1] at hcr; cases hcr
      have n35 : c ≠ 35 := fun h => by rw [h, run_not.2.2] at hcr; cases hcr
      have hcx := hc0 c (r ++ S') rfl
      rw [List.length_append] at hl
      have hpos : 0 < (c :: r).length := Nat.succ_pos _
      rw [decide_eq_true (by omega)]
      refine iteT ⟨fun σ H' => Ex H H' ∧ H' o = some (.lst (strsV (us ++ [c :: r]))) ∧ ∃ z, σ = [some (.str x), some (.ref o), some (.int ((i + (c :: r).length : Nat) : Int)), z], ?_, ?_⟩
      · rintro σ' H' ⟨e2, ho2, z2, rfl⟩
        refine ⟨x.length - (i + (c :: r).length), by omega, e2, i + (c :: r).length, S', us ++ [c :: r], k', z2, by omega, ?_, hr', by omega, by rw [List.length_append]; simp only [List.length_cons, List.length_nil]; omega, rfl, ho2, rfl⟩
        rw [← List.drop_drop, hd, List.drop_left' rfl]
      · refine ⟨_, rfl, _, rfl, _, _, c, rfl, rfl, hs, atI_nat hcx, rfl, _, rfl, ?_⟩
        have d32 : decide (V.str (⟨#[c]⟩ : Str) = V.str " ") = false := (dec1 c 32).trans (decide_eq_false n32)
        have d10 : decide (V.str (⟨#[c]⟩ : Str) = V.str "\n") = false := (dec1 c 10).trans (decide_eq_false n10)
        have d35 : decide (V.str (⟨#[c]⟩ : Str) = V.str "#") = false := (dec1 c 35).trans (decide_eq_false n35)
        rw [d32]
        refine iteF ⟨_, rfl, _, rfl, _, _, c, rfl, rfl, hs, atI_nat hcx, rfl, _, rfl, ?_⟩
        rw [d10]
        refine iteF ⟨_, rfl, _, rfl, _, _, c, rfl, rfl, hs, atI_nat hcx, rfl, _, rfl, ?_⟩
        rw [d35]
        refine iteF ⟨_, rfl, _, rfl, x, i, rfl, hlen, hi, .inl ⟨c :: r, S', hd, .inl ⟨hT, hn⟩, fun H2 e2 => ?_⟩⟩
        have ho2 := e2 _ _ ho
        refine ⟨_, rfl, .inl ⟨rfl, _, SqL.of ho2⟩, _, rfl, o, _, _, rfl, rfl, ho2, ?_, ?_⟩
        · exact sz_lt (by unfold strsV; rw [List.length_map]; omega)
        · refine ⟨_, rfl, _, rfl, _, rfl, ?_, _, _, rfl, rfl, (e1.trans e2).mut no, ?_, some (.str (mk (c :: r))), ?_⟩
          · rw [mk_len]; exact sz_of (by omega)
          · rw [upd_same, strsV_add]
          · rw [mk_len]; rfl
    | @sgn T S' k' hT hr' =>
      obtain ⟨hne, hnr, n32, n10, n35, h2⟩ := sgn_of hT
      obtain ⟨c, r, rfl⟩ := List.exists_cons_of_ne_nil hne
      have hcx := hc0 c (r ++ S') rfl
      rw [List.length_append] at hl
      have hpos : 0 < (c :: r).length := Nat.succ_pos _
      rw [decide_eq_true (by omega)]
      refine iteT ⟨fun σ H' => Ex H H' ∧ H' o = some (.lst (strsV (us ++ [c :: r]))) ∧ ∃ z, σ = [some (.str x), some (.ref o), some (.int ((i + (c :: r).length : Nat) : Int)), z], ?_, ?_⟩
      · rintro σ' H' ⟨e2, ho2, z2, rfl⟩
        refine ⟨x.length - (i + (c :: r).length), by omega, e2, i + (c :: r).length, S', us ++ [c :: r], k', z2, by omega, ?_, hr', by omega, by rw [List.length_append]; simp only [List.length_cons, List.length_nil]; omega, rfl, ho2, rfl⟩
        rw [← List.drop_drop, hd, List.drop_left' rfl]
      · refine ⟨_, rfl, _, rfl, _, _, c, rfl, rfl, hs, atI_nat hcx, rfl, _, rfl, ?_⟩
        have d32 : decide (V.str (⟨#[c]⟩ : Str) = V.str " ") = false := (dec1 c 32).trans (decide_eq_false n32)
        have d10 : decide (V.str (⟨#[c]⟩ : Str) = V.str "\n") = false := (dec1 c 10).trans (decide_eq_false n10)
        have d35 : decide (V.str (⟨#[c]⟩ : Str) = V.str "#") = false := (dec1 c 35).trans (decide_eq_false n35)
        rw [d32]
        refine iteF ⟨_, rfl, _, rfl, _, _, c, rfl, rfl, hs, atI_nat hcx, rfl, _, rfl, ?_⟩
        rw [d10]
        refine iteF ⟨_, rfl, _, rfl, _, _, c, rfl, rfl, hs, atI_nat hcx, rfl, _, rfl, ?_⟩
        rw [d35]
        refine iteF ⟨_, rfl, _, rfl, x, i, rfl, hlen, hi, .inl ⟨c :: r, S', hd, .inr hT, fun H2 e2 => ?_⟩⟩
        have ho2 := e2 _ _ ho
        refine ⟨_, rfl, .inl ⟨rfl, _, SqL.of ho2⟩, _, rfl, o, _, _, rfl, rfl, ho2, ?_, ?_⟩
        · exact sz_lt (by unfold strsV; rw [List.length_map]; omega)
        · refine ⟨_, rfl, _, rfl, _, rfl, ?_, _, _, rfl, rfl, (e1.trans e2).mut no, ?_, some (.str (mk (c :: r))), ?_⟩
          · rw [mk_len]; exact sz_of (by omega)
          · rw [upd_same, strsV_add]
          · rw [mk_len]; rfl
end
end G
namespace G
open PySem PySem.Spec PyProof.Rows L2 Evl TL
/-! ## laid texts -/
/-- P, ahead of any text of ts, is a text of us and then ts; e: P ends with a run -/
def Laid (X : List Nat) (us : List (List Nat)) (e : Bool) : Prop := ∀ S ts, Lx S ts → (e = true → NoRun S) → Lx (X ++ S) (us ++ ts)
def blanks : List Str := [" ", "\n", "  ", " # a = cell 1 ! \n", "\n\n ", "#\n"]
theorem norun_cons {c : Nat} {r : List Nat} (h : isRun c = false) : NoRun (c :: r) := fun d q e => by injection e with e1 _; rw [← e1]; exact h
theorem blank_ok : ∀ b ∈ blanks, ∃ c r, tl b = c :: r ∧ isRun c = false ∧ (tl b).length ≤ 20 := by
  intro b hb
  have h : ∀ b ∈ blanks, tl b ≠ [] ∧ isRun ((tl b).headD 0) = false ∧ (tl b).length ≤ 20 := by decide +kernel
  obtain ⟨h1, h2, h3⟩ := h b hb
  obtain ⟨c, r, e⟩ := List.exists_cons_of_ne_nil h1
  rw [e] at h2
  exact ⟨c, r, e, h2, h3⟩
theorem blank_lx {b : Str} (hb : b ∈ blanks) {S : List Nat} {ts : List (List Nat)} (r : Lx S ts) : Lx (tl b ++ S) ts := by
  have hm : b = " " ∨ b = "\n" ∨ b = "  " ∨ b = " # a = cell 1 ! \n" ∨ b = "\n\n " ∨ b = "#\n" := by
    unfold blanks at hb
    simpa using hb
  rcases hm with rfl | rfl | rfl | rfl | rfl | rfl
  · exact .sp (.inl rfl) r
  · exact .sp (.inr rfl) r
  · exact .sp (.inl rfl) (.sp (.inl rfl) r)
  · exact .sp (.inl rfl) (.com (b := tl (" a = cell 1 ! " : Str)) (S := 10 :: S) (by decide +kernel) (.inr ⟨_, rfl⟩) (.sp (.inr rfl) r))
  · exact .sp (.inr rfl) (.sp (.inr rfl) (.sp (.inl rfl) r))
  · exact .com (b := []) (S := 10 :: S) (by simp) (.inr ⟨_, rfl⟩) (.sp (.inr rfl) r)
/-- a blank: one of the six, or nothing -/
def Blank (B : List Nat) (needed : Bool) : Prop := mk B ∈ blanks ∨ (B = [] ∧ needed = false)
def endsRun (us : List (List Nat)) : Bool := match us.getLast? with
  | some T => isRun (T.headD 0)
  | none => false
def headRun (T : List Nat) : Bool := isRun (T.headD 0)
def TokOk (T : List Nat) : Prop := RunTok T ∨ SgnTok T
theorem tok_ne {T : List Nat} (h : TokOk T) : T ≠ [] := by
  rcases h with h | h
  · exact h.1
  · exact (sgn_of h).1
theorem laid_step {X B T : List Nat} {us : List (List Nat)} {needed : Bool} (h : Laid X us (endsRun us)) (hB : Blank B needed) (hT : TokOk T) (hn : needed = false → ¬ (headRun T = true ∧ endsRun us = true)) : Laid (X ++ B ++ T) (us ++ [T]) (endsRun (us ++ [T])) := by
  have ee : endsRun (us ++ [T]) = headRun T := by unfold endsRun headRun; rw [List.getLast?_append]; rfl
  rw [ee]
  intro S ts hS hne
  have h1 : Lx (T ++ S) (T :: ts) := by
    rcases hT with hr | hs
    · obtain ⟨c, r, rfl⟩ := List.exists_cons_of_ne_nil hr.1
      exact .run hr (hne (hr.2.1 c (List.mem_cons_self ..))) hS
    · exact .sgn hs hS
  have h2 : Lx (B ++ (T ++ S)) (T :: ts) := by
    rcases hB with hb | ⟨hb, _⟩
    · exact blank_lx hb h1
    · rw [hb]; exact h1
  have h3 := h _ _ h2 fun he => by
    rcases hB with hb | ⟨hb, hn'⟩
    · obtain ⟨c, r, e, hc, _⟩ := blank_ok _ hb
      have e' : B = c :: r := e
      rw [e']
      exact norun_cons hc
    · rw [hb]
      obtain ⟨c, r, rfl⟩ := List.exists_cons_of_ne_nil (tok_ne hT)
      refine norun_cons ?_
      cases hc : isRun c with
      | false => rfl
      | true => exact absurd ⟨hc, he⟩ (hn hn')
  have e1 : X ++ B ++ T ++ S = X ++ (B ++ (T ++ S)) := by simp only [List.append_assoc]
  rw [e1, List.append_assoc]
  exact h3
theorem laid_end {X B : List Nat} {us : List (List Nat)} (h : Laid X us (endsRun us)) (hB : Blank B false) : Lx (X ++ B) us := by
  have h0 : Lx B [] := by
    rcases hB with hb | ⟨hb, _⟩
    · have := blank_lx hb Lx.nil
      rw [List.append_nil] at this
      exact this
    · rw [hb]; exact .nil
  have := h B [] h0 fun he => by
    rcases hB with hb | ⟨hb, _⟩
    · obtain ⟨c, r, e, hc, _⟩ := blank_ok _ hb
      have e' : B = c :: r := e
      rw [e']
      exact norun_cons hc
    · rw [hb]; intro c r e; cases e
  rw [List.append_nil] at this
  exact this
/-! ## the drawn tokens -/
theorem kw_facts : ∀ k ∈ kwds, isWord (tl k) = true ∧ isName (tl k) = false ∧ isNum (tl k) = false ∧ (tl k).length ≤ 20 := by decide +kernel
theorem sg_names : ∀ s ∈ sgns, isName (tl s) = false ∧ isNum (tl s) = false := by decide +kernel
theorem kw_more : ∀ k ∈ kwds, k ++ "_" ∉ kwds ∧ isWord (tl (k ++ "_")) = true ∧ isNum (tl (k ++ "_")) = false ∧ (tl (k ++ "_")).length ≤ 20 := by decide +kernel
theorem let_not_dig : ∀ c ∈ tl sLET, c ∉ tl sDIG := by decide +kernel
theorem word_run {T : List Nat} (h : isWord T = true) : RunTok T := by
  cases T with
  | nil => cases h
  | cons c r =>
    have h' : (decide (c ∈ tl sLET) && (c :: r).all isRun) = true := h
    rw [Bool.and_eq_true, List.all_eq_true] at h'
    exact ⟨List.cons_ne_nil _ _, h'.2, .inl h⟩
theorem word_num {T : List Nat} (h : isWord T = true) : isNum T = false := by
  cases T with
  | nil => rfl
  | cons c r =>
    have h' : (decide (c ∈ tl sLET) && (c :: r).all isRun) = true := h
    rw [Bool.and_eq_true] at h'
    have hc := let_not_dig c (of_decide_eq_true h'.1)
    show (_ && (c :: r).all fun d => decide (d ∈ tl sDIG)) = false
    rw [List.all_cons, decide_eq_false hc, Bool.false_and, Bool.and_false]
theorem num_run {T : List Nat} (h : isNum T = true) : RunTok T := by
  cases T with
  | nil => cases h
  | cons c r =>
    have h' : (decide ((c :: r).length ≤ 9) && !(decide (c = 48) && !decide (c :: r = [48])) && (c :: r).all fun d => decide (d ∈ tl sDIG)) = true := h
    rw [Bool.and_eq_true, List.all_eq_true] at h'
    exact ⟨List.cons_ne_nil _ _, fun d hd => dig_run d (of_decide_eq_true (h'.2 d hd)), .inr h⟩
theorem num_name {T : List Nat} (h : isNum T = true) : isName T = false := by
  unfold isName
  cases hw : isWord T with
  | false => rfl
  | true => rw [word_num hw] at h; cases h
theorem dig_mem {d : Nat} (h1 : 48 ≤ d) (h2 : d ≤ 57) : d ∈ tl sDIG := by
  have : ∀ k, k < 10 → 48 + k ∈ tl sDIG := by decide +kernel
  have := this (d - 48) (by omega)
  rwa [show 48 + (d - 48) = d by omega] at this
/-- no number but 0 begins with 0 -/
theorem num_head : ∀ (n : Nat), 0 < n → ∃ c r, numL n = c :: r ∧ c ≠ 48 := by
  intro n
  induction n using Nat.strongRecOn with
  | _ n ih =>
    intro hn
    by_cases h : n < 10
    · exact ⟨48 + n, [], numL_lt h, by omega⟩
    · obtain ⟨c, r, e, hc⟩ := ih (n / 10) (by omega) (by omega)
      exact ⟨c, r ++ [48 + n % 10], by rw [numL_step (by omega), e]; rfl, hc⟩
theorem isNum_num {n : Nat} (h : n < 1000000000) : isNum (numL n) = true := by
  have hl : (numL n).length ≤ 9 := numL_len (by decide) h
  have hd : ∀ d ∈ numL n, d ∈ tl sDIG := fun d hd => by
    have := numL_digits n d hd
    exact dig_mem this.1 this.2
  by_cases h0 : n = 0
  · subst h0; decide +kernel
  · obtain ⟨c, r, e, hc⟩ := num_head n (by omega)
    rw [e] at hl hd ⊢
    show (decide ((c :: r).length ≤ 9) && !(decide (c = 48) && !decide (c :: r = [48])) && (c :: r).all fun d => decide (d ∈ tl sDIG)) = true
    rw [decide_eq_true hl, decide_eq_false hc, List.all_eq_true.mpr fun d hd' => decide_eq_true (hd d hd')]
    rfl
section
variable {P : Program} {w : World} {K : PySem.W.Frag} {mg : Str → Option Value} {base : Heap}
/-- a name -/
def spWord : Sp := fun vs H Q _ => ∃ (p a : Addr), vs = [.ref p] ∧ PoolOk p a H ∧ ∀ (T : List Nat) (H' : Hp), isWord T = true → mk T ∉ kwds → T.length ≤ 20 → Px p a H H' → Q (.str (mk T)) H'
theorem item_of {L : List Nat} {v : Nat} (h : v < L.length) : ∃ c, L[v]? = some c ∧ c ∈ L := ⟨L[v], List.getElem?_eq_getElem h, List.getElem_mem h⟩
theorem sc_law_word : FnScope ["pool", "heads", "rest", "word", "k"] ["pool"] (defScope s_law_word) := ⟨rfl, rfl, rfl, by decide +kernel, rfl, by decide +kernel, by decide +kernel⟩
theorem ok_law_word (D : Dfd K mg "_law_word" s_law_word ["pool"]) (T : TxtS mg) (C : Has P w K mg base 2 "_law_draw" ["pool", "many"] spDrawX) : Has P w K mg base 3 "_law_word" ["pool"] spWord := by
  obtain ⟨f_law_draw, d_law_draw, G_law_draw, g_law_draw, k_law_draw, b_law_draw⟩ := C
  refine D.has fun f fd F => F.ok sc_law_word (fun vs H Q E h => ?_) (fun cdv A outer s H vs Q E hr h => ?_)
  · obtain ⟨_, _, rfl, _⟩ := h
    rfl
  · obtain ⟨p, a, rfl, hp, q⟩ := h
    refine ⟨_, (pss_cons (ps_set (i := 1) sc_law_word.nd rfl (.inl rfl) pe_str)
    (pss_cons (ps_set (i := 2) sc_law_word.nd rfl (.inl rfl) pe_str)
    (pss_cons (ps_set (i := 3) sc_law_word.nd rfl (.inl rfl) (pe_ix ix_str (pv 1) (pe_call G_law_draw (hr.mono (by omega)) (by rfl) g_law_draw k_law_draw b_law_draw .nil pass0 (pa_cons (pv 0) (pa_cons pe_int pa_nil))) (fun _ _ => rfl)))
    (pss_cons (ps_for PassesOwn.never rfl (pi_range1 rfl T.range (pa_cons (pe_ix ix_list (pe_lst (pa_cons pe_int (pa_cons pe_int (pa_cons pe_int (pa_cons pe_int (pa_cons pe_int (pa_cons pe_int (pa_cons pe_int (pa_cons pe_int pa_nil))))))))) (pe_call G_law_draw (hr.mono (by omega)) (by rfl) g_law_draw k_law_draw b_law_draw .nil pass0 (pa_cons (pv 0) (pa_cons pe_int pa_nil))) (fun _ _ => rfl)) pa_nil)) (pg_name (i := 4) sc_law_word.nd rfl (.inl rfl))
      (pss_one (ps_set (i := 3) sc_law_word.nd rfl (.inl rfl) (pe_op op_add_str (pv 3) (pe_ix ix_str (pv 2) (pe_call G_law_draw (hr.mono (by omega)) (by rfl) g_law_draw k_law_draw b_law_draw .nil pass0 (pa_cons (pv 0) (pa_cons pe_int pa_nil))) (fun _ _ => rfl))))))
    (pss_cons (ps_if (pt_cmpR op_in_seq (pv 3) (pe_lst (pa_cons pe_str (pa_cons pe_str (pa_cons pe_str (pa_cons pe_str (pa_cons pe_str (pa_cons pe_str (pa_cons pe_str (pa_cons pe_str (pa_cons pe_str (pa_cons pe_str (pa_cons pe_str pa_nil)))))))))))) (by rfl))
      (pss_one (ps_set (i := 3) sc_law_word.nd rfl (.inl rfl) (pe_op op_add_str (pv 3) pe_str)))
      pss_nil)
    (pss_one (ps_ret (pv 3)))))))), ?_⟩
    have l26 : (tl sLET).length = 26 := by decide +kernel
    have l37 : (tl sRUN).length = 37 := by decide +kernel
    refine ⟨_, rfl, _, rfl, p, a, 26, rfl, by decide, by decide, hp, fun v H1 hv X1 _ => ?_⟩
    obtain ⟨c, hc, hm⟩ := item_of (L := tl sLET) (v := v) (by rw [l26]; omega)
    refine ⟨sLET, _, c, rfl, rfl, by decide, atI_nat hc, ?_⟩
    refine ⟨(by show 8 ≤ sizeLine; decide), fun l nl => ⟨_, rfl, p, a, 8, rfl, by decide, by decide, (X1.new nl).pool, fun v2 H2 hv2 X2 k2 => ?_⟩⟩
    have hl2 : H2 l = some (.lst [.int 0, .int 0, .int 1, .int 1, .int 2, .int 3, .int 5, .int 12]) := by rw [k2 _ (X1.pool.ne nl)]; exact upd_same
    have hit : ∃ n : Nat, ([.int 0, .int 0, .int 1, .int 1, .int 2, .int 3, .int 5, .int 12] : List V)[v2]? = some (.int (n : Int)) ∧ n ≤ 12 := by
      have h8 : v2 < 8 := by omega
      match v2, h8 with
      | 0, _ => exact ⟨0, rfl, by decide⟩
      | 1, _ => exact ⟨0, rfl, by decide⟩
      | 2, _ => exact ⟨1, rfl, by decide⟩
      | 3, _ => exact ⟨1, rfl, by decide⟩
      | 4, _ => exact ⟨2, rfl, by decide⟩
      | 5, _ => exact ⟨3, rfl, by decide⟩
      | 6, _ => exact ⟨5, rfl, by decide⟩
      | 7, _ => exact ⟨12, rfl, by decide⟩
      | n + 8, h => omega
    obtain ⟨n, hn, hn12⟩ := hit
    have X3 := (X1.new nl).trans X2
    refine ⟨_, _, _, _, rfl, rfl, SqL.of hl2, atI_nat hn, _, rfl, by omega, by omega, for_range (n := ((n : Nat) : Int).toNat)
      (fun i σ H' => Px p a H H' ∧ ∃ (W : List Nat) (z : Option V), isWord W = true ∧ W.length = i + 1 ∧ σ = [some (.ref p), some (.str sLET), some (.str sRUN), some (.str (mk W)), z]) ⟨X3, [c], _, ?_, rfl, rfl⟩ ?_ ?_⟩
    · show (decide (c ∈ tl sLET) && [c].all isRun) = true
      rw [decide_eq_true hm, List.all_cons, let_run c hm]; rfl
    · rintro i σ H3 hi ⟨X4, W, z, hW, hWl, rfl⟩
      refine ⟨_, rfl, _, rfl, _, rfl, p, a, 37, rfl, by decide, by decide, X4.pool, fun v3 H4 hv3 X5 _ => ?_⟩
      obtain ⟨d, hd, hdm⟩ := item_of (L := tl sRUN) (v := v3) (by rw [l37]; omega)
      refine ⟨sRUN, _, d, rfl, rfl, by decide, atI_nat hd, _, _, rfl, rfl, ?_, X4.trans X5, W ++ [d], some (.int (0 + (i : Int))), ?_, by rw [List.length_append, hWl]; rfl, ?_⟩
      · rw [mk_len]
        show _ + 1 ≤ sizeLine
        exact sz_of (by omega)
      · cases W with
        | nil => cases hW
        | cons c' r' =>
          have h' : (decide (c' ∈ tl sLET) && (c' :: r').all isRun) = true := hW
          rw [Bool.and_eq_true] at h'
          show (decide (c' ∈ tl sLET) && (c' :: r' ++ [d]).all isRun) = true
          rw [h'.1, List.all_append, h'.2]
          show (true && (true && (isRun d && true))) = true
          rw [show isRun d = true from decide_eq_true hdm]; rfl
      · rw [mk_one, mk_app]; rfl
    · rintro σ H3 ⟨X4, W, z, hW, hWl, rfl⟩
      have hWl' : W.length ≤ 13 := by omega
      refine ⟨_, rfl, (by show 11 ≤ sizeLine; decide), fun l2 nl2 => ⟨l2, kwds.map V.str, rfl, .inl (SqL.of upd_same), rfl, flat_map (fun _ => rfl) _, _, rfl, ?_⟩⟩
      show if (if false = true then !inV (.str (mk W)) (kwds.map V.str) else inV (.str (mk W)) (kwds.map V.str)) = true then _ else _
      rw [if_neg Bool.false_ne_true, inV_strs]
      by_cases hk : mk W ∈ kwds
      · rw [decide_eq_true hk]
        refine iteT ⟨_, rfl, _, _, rfl, rfl, ?_, _, rfl, ?_⟩
        · rw [mk_len]
          show W.length + 1 ≤ sizeLine
          exact sz_of (by omega)
        · obtain ⟨h1, h2, h3, h4⟩ := kw_more _ hk
          have e : mk W ++ ("_" : Str) = mk (W ++ [95]) := mk_app W [95]
          rw [e] at h1 h2 h4
          show Q (.str (mk W ++ ("_" : Str))) _
          rw [e]
          exact q _ _ h2 h1 h4 (X4.new nl2)
      · rw [decide_eq_false hk]
        exact iteF ⟨_, rfl, q _ _ hW hk (by omega) (X4.new nl2)⟩
def spNumeral : Sp := fun vs H Q _ => ∃ (p a : Addr), vs = [.ref p] ∧ PoolOk p a H ∧ ∀ (n : Nat) (H' : Hp), n < 1000000000 → Px p a H H' → Q (.int n) H'
theorem sc_law_numeral : FnScope ["pool", "many", "number"] ["pool"] (defScope s_law_numeral) := ⟨rfl, rfl, rfl, by decide +kernel, rfl, by decide +kernel, by decide +kernel⟩
theorem ok_law_numeral (D : Dfd K mg "_law_numeral" s_law_numeral ["pool"]) (C : Has P w K mg base 2 "_law_draw" ["pool", "many"] spDrawX) : Has P w K mg base 3 "_law_numeral" ["pool"] spNumeral := by
  obtain ⟨f_law_draw, d_law_draw, G_law_draw, g_law_draw, k_law_draw, b_law_draw⟩ := C
  refine D.has fun f fd F => F.ok sc_law_numeral (fun vs H Q E h => ?_) (fun cdv A outer s H vs Q E hr h => ?_)
  · obtain ⟨_, _, rfl, _⟩ := h
    rfl
  · obtain ⟨p, a, rfl, hp, q⟩ := h
    refine ⟨_, (pss_cons (ps_set (i := 1) sc_law_numeral.nd rfl (.inl rfl) (pe_ix ix_list (pe_lst (pa_cons pe_int (pa_cons pe_int (pa_cons pe_int (pa_cons pe_int (pa_cons pe_int (pa_cons pe_int pa_nil))))))) (pe_call G_law_draw (hr.mono (by omega)) (by rfl) g_law_draw k_law_draw b_law_draw .nil pass0 (pa_cons (pv 0) (pa_cons pe_int pa_nil))) (fun _ _ => rfl)))
    (pss_cons (ps_set (i := 2) sc_law_numeral.nd rfl (.inl rfl) (pe_call G_law_draw (hr.mono (by omega)) (by rfl) g_law_draw k_law_draw b_law_draw .nil pass0 (pa_cons (pv 0) (pa_cons (pe_ix ix_list (pe_lst (pa_cons pe_int (pa_cons pe_int (pa_cons pe_int (pa_cons pe_int pa_nil))))) (pe_bm PySem.F.plainAttrs_list PySem.F.slot_list_index PySem.F.type_list_index mt_index (pe_lst (pa_cons pe_int (pa_cons pe_int (pa_cons pe_int (pa_cons pe_int pa_nil))))) (pa_cons (pv 1) pa_nil)) (fun _ _ => rfl)) pa_nil))))
    (pss_one (ps_ret (pv 2))))), ?_⟩
    refine ⟨(by show 6 ≤ sizeLine; decide), fun l nl => ⟨_, rfl, p, a, 6, rfl, by decide, by decide, ((Px.refl hp).new nl).pool, fun v H1 hv X1 k1 => ?_⟩⟩
    have Y1 := ((Px.refl hp).new nl).trans X1
    have hl1 : H1 l = some (.lst [.int 1, .int 1, .int 1, .int 2, .int 3, .int 9]) := by rw [k1 _ (hp.ne nl)]; exact upd_same
    have hit : ∃ (m : Int) (j : Nat) (b : Nat), ([.int 1, .int 1, .int 1, .int 2, .int 3, .int 9] : List V)[v]? = some (.int m) ∧ ([.int 1, .int 2, .int 3, .int 9] : List V)[j]? = some (.int m) ∧
        (∀ (k : Nat) (z' : V), k < j → ([.int 1, .int 2, .int 3, .int 9] : List V)[k]? = some z' → eqV z' (.int m) = false) ∧ ([.int 10, .int 100, .int 1000, .int 1000000000] : List V)[j]? = some (.int (b : Int)) ∧ 0 < b ∧ b ≤ 1000000000 := by
      have n0 : ∀ (m : Int) (k : Nat) (z' : V), k < 0 → ([.int 1, .int 2, .int 3, .int 9] : List V)[k]? = some z' → eqV z' (.int m) = false := fun _ k _ h => by omega
      have h6 : v < 6 := by omega
      match v, h6 with
      | 0, _ => exact ⟨1, 0, 10, rfl, rfl, n0 1, rfl, by decide, by decide⟩
      | 1, _ => exact ⟨1, 0, 10, rfl, rfl, n0 1, rfl, by decide, by decide⟩
      | 2, _ => exact ⟨1, 0, 10, rfl, rfl, n0 1, rfl, by decide, by decide⟩
      | 3, _ =>
        refine ⟨2, 1, 100, rfl, rfl, fun k z' hk e => ?_, rfl, by decide, by decide⟩
        have : k = 0 := by omega
        subst this
        cases e; rfl
      | 4, _ =>
        refine ⟨3, 2, 1000, rfl, rfl, fun k z' hk e => ?_, rfl, by decide, by decide⟩
        match k, hk, e with
        | 0, _, e => cases e; rfl
        | 1, _, e => cases e; rfl
      | 5, _ =>
        refine ⟨9, 3, 1000000000, rfl, rfl, fun k z' hk e => ?_, rfl, by decide, by decide⟩
        match k, hk, e with
        | 0, _, e => cases e; rfl
        | 1, _, e => cases e; rfl
        | 2, _, e => cases e; rfl
      | n + 6, h => omega
    obtain ⟨m, j, b, h1, h2, h3, h4, h5, h6⟩ := hit
    refine ⟨_, _, _, _, rfl, rfl, SqL.of hl1, atI_nat h1, ?_⟩
    refine ⟨_, rfl, (by show 4 ≤ sizeLine; decide), fun l2 nl2 => ⟨(by show 4 ≤ sizeLine; decide), fun l3 nl3 => ⟨.inl ⟨rfl, _, SqL.of upd_same⟩, _, rfl, l3, _, _, j, _, rfl, rfl, SqL.of upd_same, rfl, rfl, h2, beq_self_eq_true m, h3, ?_⟩⟩⟩
    have Y2 := (Y1.new (o := .lst [.int 10, .int 100, .int 1000, .int 1000000000]) nl2).new (o := .lst [.int 1, .int 2, .int 3, .int 9]) nl3
    refine ⟨_, _, _, _, rfl, rfl, SqL.of ((upd_ne (ne_of_none upd_same nl3)).trans upd_same), atI_nat h4, p, a, b, rfl, by omega, by omega, Y2.pool, fun v2 H2 hv2 X2 _ => ?_⟩
    exact ⟨_, rfl, q v2 H2 (by omega) (Y2.trans X2)⟩
def spBlank : Sp := fun vs H Q _ => ∃ (p a : Addr) (b : Bool), vs = [.ref p, .bl b] ∧ PoolOk p a H ∧ ∀ (B : List Nat) (H' : Hp), Blank B b → B.length ≤ 20 → Px p a H H' → Q (.str (mk B)) H'
theorem sc_law_blank : FnScope ["pool", "needed", "text"] ["pool", "needed"] (defScope s_law_blank) := ⟨rfl, rfl, rfl, by decide +kernel, rfl, by decide +kernel, by decide +kernel⟩
theorem ok_law_blank (D : Dfd K mg "_law_blank" s_law_blank ["pool", "needed"]) (C : Has P w K mg base 2 "_law_draw" ["pool", "many"] spDrawX) : Has P w K mg base 3 "_law_blank" ["pool", "needed"] spBlank := by
  obtain ⟨f_law_draw, d_law_draw, G_law_draw, g_law_draw, k_law_draw, b_law_draw⟩ := C
  refine D.has fun f fd F => F.ok sc_law_blank (fun vs H Q E h => ?_) (fun cdv A outer s H vs Q E hr h => ?_)
  · obtain ⟨_, _, _, rfl, _⟩ := h
    rfl
  · obtain ⟨p, a, b, rfl, hp, q⟩ := h
    refine ⟨_, (pss_cons (ps_set (i := 2) sc_law_blank.nd rfl (.inl rfl) (pe_ix ix_list (pe_lst (pa_cons pe_str (pa_cons pe_str (pa_cons pe_str (pa_cons pe_str (pa_cons pe_str (pa_cons pe_str pa_nil))))))) (pe_call G_law_draw (hr.mono (by omega)) (by rfl) g_law_draw k_law_draw b_law_draw .nil pass0 (pa_cons (pv 0) (pa_cons pe_int pa_nil))) (fun _ _ => rfl)))
    (pss_cut (ps_if (PW.pt (pw_and (pt_not (pt_val (pv 1))) (pw_and1 (pt_cmpR op_eq (pe_call G_law_draw (hr.mono (by omega)) (by rfl) g_law_draw k_law_draw b_law_draw .nil pass0 (pa_cons (pv 0) (pa_cons pe_int pa_nil))) pe_int (nomark _)))))
      (pss_one (ps_ret pe_str))
      pss_nil)
    (pss_one (ps_ret (pv 2))))), ?_⟩
    refine ⟨(by show 6 ≤ sizeLine; decide), fun l nl => ⟨_, rfl, p, a, 6, rfl, by decide, by decide, ((Px.refl hp).new nl).pool, fun v H1 hv X1 k1 => ?_⟩⟩
    have Y1 := ((Px.refl hp).new nl).trans X1
    have hl1 : H1 l = some (.lst (blanks.map V.str)) := by rw [k1 _ (hp.ne nl)]; exact upd_same
    have hv' : v < blanks.length := by show v < 6; omega
    obtain ⟨c, r, e, hc, hlen⟩ := blank_ok _ (List.getElem_mem hv')
    have hit : (blanks.map V.str)[v]? = some (.str (mk (tl blanks[v]))) := by rw [List.getElem?_map, List.getElem?_eq_getElem hv', mk_tlS]; rfl
    have hB : Blank (tl blanks[v]) b := .inl (by rw [mk_tlS]; exact List.getElem_mem hv')
    refine ⟨_, _, _, _, rfl, rfl, SqL.of hl1, atI_nat hit, ?_⟩
    generalize tl blanks[v] = B at hB hlen
    refine ⟨fun σ H' => Px p a H H' ∧ σ = [some (.ref p), some (.bl b), some (.str (mk B))], ?_, ?_⟩
    · refine ⟨_, rfl, _, rfl, ?_⟩
      cases b with
      | true => exact iteF (iteF ⟨Y1, rfl⟩)
      | false =>
        refine iteT ⟨_, rfl, p, a, 3, rfl, by decide, by decide, Y1.pool, fun v2 H2 hv2 X2 _ => ⟨rfl, _, rfl, ite2 (fun _ => ?_) (fun _ => ⟨Y1.trans X2, rfl⟩)⟩⟩
        exact q [] H2 (.inr ⟨rfl, rfl⟩) (by decide) (Y1.trans X2)
    · rintro σ H2 ⟨X2, rfl⟩
      exact ⟨_, rfl, q B H2 hB hlen X2⟩
theorem take_snoc {us : List (List Nat)} {i : Nat} (h : i < us.length) : us.take (i + 1) = us.take i ++ [us[i]] := by rw [List.take_add_one, List.getElem?_eq_getElem h]; rfl
end
end G
namespace G
open PySem PySem.Spec PyProof.Rows L2 Evl TL
section
variable {P : Program} {w : World} {K : PySem.W.Frag} {mg : Str → Option Value} {base : Heap}
def spTold : Sp := fun vs H Q _ => ∃ (x : Str) (n : Nat), vs = [.str x] ∧ x.length ≤ 50000 ∧ LxB (tl x) n ∧ ∀ H', Ex H H' → Q (.int n) H'
theorem sc_law_told : FnScope ["text", "e"] ["text"] (defScope s_law_told) := ⟨rfl, rfl, rfl, by decide +kernel, rfl, by decide +kernel, by decide +kernel⟩
theorem ok_law_told {B B2 B3 S : Addr} (D : Dfd K mg "_law_told" s_law_told ["text"]) (T : TxtS mg) (g_BadToken : mg "BadToken" = some (.ref B)) (g_BadSyntax : mg "BadSyntax" = some (.ref B2)) (g_TooDeep : mg "TooDeep" = some (.ref B3)) (gS : mg "SignoffError" = some (.ref S))
    (iB : ExcC K B) (nB : PySem.W.findIn K (.ref B) "at" = some none) (bb : PySem.W.kitOne K (.ref B) (.ref B) = some true) (br : PySem.W.kitOne K (.ref B) (.ref B2) = some false) (bs : PySem.W.kitOne K (.ref B) (.ref B3) = some false) (hitB : PySem.W.exmOne K (.ref B) (.ref S) = some true)
    (C1 : HasX P w K mg base 4 "tokenize" ["text"] (spTokenizeB B)) : Has P w K mg base 5 "_law_told" ["text"] spTold := by
  obtain ⟨f_tokenize, d_tokenize, G_tokenize, g_tokenize, k_tokenize, b_tokenize⟩ := C1
  have XB : XfC K B := ⟨iB.hg, iB.hk, iB.hs, iB.hd⟩
  refine D.has fun f fd F => F.ok sc_law_told (fun vs H Q E h => ?_) (fun cdv A outer s H vs Q E hr h => ?_)
  · obtain ⟨x, n, rfl, _⟩ := h
    rfl
  · obtain ⟨x, n, rfl, hlen, hL, q⟩ := h
    refine ⟨_, (pss_cons (ps_try_as (c := .ref S) (i := 1) rfl rfl sc_law_told.nd rfl rfl ⟨rfl, by decide, .inl gS⟩ takes0
      (fun W pn xe tk hp => (pss_one (ps_expr (pe_callS G_tokenize (hr.mono (by omega)) rfl g_tokenize k_tokenize b_tokenize (fun σ => passAt tk σ) (pa_cons (pv 0) pa_nil)))))
      (fun a oe cls dd pn hz hf => (pss_cut (ps_if (PW.pt (pw_and (pt_val (pe_isED hz hf (fun D hz1 ic => pe_callB (call_isED ic hz1 hf) (by rfl) T.isinstance (by decide +kernel) (pa_cons (pv 1) (pa_cons (gRef rfl g_BadToken) pa_nil))))) (pw_and1 (pt_not (pt_val (pe_isED hz hf (fun D hz1 ic => pe_callB (call_isETD ic hz1 hf) (by rfl) T.isinstance (by decide +kernel) (pa_cons (pv 1) (pa_cons (pe_tup (pa_cons (gRef rfl g_BadSyntax) (pa_cons (gRef rfl g_TooDeep) pa_nil))) pa_nil)))))))))
          (pss_one (ps_ret (pe_xf XB nB hz hf (pv 1))))
          pss_nil)
        (pss_one (ps_ret (pe_un un_neg pe_int))))))
    (pss_one (ps_ret (pe_un un_neg pe_int)))), ?_⟩
    have kt : PySem.W.kitAny K (.ref B) ([B2, B3].map Value.ref) = some false := by
      show PySem.W.kitAny K (.ref B) [.ref B2, .ref B3] = some false
      unfold PySem.W.kitAny
      rw [br]
      unfold PySem.W.kitAny
      rw [bs]
      rfl
    refine ⟨_, rfl, x, n, rfl, hlen, hL, fun H1 d E1 nd => ⟨true, hitB, fun _ a na => ?_, fun q => nomatch q⟩⟩
    have nda : ∀ {o : HO} {tp : Addr}, (upd H1 d (.xd [("at", V.int (n : Int))])) tp = none → DictS (some d) (upd (upd H1 d (.xd [("at", V.int (n : Int))])) tp o) := fun {o tp} np d' e => by
      cases e
      exact ⟨_, by rw [upd_ne (fun z => by rw [← z, upd_same] at np; cases np)]; exact upd_same⟩
    refine ⟨fun _ _ => False, ?_, fun _ _ z => z.elim⟩
    refine ⟨B, ⟨rfl, iB⟩, _, rfl, fun d' e => ⟨[("at", V.int (n : Int))], by cases e; exact upd_same⟩, .ref B, .ref B, true, rfl, (fun u hu => hu), bb, _, rfl, iteT ⟨B, ⟨rfl, iB⟩, _, rfl, (by show 2 ≤ sizeLine; decide), fun tp np => ⟨nda np, tp, [B2, B3], false, rfl, SqT.of upd_same, kt, _, rfl, ?_⟩⟩⟩
    have hx : (upd (upd H1 d (.xd [("at", V.int (n : Int))])) tp (.tup ([B2, B3].map V.ref))) d = some (.xd [("at", V.int (n : Int))]) := by
      rw [upd_ne (fun z => by rw [← z, upd_same] at np; cases np)]; exact upd_same
    refine iteT ⟨_, rfl, rfl, rfl, d, _, _, rfl, hx, rfl, ?_⟩
    exact q _ ((E1.trans (Ex.new nd)).trans (Ex.new np))
end
end G
namespace G
open PySem PySem.Spec PyProof.Rows L2 Evl TL
/-! ## the bad pieces -/
theorem isNum_no {W : List Nat} {d : Nat} (h : d ∈ W) (hd : d ∉ tl sDIG) : isNum W = false := by
  cases W with
  | nil => rfl
  | cons c r =>
    show (_ && (c :: r).all fun d => decide (d ∈ tl sDIG)) = false
    have : ((c :: r).all fun d => decide (d ∈ tl sDIG)) = false := by
      cases hq : (c :: r).all fun d => decide (d ∈ tl sDIG) with
      | false => rfl
      | true => exact absurd (of_decide_eq_true (List.all_eq_true.mp hq d h)) hd
    rw [this, Bool.and_false]
theorem isWord_no {c : Nat} {r : List Nat} (h : c ∉ tl sLET) : isWord (c :: r) = false := by
  show (decide (c ∈ tl sLET) && _) = false
  rw [decide_eq_false h, Bool.false_and]
theorem dig_not_let : ∀ c ∈ tl sDIG, c ∉ tl sLET := by decide +kernel
theorem us_facts : isRun 95 = true ∧ 95 ∉ tl sDIG ∧ 95 ∉ tl sLET ∧ isRun 48 = true ∧ 48 ∉ tl sLET := by decide +kernel
theorem numL_dig {n c : Nat} (h : c ∈ numL n) : c ∈ tl sDIG := by
  by_cases h1 : 48 ≤ c ∧ c ≤ 57
  · exact dig_mem h1.1 h1.2
  · exact absurd h (numL_free (by omega))
theorem numL_run {n c : Nat} (h : c ∈ numL n) : isRun c = true := dig_run c (numL_dig h)
theorem numL_lt_pow (n : Nat) : n < 10 ^ (numL n).length := by
  induction n using Nat.strongRecOn with
  | _ n ih =>
    by_cases h : n < 10
    · rw [numL_lt h]; exact h
    · have := ih (n / 10) (by omega)
      rw [numL_step (by omega), List.length_append, List.length_singleton, Nat.pow_succ]
      omega
theorem numL_big {n : Nat} (h : 1000000000 ≤ n) : isNum (numL n) = false := by
  cases hq : isNum (numL n) with
  | false => rfl
  | true =>
    exfalso
    obtain ⟨c, r, e⟩ := List.exists_cons_of_ne_nil (numL_ne n)
    rw [e] at hq
    have hq' : (decide ((c :: r).length ≤ 9) && !(decide (c = 48) && !decide (c :: r = [48])) && (c :: r).all fun d => decide (d ∈ tl sDIG)) = true := hq
    rw [Bool.and_eq_true, Bool.and_eq_true] at hq'
    have hl := of_decide_eq_true hq'.1.1
    have hv := numL_lt_pow n
    rw [e] at hv
    have : 10 ^ (c :: r).length ≤ 10 ^ 9 := Nat.pow_le_pow_right (by decide) hl
    omega
theorem word_head {T : List Nat} (h : isWord T = true) : ∃ c r, T = c :: r ∧ c ∈ tl sLET := by
  cases T with
  | nil => cases h
  | cons c r =>
    have h' : (decide (c ∈ tl sLET) && (c :: r).all isRun) = true := h
    rw [Bool.and_eq_true] at h'
    exact ⟨c, r, rfl, of_decide_eq_true h'.1⟩
theorem bad1 {T : List Nat} (h : isWord T = true) : BadTok (95 :: T) :=
  .inl ⟨List.cons_ne_nil _ _, fun c hc => by
    rcases List.mem_cons.mp hc with rfl | hc
    · exact us_facts.1
    · exact (word_run h).2.1 c hc, isWord_no us_facts.2.2.1, isNum_no (List.mem_cons_self ..) us_facts.2.1⟩
theorem bad2 (n : Nat) : BadTok (48 :: numL n) :=
  .inl ⟨List.cons_ne_nil _ _, fun c hc => by
    rcases List.mem_cons.mp hc with rfl | hc
    · exact us_facts.2.2.2.1
    · exact numL_run hc, isWord_no us_facts.2.2.2.2, by
    obtain ⟨c, r, e⟩ := List.exists_cons_of_ne_nil (numL_ne n)
    show (decide ((48 :: numL n).length ≤ 9) && !(decide (48 = 48) && !decide (48 :: numL n = [48])) && _) = false
    rw [e, decide_eq_false (show ¬ 48 :: c :: r = [48] from fun z => by cases z)]
    simp⟩
theorem num_wno (n : Nat) (X : List Nat) : isWord (numL n ++ X) = false := by
  obtain ⟨c, r, e⟩ := List.exists_cons_of_ne_nil (numL_ne n)
  rw [e]
  exact isWord_no (dig_not_let c (numL_dig (n := n) (by rw [e]; exact List.mem_cons_self ..)))
theorem bad3 {n : Nat} (h : 1000000000 ≤ n) : BadTok (numL n) :=
  .inl ⟨numL_ne n, fun c hc => numL_run hc, by have := num_wno n []; rwa [List.append_nil] at this, numL_big h⟩
theorem bad4 {n : Nat} {T : List Nat} (h : isWord T = true) : BadTok (numL n ++ T) := by
  obtain ⟨c, r, rfl, hc⟩ := word_head h
  refine .inl ⟨by simp, fun d hd => ?_, num_wno n _, isNum_no (d := c) (by simp) (let_not_dig c hc)⟩
  rcases List.mem_append.mp hd with hd | hd
  · exact numL_run hd
  · exact (word_run h).2.1 d hd
theorem bad5 (n : Nat) : BadTok (numL n ++ [95]) := by
  refine .inl ⟨by simp, fun d hd => ?_, num_wno n _, isNum_no (d := 95) (by simp) us_facts.2.1⟩
  rcases List.mem_append.mp hd with hd | hd
  · exact numL_run hd
  · rw [List.mem_singleton.mp hd]; exact us_facts.1
section
variable {P : Program} {w : World} {K : PySem.W.Frag} {mg : Str → Option Value} {base : Heap}
def spWrong : Sp := fun vs H Q _ => ∃ (p a : Addr), vs = [.ref p] ∧ PoolOk p a H ∧ ∀ (W : List Nat) (H' : Hp), BadTok W → W.length ≤ 40 → Px p a H H' → Q (.str (mk W)) H'
theorem sc_law_wrong : FnScope ["pool", "kind"] ["pool"] (defScope s_law_wrong) := ⟨rfl, rfl, rfl, by decide +kernel, rfl, by decide +kernel, by decide +kernel⟩
theorem ok_law_wrong (D : Dfd K mg "_law_wrong" s_law_wrong ["pool"]) (T : TxtS mg) (C1 : Has P w K mg base 2 "_law_draw" ["pool", "many"] spDrawX) (C2 : Has P w K mg base 3 "_law_word" ["pool"] spWord) (C3 : Has P w K mg base 3 "_law_numeral" ["pool"] spNumeral) :
    Has P w K mg base 4 "_law_wrong" ["pool"] spWrong := by
  obtain ⟨f_law_draw, d_law_draw, G_law_draw, g_law_draw, k_law_draw, b_law_draw⟩ := C1
  obtain ⟨f_law_word, d_law_word, G_law_word, g_law_word, k_law_word, b_law_word⟩ := C2
  obtain ⟨f_law_numeral, d_law_numeral, G_law_numeral, g_law_numeral, k_law_numeral, b_law_numeral⟩ := C3
  refine D.has fun f fd F => F.ok sc_law_wrong (fun vs H Q E h => ?_) (fun cdv A outer s H vs Q E hr h => ?_)
  · obtain ⟨_, _, rfl, _⟩ := h
    rfl
  · obtain ⟨p, a, rfl, hp, q⟩ := h
    refine ⟨_, (pss_cons (ps_set (i := 1) sc_law_wrong.nd rfl (.inl rfl) (pe_call G_law_draw (hr.mono (by omega)) (by rfl) g_law_draw k_law_draw b_law_draw .nil pass0 (pa_cons (pv 0) (pa_cons pe_int pa_nil))))
    (pss_cons (ps_if (pt_cmpR op_eq (pv 1) pe_int (nomark _))
      (pss_one (ps_ret (pe_ix ix_str pe_str (pe_call G_law_draw (hr.mono (by omega)) (by rfl) g_law_draw k_law_draw b_law_draw .nil pass0 (pa_cons (pv 0) (pa_cons pe_int pa_nil))) (fun _ _ => rfl))))
      pss_nil)
    (pss_cons (ps_if (pt_cmpR op_eq (pv 1) pe_int (nomark _))
      (pss_one (ps_ret (pe_op op_add_str pe_str (pe_call G_law_word (hr.mono (by omega)) (by rfl) g_law_word k_law_word b_law_word .nil pass0 (pa_cons (pv 0) pa_nil)))))
      pss_nil)
    (pss_cons (ps_if (pt_cmpR op_eq (pv 1) pe_int (nomark _))
      (pss_one (ps_ret (pe_op op_add_str pe_str (pe_callTy call_str_int (by rfl) T.str (by decide +kernel) (pa_cons (pe_call G_law_numeral (hr.mono (by omega)) (by rfl) g_law_numeral k_law_numeral b_law_numeral .nil pass0 (pa_cons (pv 0) pa_nil)) pa_nil)))))
      pss_nil)
    (pss_cons (ps_if (pt_cmpR op_eq (pv 1) pe_int (nomark _))
      (pss_one (ps_ret (pe_callTy call_str_int (by rfl) T.str (by decide +kernel) (pa_cons (pe_op op_add (pe_op op_pow pe_int pe_int) (pe_call G_law_draw (hr.mono (by omega)) (by rfl) g_law_draw k_law_draw b_law_draw .nil pass0 (pa_cons (pv 0) (pa_cons (pe_op op_mul pe_int (pe_op op_pow pe_int pe_int)) pa_nil)))) pa_nil))))
      pss_nil)
    (pss_cons (ps_if (pt_cmpR op_eq (pv 1) pe_int (nomark _))
      (pss_one (ps_ret (pe_op op_add_str (pe_callTy call_str_int (by rfl) T.str (by decide +kernel) (pa_cons (pe_call G_law_numeral (hr.mono (by omega)) (by rfl) g_law_numeral k_law_numeral b_law_numeral .nil pass0 (pa_cons (pv 0) pa_nil)) pa_nil)) (pe_call G_law_word (hr.mono (by omega)) (by rfl) g_law_word k_law_word b_law_word .nil pass0 (pa_cons (pv 0) pa_nil)))))
      pss_nil)
    (pss_one (ps_ret (pe_op op_add_str (pe_callTy call_str_int (by rfl) T.str (by decide +kernel) (pa_cons (pe_call G_law_numeral (hr.mono (by omega)) (by rfl) g_law_numeral k_law_numeral b_law_numeral .nil pass0 (pa_cons (pv 0) pa_nil)) pa_nil)) pe_str))))))))), ?_⟩
    have em : ∀ n : Nat, (Str.ofString (toString ((n : Nat) : Int))) = mk (numL n) := fun n => ext_tl (tl_num n)
    have lg : ∀ n : Nat, n < 10 ^ 10 → (n : Int).natAbs.log2 < 1000 := fun n hn => by
      have : (n : Int).natAbs < 2 ^ 40 := by rw [Int.natAbs_natCast]; omega
      have := PySem.Flt.log2_lt_of (by decide : 0 < 40) this
      omega
    have l9 : ∀ n : Nat, n < 1000000000 → (numL n).length ≤ 9 := fun n hn => numL_len (by decide) hn
    refine ⟨_, rfl, p, a, 6, rfl, by decide, by decide, hp, fun v H1 hv X1 _ => ?_⟩
    refine ⟨_, rfl, rfl, _, rfl, ite2 (fun _ => ?_) (fun _ => ?_)⟩
    · refine ⟨_, rfl, p, a, 19, rfl, by decide, by decide, X1.pool, fun v2 H2 hv2 X2 _ => ?_⟩
      obtain ⟨c, hc, hcm⟩ := item_of (L := bads) (v := v2) (by show v2 < 19; omega)
      exact ⟨_, _, c, rfl, rfl, (by show 19 ≤ sizeLine; decide), atI_nat (by refine (congrArg (fun l : List Nat => l[v2]?) (show _ = bads from by decide +kernel)).trans hc), q [c] H2 (.inr ⟨c, rfl, hcm⟩) (by show 1 ≤ 40; decide) (X1.trans X2)⟩
    refine ⟨_, rfl, rfl, _, rfl, ite2 (fun _ => ?_) (fun _ => ?_)⟩
    · refine ⟨_, rfl, p, a, rfl, X1.pool, fun W H2 hW _ hl X2 => ⟨_, _, rfl, rfl, ?_, ?_⟩⟩
      · rw [mk_len]; exact sz_of (by show 1 + _ ≤ _; omega)
      · have e : ("_" : Str) ++ mk W = mk (95 :: W) := mk_app [95] W
        rw [e]
        exact q _ H2 (bad1 hW) (by rw [List.length_cons]; omega) (X1.trans X2)
    refine ⟨_, rfl, rfl, _, rfl, ite2 (fun _ => ?_) (fun _ => ?_)⟩
    · refine ⟨_, rfl, p, a, rfl, X1.pool, fun n H2 hn X2 => ⟨n, rfl, (by have := lg n (by omega); omega), _, _, rfl, rfl, ?_, ?_⟩⟩
      · rw [em, mk_len]; have := l9 n hn; exact sz_of (by show 1 + _ ≤ _; omega)
      · rw [em]
        have e : ("0" : Str) ++ mk (numL n) = mk (48 :: numL n) := mk_app [48] (numL n)
        rw [e]
        exact q _ H2 (bad2 n) (by have := l9 n hn; rw [List.length_cons]; omega) (X1.trans X2)
    refine ⟨_, rfl, rfl, _, rfl, ite2 (fun _ => ?_) (fun _ => ?_)⟩
    · have c9 : (10 : Int) ^ (9 : Int).toNat = 1000000000 := by decide
      refine ⟨_, _, rfl, rfl, ⟨by decide, by decide, by decide⟩, _, rfl, _, _, rfl, rfl, ⟨by decide, by decide, by decide⟩, _, _, rfl, rfl, .inl ⟨by decide, by decide⟩, p, a, _, rfl, by decide, by decide, X1.pool, fun v2 H2 hv2 X2 _ => ⟨_, _, rfl, rfl, ?_⟩⟩
      have hv3 : (v2 : Int) < 9 * 1000000000 := by rw [c9] at hv2; exact hv2
      have e : (10 : Int) ^ (9 : Int).toNat + (v2 : Int) = ((1000000000 + v2 : Nat) : Int) := by rw [c9]; omega
      refine ⟨((1000000000 + v2 : Nat) : Int), (by show [V.int ((10 : Int) ^ (9 : Int).toNat + (v2 : Int))] = _; rw [e]), (by have := lg (1000000000 + v2) (by omega); omega), ?_⟩
      rw [em]
      exact q _ H2 (bad3 (by omega)) (by have := numL_len (n := 1000000000 + v2) (k := 10) (by decide) (by omega); omega) (X1.trans X2)
    refine ⟨_, rfl, rfl, _, rfl, ite2 (fun _ => ?_) (fun _ => ?_)⟩
    · refine ⟨_, rfl, p, a, rfl, X1.pool, fun n H2 hn X2 => ⟨n, rfl, (by have := lg n (by omega); omega), _, rfl, p, a, rfl, X2.pool, fun W H3 hW _ hl X3 => ⟨_, _, rfl, rfl, ?_, ?_⟩⟩⟩
      · rw [em, mk_len, mk_len]; have := l9 n hn; exact sz_of (by omega)
      · rw [em, mk_app]
        exact q _ H3 (bad4 hW) (by have := l9 n hn; rw [List.length_append]; omega) ((X1.trans X2).trans X3)
    refine ⟨_, rfl, p, a, rfl, X1.pool, fun n H2 hn X2 => ⟨n, rfl, (by have := lg n (by omega); omega), _, _, rfl, rfl, ?_, ?_⟩⟩
    · rw [em, mk_len]; have := l9 n hn; exact sz_of (by show _ + 1 ≤ _; omega)
    · rw [em]
      have e : mk (numL n) ++ ("_" : Str) = mk (numL n ++ [95]) := mk_app (numL n) [95]
      rw [e]
      exact q _ H2 (bad5 n) (by have := l9 n hn; rw [List.length_append]; show _ + 1 ≤ 40; omega) (X1.trans X2)
end
end G
namespace G
open PySem PySem.Spec PyProof.Rows L2 Evl TL
/-! ## texts with a bad piece -/
def flat32 (us : List (List Nat)) : List Nat := (us.map (· ++ [32])).flatten
theorem flat32_cons (T : List Nat) (us : List (List Nat)) : flat32 (T :: us) = T ++ 32 :: flat32 us := by
  unfold flat32
  rw [List.map_cons, List.flatten_cons, List.append_assoc]; rfl
theorem lx_cast {S S' : List Nat} {n n' : Nat} (h : LxB S n) (e : S' = S) (e2 : n' = n) : LxB S' n' := by rw [e, e2]; exact h
theorem toks_lxB {S : List Nat} {n : Nat} (h : LxB S n) : ∀ us : List (List Nat), (∀ T ∈ us, TokOk T) → LxB (flat32 us ++ S) ((flat32 us).length + n)
  | [], _ => by
    have e : (flat32 []).length + n = n := by show 0 + n = n; omega
    rw [e]; exact h
  | T :: us, hT => by
    have ih := toks_lxB h us fun U hU => hT U (List.mem_cons_of_mem _ hU)
    have h32 : LxB (32 :: (flat32 us ++ S)) (1 + ((flat32 us).length + n)) := .sp (.inl rfl) ih
    have e1 : flat32 (T :: us) ++ S = T ++ 32 :: (flat32 us ++ S) := by rw [flat32_cons, List.append_assoc]; rfl
    have e2 : (flat32 (T :: us)).length + n = T.length + (1 + ((flat32 us).length + n)) := by rw [flat32_cons, List.length_append, List.length_cons]; omega
    rcases hT T (List.mem_cons_self ..) with hr | hs
    · exact lx_cast (.run hr (norun_cons run_not.1) h32) e1 e2
    · exact lx_cast (.sgn hs h32) e1 e2
theorem blank_lxB {B S : List Nat} {n : Nat} {b : Bool} (hb : Blank B b) (r : LxB S n) : LxB (B ++ S) (B.length + n) := by
  rcases hb with hb | ⟨hb, _⟩
  · have hm : mk B = " " ∨ mk B = "\n" ∨ mk B = "  " ∨ mk B = " # a = cell 1 ! \n" ∨ mk B = "\n\n " ∨ mk B = "#\n" := by
      unfold blanks at hb
      simpa using hb
    have get : ∀ s : Str, mk B = s → B = tl s := fun s e => by rw [← e]; rfl
    rcases hm with h | h | h | h | h | h <;> rw [get _ h]
    · exact lx_cast (.sp (.inl rfl) r) rfl (by show 1 + n = _; omega)
    · exact lx_cast (.sp (.inr rfl) r) rfl (by show 1 + n = _; omega)
    · exact lx_cast (.sp (.inl rfl) (.sp (.inl rfl) r)) rfl (by show 2 + n = _; omega)
    · exact lx_cast (.sp (.inl rfl) (.com (b := tl (" a = cell 1 ! " : Str)) (S := S) (by decide +kernel) (.sp (.inr rfl) r))) rfl (by show 17 + n = 1 + (15 + (1 + n)); omega)
    · exact lx_cast (.sp (.inr rfl) (.sp (.inr rfl) (.sp (.inl rfl) r))) rfl (by show 3 + n = _; omega)
    · exact lx_cast (.com (b := []) (S := S) (by simp) (.sp (.inr rfl) r)) rfl (by show 2 + n = 1 + (1 + n); omega)
  · rw [hb]
    exact lx_cast r rfl (by show 0 + n = n; omega)
theorem joinE : ∀ ps : List (List Nat), joinL [] ps = ps.flatten
  | [] => rfl
  | [p] => by show p = _; simp
  | p :: q :: r => by
    show p ++ ([] ++ joinL [] (q :: r)) = _
    rw [joinE (q :: r)]; simp
theorem joinL_le (S : List Nat) : ∀ ps : List (List Nat), (joinL S ps).length ≤ (ps.map (·.length)).sum + ps.length * S.length
  | [] => Nat.zero_le _
  | [p] => by show p.length ≤ _; simp
  | p :: q :: r => by
    show (p ++ (S ++ joinL S (q :: r))).length ≤ _
    have := joinL_le S (q :: r)
    rw [List.length_append, List.length_append, List.map_cons, List.sum_cons, List.length_cons, Nat.succ_mul]
    omega
theorem sum_le {α : Type} {g : α → Nat} {m : Nat} : ∀ l : List α, (∀ x ∈ l, g x ≤ m) → (l.map g).sum ≤ l.length * m
  | [], _ => Nat.zero_le _
  | x :: l, h => by
    have := sum_le l fun y hy => h y (List.mem_cons_of_mem _ hy)
    have h2 := h x (List.mem_cons_self ..)
    rw [List.map_cons, List.sum_cons, List.length_cons, Nat.succ_mul]
    omega
theorem join_tl (s : Str) (ps : List Str) : tl (Txt.join s ps) = joinL (tl s) (ps.map tl) := by rw [join_eq, tl_join]
theorem join_len1 (ps : List (List Nat)) (h : ∀ p ∈ ps, p.length ≤ 20) (hl : ps.length ≤ 13) : (Txt.join (" " : Str) (ps.map mk)).length ≤ 300 := by
  rw [len_tl, join_tl, List.map_map]
  have e : (tl ∘ mk : List Nat → List Nat) = id := rfl
  rw [e, List.map_id]
  have := joinL_le (tl (" " : Str)) ps
  have e1 : (tl (" " : Str)).length = 1 := by decide +kernel
  rw [e1] at this
  have h2 := sum_le (g := fun x : List Nat => x.length) (m := 20) ps h
  have h3 : ps.length * 20 ≤ 13 * 20 := Nat.mul_le_mul_right _ hl
  omega
theorem piece_of {W : List Nat} {n v : Nat} (hW : isWord W = true) (hWl : W.length ≤ 20) (hn : n < 1000000000) (hv : v < 7) :
    ∃ T, ([.str (mk W), .str (mk (numL n)), .str "->", .str "..", .str "(", .str "!", .str "="] : List V)[v]? = some (.str (mk T)) ∧ TokOk T ∧ T.length ≤ 20 := by
  have sg : ∀ s ∈ sgns, TokOk (tl s) := fun s h => .inr (by unfold SgnTok; exact h)
  match v, hv with
  | 0, _ => exact ⟨W, rfl, .inl (word_run hW), hWl⟩
  | 1, _ => exact ⟨numL n, rfl, .inl (num_run (isNum_num hn)), by have := numL_len (n := n) (k := 9) (by decide) hn; omega⟩
  | 2, _ => exact ⟨tl "->", rfl, sg _ (by decide +kernel), by decide +kernel⟩
  | 3, _ => exact ⟨tl "..", rfl, sg _ (by decide +kernel), by decide +kernel⟩
  | 4, _ => exact ⟨tl "(", rfl, sg _ (by decide +kernel), by decide +kernel⟩
  | 5, _ => exact ⟨tl "!", rfl, sg _ (by decide +kernel), by decide +kernel⟩
  | 6, _ => exact ⟨tl "=", rfl, sg _ (by decide +kernel), by decide +kernel⟩
  | n + 7, h => omega
def spLaw (K : PySem.W.Frag) : Sp := fun vs H Q _ => ∃ (a : Addr) (ns : List Int), vs = [.ref a] ∧ SqL K H a (ns.map V.int) ∧ ns.length ≤ 63 ∧ ∀ H', Q (.bl true) H'
section
variable {P : Program} {w : World} {K : PySem.W.Frag} {mg : Str → Option Value} {base : Heap}
theorem sc_law : FnScope ["script", "pool", "turn", "tokens", "k", "place", "before", "text", "token"] ["script"] (defScope s_law) := ⟨rfl, rfl, rfl, by decide +kernel, rfl, by decide +kernel, by decide +kernel⟩
theorem fn_law {f : Addr} {fd : FuncData} (F : Fun K "law" "law" s_law f fd) (T : TxtS mg) (C1 : Has P w K mg base 1 "_law_pool" ["script"] (spPool K)) (C2 : Has P w K mg base 2 "_law_draw" ["pool", "many"] spDrawX) (C3 : Has P w K mg base 3 "_law_word" ["pool"] spWord) (C4 : Has P w K mg base 3 "_law_numeral" ["pool"] spNumeral)
    (C5 : Has P w K mg base 3 "_law_blank" ["pool", "needed"] spBlank) (C6 : Has P w K mg base 4 "_law_wrong" ["pool"] spWrong) (C7 : Has P w K mg base 2 "_law_same" ["actual", "due"] (spSame 2)) (C8 : Has P w K mg base 5 "_law_told" ["text"] spTold) :
    FnOk P w K mg base CX0 6 f fd ["script"] (spLaw K) := by
  obtain ⟨f_law_pool, d_law_pool, G_law_pool, g_law_pool, k_law_pool, b_law_pool⟩ := C1
  obtain ⟨f_law_draw, d_law_draw, G_law_draw, g_law_draw, k_law_draw, b_law_draw⟩ := C2
  obtain ⟨f_law_word, d_law_word, G_law_word, g_law_word, k_law_word, b_law_word⟩ := C3
  obtain ⟨f_law_numeral, d_law_numeral, G_law_numeral, g_law_numeral, k_law_numeral, b_law_numeral⟩ := C4
  obtain ⟨f_law_blank, d_law_blank, G_law_blank, g_law_blank, k_law_blank, b_law_blank⟩ := C5
  obtain ⟨f_law_wrong, d_law_wrong, G_law_wrong, g_law_wrong, k_law_wrong, b_law_wrong⟩ := C6
  obtain ⟨f_law_same, d_law_same, G_law_same, g_law_same, k_law_same, b_law_same⟩ := C7
  obtain ⟨f_law_told, d_law_told, G_law_told, g_law_told, k_law_told, b_law_told⟩ := C8
  refine F.ok sc_law (fun vs H Q E h => ?_) (fun cdv A outer s H vs Q E hr h => ?_)
  · obtain ⟨a, ns, rfl, _⟩ := h
    rfl
  · obtain ⟨sa, ns, rfl, hs, hn, q⟩ := h
    refine ⟨_, (pss_cons (ps_set (i := 1) sc_law.nd rfl (.inl rfl) (pe_call G_law_pool (hr.mono (by omega)) (by rfl) g_law_pool k_law_pool b_law_pool .nil pass0 (pa_cons (pv 0) pa_nil)))
    (pss_cons (ps_for PassesOwn.never rfl (pi_range1 rfl T.range (pa_cons pe_int pa_nil)) (pg_name (i := 2) sc_law.nd rfl (.inl rfl))
      (pss_cons (ps_set (i := 3) sc_law.nd rfl (.inl rfl) (pe_lst pa_nil))
      (pss_cons (ps_for PassesOwn.never rfl (pi_range1 rfl T.range (pa_cons (pe_call G_law_draw (hr.mono (by omega)) (by rfl) g_law_draw k_law_draw b_law_draw .nil pass0 (pa_cons (pv 1) (pa_cons pe_int pa_nil))) pa_nil)) (pg_name (i := 4) sc_law.nd rfl (.inl rfl))
        (pss_one (ps_expr (pe_bm PySem.F.plainAttrs_list PySem.F.slot_list_append PySem.F.type_list_append mt_append (pv 3) (pa_cons (pe_ix ix_list (pe_lst (pa_cons (pe_call G_law_word (hr.mono (by omega)) (by rfl) g_law_word k_law_word b_law_word .nil pass0 (pa_cons (pv 1) pa_nil)) (pa_cons (pe_callTy call_str_int (by rfl) T.str (by decide +kernel) (pa_cons (pe_call G_law_numeral (hr.mono (by omega)) (by rfl) g_law_numeral k_law_numeral b_law_numeral .nil pass0 (pa_cons (pv 1) pa_nil)) pa_nil)) (pa_cons pe_str (pa_cons pe_str (pa_cons pe_str (pa_cons pe_str (pa_cons pe_str pa_nil)))))))) (pe_call G_law_draw (hr.mono (by omega)) (by rfl) g_law_draw k_law_draw b_law_draw .nil pass0 (pa_cons (pv 1) (pa_cons pe_int pa_nil))) (fun _ _ => rfl)) pa_nil)))))
      (pss_cons (ps_set (i := 5) sc_law.nd rfl (.inl rfl) (pe_call G_law_draw (hr.mono (by omega)) (by rfl) g_law_draw k_law_draw b_law_draw .nil pass0 (pa_cons (pv 1) (pa_cons (pe_op op_add (pe_callB call_len_seq (by rfl) T.len (by decide +kernel) (pa_cons (pv 3) pa_nil)) pe_int) pa_nil))))
      (pss_cons (ps_set (i := 6) sc_law.nd rfl (.inl rfl) (pe_op op_add_str (pe_join pe_str (pe_lc (own := [("token", 8)]) (g := gName 8) (tt := tYes) rfl sc_law.nd (pi_list (pe_slice sl_list (pv 3) po_none (po_some (pv 5)))) (blkOk_by (N := ["script", "pool", "turn", "tokens", "k", "place", "before", "text", "token"]) (sc := defScope s_law) (own := [("token", 8)]) (by decide +kernel)) (fun _ _ _ _ _ => (pg_name (i := 8) sc_law.nd rfl (.inl rfl))) (fun _ _ _ _ _ => pts_nil) (fun _ _ _ _ _ => (pe_op op_add_str (pv 8) pe_str)))) (pe_call G_law_blank (hr.mono (by omega)) (by rfl) g_law_blank k_law_blank b_law_blank .nil pass0 (pa_cons (pv 1) (pa_cons pe_bl pa_nil)))))
      (pss_cons (ps_set (i := 7) sc_law.nd rfl (.inl rfl) (pe_op op_add_str (pe_op op_add_str (pe_op op_add_str (pv 6) (pe_call G_law_wrong (hr.mono (by omega)) (by rfl) g_law_wrong k_law_wrong b_law_wrong .nil pass0 (pa_cons (pv 1) pa_nil))) pe_str) (pe_join pe_str (pe_slice sl_list (pv 3) (po_some (pv 5)) po_none))))
      (pss_cut (ps_if (pt_cmpR op_eq (pe_call G_law_draw (hr.mono (by omega)) (by rfl) g_law_draw k_law_draw b_law_draw .nil pass0 (pa_cons (pv 1) (pa_cons pe_int pa_nil))) pe_int (nomark _))
        (pss_one (ps_set (i := 7) sc_law.nd rfl (.inl rfl) (pe_op op_add_str (pe_op op_add_str (pv 7) pe_str) (pe_call G_law_wrong (hr.mono (by omega)) (by rfl) g_law_wrong k_law_wrong b_law_wrong .nil pass0 (pa_cons (pv 1) pa_nil)))))
        pss_nil)
      (pss_one (ps_if (pt_not (pt_val (pe_call G_law_same (hr.mono (by omega)) (by rfl) g_law_same k_law_same b_law_same .nil pass0 (pa_cons (pe_call G_law_told (hr.mono (by omega)) (by rfl) g_law_told k_law_told b_law_told .nil pass0 (pa_cons (pv 7) pa_nil)) (pa_cons (pe_callB call_len_str (by rfl) T.len (by decide +kernel) (pa_cons (pv 6) pa_nil)) pa_nil)))))
        (pss_one (ps_ret pe_bl))
        pss_nil)))))))))
    (pss_one (ps_ret pe_bl)))), ?_⟩
    refine ⟨_, rfl, sa, ns, rfl, hs, by omega, fun p a H0 hp _ _ => ⟨_, rfl, by decide, by decide, for_range (n := ((4 : Nat) : Int).toNat)
      (fun k σ H' => PoolOk p a H' ∧ ∃ y2 y3 y4 y5 y6 y7 y8 : Option V, σ = [some (.ref sa), some (.ref p), y2, y3, y4, y5, y6, y7, y8]) ⟨hp, _, _, _, _, _, _, _, rfl⟩ ?_ ?_⟩⟩
    · rintro k σ H1 hk ⟨hp1, y2, y3, y4, y5, y6, y7, y8, rfl⟩
      refine ⟨Nat.zero_le _, fun L nL => ?_⟩
      have P1 : PoolOk p a (upd H1 L (.lst [])) := ((Px.refl hp1).new nL).pool
      refine ⟨_, rfl, p, a, 13, rfl, by decide, by decide, P1, fun m H2 hm X2 _ => ⟨m, rfl, by omega, by omega, for_range (n := ((m : Nat) : Int).toNat)
        (fun i σ H' => Px p a H1 H' ∧ ∃ (us : List (List Nat)) (y4 : Option V), us.length = i ∧ H' L = some (.lst (strsV us)) ∧ (∀ T ∈ us, TokOk T ∧ T.length ≤ 20) ∧ σ = [some (.ref sa), some (.ref p), some (.int (0 + (k : Nat))), some (.ref L), y4, y5, y6, y7, y8])
        ⟨((Px.refl hp1).new nL).trans X2, [], _, rfl, ?_, (fun _ h => by cases h), rfl⟩ ?_ ?_⟩⟩
      · exact X2.at_ (by rw [hid_ne (fun z => (hp1.ne nL) z)]; exact upd_same)
      · rintro i σ H3 hi ⟨X3, us, y4', hul, hL, hT, rfl⟩
        refine ⟨_, rfl, .inl ⟨rfl, _, SqL.of hL⟩, _, rfl, p, a, rfl, X3.pool, fun W H4 hW _ hWl X4 => ⟨_, rfl, p, a, rfl, X4.pool, fun n H5 hn5 X5 => ⟨n, rfl, ?_, (by show 7 ≤ sizeLine; decide), fun l nl => ?_⟩⟩⟩
        · have : (n : Int).natAbs < 2 ^ 30 := by rw [Int.natAbs_natCast]; omega
          have := PySem.Flt.log2_lt_of (by decide : 0 < 30) this
          omega
        have X45 := X4.trans X5
        have X5l := X45.new (o := .lst [.str (mk W), .str (Str.ofString (toString (n : Int))), .str "->", .str "..", .str "(", .str "!", .str "="]) nl
        refine ⟨_, rfl, p, a, 7, rfl, by decide, by decide, X5l.pool, fun v H6 hv X6 k6 => ?_⟩
        have hl6 : H6 l = some (.lst [.str (mk W), .str (Str.ofString (toString (n : Int))), .str "->", .str "..", .str "(", .str "!", .str "="]) := by rw [k6 _ (X45.pool.ne nl)]; exact upd_same
        have em : (Str.ofString (toString ((n : Nat) : Int))) = mk (numL n) := ext_tl (tl_num n)
        rw [em] at hl6
        obtain ⟨U, hit, hU, hUl⟩ := piece_of (W := W) (n := n) hW hWl hn5 (v := v) (by omega)
        have hL6 := (X5l.trans X6).at_ (X3.seen nL hL)
        refine ⟨_, _, _, _, rfl, rfl, SqL.of hl6, atI_nat hit, L, _, _, rfl, rfl, hL6, ?_, (X3.trans (X5l.trans X6)).mut nL, us ++ [U], _, by rw [List.length_append, hul]; rfl, by rw [upd_same, strsV_add], fun T' hT' => ?_, rfl⟩
        · exact sz_lt (by unfold strsV; rw [List.length_map]; omega)
        · rcases List.mem_append.mp hT' with h | h
          · exact hT T' h
          · rw [List.mem_singleton.mp h]; exact ⟨hU, hUl⟩
      · rintro σ H3 ⟨X3, us, y4', hul, hL, hT, rfl⟩
        have hm13 : us.length ≤ 13 := by rw [hul]; omega
        refine ⟨_, rfl, _, rfl, L, _, rfl, .inl (SqL.of hL), _, _, rfl, rfl, p, a, _, rfl, ?_, ?_, X3.pool, fun pl H4 hpl X4 _ => ?_⟩
        · have e0 : (strsV us).length = us.length := by unfold strsV; rw [List.length_map]
          rw [e0]; omega
        · have e0 : (strsV us).length = us.length := by unfold strsV; rw [List.length_map]
          rw [e0]; omega
        have e0 : (strsV us).length = us.length := by unfold strsV; rw [List.length_map]
        rw [e0] at hpl
        have hpl' : pl ≤ us.length := by omega
        have X34 := X3.trans X4
        have hL4 := X4.at_ (X3.seen nL hL)
        refine ⟨⟨_, rfl⟩, _, rfl, _, rfl, _, rfl, L, strsV us, rfl, SqL.of hL4, fun S nS => ?_⟩
        have eC : cutV (strsV us) none (some (pl : Int)) = strsV (us.take pl) := by
          rw [cutV_head (by rw [e0]; exact hpl')]
          unfold strsV
          rw [List.map_take]
        rw [eC]
        have X5 := X34.new (o := .lst (strsV (us.take pl))) nS
        have hS : (upd H4 S (.lst (strsV (us.take pl)))) S = some (.lst (strsV (us.take pl))) := upd_same
        have hL5 : (upd H4 S (.lst (strsV (us.take pl)))) L = some (.lst (strsV us)) := Ex.new nS _ _ hL4
        have nLS := X34.free nS
        have hTt : ∀ T' ∈ us.take pl, TokOk T' ∧ T'.length ≤ 20 := fun T' h => hT T' (List.mem_of_mem_take h)
        have hlt : (us.take pl).length ≤ 13 := by rw [List.length_take]; omega
        generalize upd H4 S (.lst (strsV (us.take pl))) = H5 at *
        generalize hvs : us.take pl = vs at *
        refine ⟨S, rfl, ⟨_, SqL.of hS⟩, fun L5 n5 => wk_list (K := K) (a := S) (xs := strsV vs)
          (fun k H' => Ex H5 H' ∧ H' L5 = some (.lst (strsV ((vs.take k).map (· ++ [32]))))) ⟨Ex.new n5, upd_same⟩ (fun k H' _ g => SqL.of (g.1 _ _ hS)) ?_ ?_⟩
        · rintro j y H6 hy ⟨E6, h5⟩
          unfold strsV at hy
          rw [List.getElem?_map] at hy
          obtain ⟨l, hl, rfl⟩ := Option.map_eq_some_iff.mp hy
          have hk := (List.getElem?_eq_some_iff.mp hl).1
          have hl1 := hTt l (List.mem_of_getElem? hl)
          refine ⟨rfl, tYes_in ?_⟩
          simp only [wipe, _root_.L2.start, List.map_cons, List.map_nil, List.length_cons, List.length_nil, Nat.reduceAdd, Nat.reduceSub, List.replicate_succ, List.replicate_zero, List.cons_append, List.nil_append, List.set_cons_zero, List.set_cons_succ]
          refine ⟨_, rfl, _, _, rfl, rfl, sz_of (by rw [mk_len]; show l.length + 1 ≤ _; omega), _, h5, ?_, E6.mut n5, ?_⟩
          · unfold strsV; rw [List.length_map, List.length_map, List.length_take]; exact sz_lt (by omega)
          · have e1 : mk l ++ (" " : Str) = mk (l ++ [32]) := mk_app l [32]
            rw [upd_same, List.take_add_one, hl, e1]
            unfold strsV
            rw [Option.toList_some, List.map_append, List.map_append]; rfl
        · rintro H6 ⟨E6, h5⟩
          have e0 : (strsV vs).length = vs.length := by unfold strsV; rw [List.length_map]
          rw [e0, List.take_length] at h5
          have h5 : H6 L5 = some (.lst (((vs.map (· ++ [32])).map mk).map V.str)) := by rw [h5]; unfold strsV; simp only [List.map_map]; rfl
          have X6 := X5.more E6
          have hflat : (flat32 vs).length ≤ 300 := by
            unfold flat32
            rw [List.length_flatten]
            have := sum_le (g := List.length) (m := 21) (vs.map (· ++ [32])) fun x hx => by
              obtain ⟨l, hl, rfl⟩ := List.mem_map.mp hx
              have := (hTt l hl).2
              rw [List.length_append]; show _ + 1 ≤ 21; omega
            rw [List.length_map] at this
            omega
          refine ⟨_, L5, (vs.map (· ++ [32])).map mk, rfl, rfl, .inl (SqL.of h5), ?_, ?_⟩
          · have := sum_le (g := fun s : Str => s.length) (m := 21) ((vs.map (· ++ [32])).map mk) fun x hx => by
              obtain ⟨y, hy, rfl⟩ := List.mem_map.mp hx
              obtain ⟨l, hl, rfl⟩ := List.mem_map.mp hy
              have := (hTt l hl).2
              rw [mk_len, List.length_append]; show _ + 1 ≤ 21; omega
            rw [List.length_map, List.length_map] at *
            have e1 : ("" : Str).length = 0 := rfl
            rw [e1, Nat.mul_zero]
            omega
          have ej : Txt.join ("" : Str) ((vs.map (· ++ [32])).map mk) = mk (flat32 vs) := ext_tl (by
            rw [join_tl, List.map_map]
            have : (tl ∘ mk : List Nat → List Nat) = id := rfl
            rw [this, List.map_id]
            exact joinE _)
          rw [ej]
          refine ⟨_, rfl, p, a, false, rfl, X6.pool, fun B H7 hB hBl X7 => ?_⟩
          have sp1 : (" " : Str).length = 1 := by decide +kernel
          have hL6 := E6 _ _ hL5
          have X67 := X6.trans X7
          have hL7 := X7.at_ (X6.seen nL hL6)
          refine ⟨_, _, rfl, rfl, ?_, ?_⟩
          · rw [mk_len, mk_len]; exact sz_of (by omega)
          rw [mk_app]
          refine ⟨_, rfl, _, rfl, p, a, rfl, X67.pool, fun W H8 hW hWl X8 => ⟨_, _, rfl, rfl, ?_, _, _, rfl, rfl, ?_, ?_⟩⟩
          · rw [mk_len, mk_len, List.length_append]; exact sz_of (by omega)
          · rw [Str.length_append, mk_len, mk_len, List.length_append, sp1]; exact sz_of (by omega)
          have X8' := X67.trans X8
          have hL8 := X8.at_ (X67.seen nL hL7)
          refine ⟨⟨_, rfl⟩, _, rfl, _, rfl, _, rfl, L, strsV us, rfl, SqL.of hL8, fun S2 n2 => ?_⟩
          have eD : cutV (strsV us) (some (pl : Int)) none = ((us.drop pl).map mk).map V.str := by
            rw [cutV_tail (by unfold strsV; rw [List.length_map]; exact hpl')]
            unfold strsV
            rw [← List.map_drop, List.map_map]; rfl
          rw [eD]
          have X9 := X8'.new (o := .lst (((us.drop pl).map mk).map V.str)) n2
          have hS2 : (upd H8 S2 (.lst (((us.drop pl).map mk).map V.str))) S2 = some (.lst (((us.drop pl).map mk).map V.str)) := upd_same
          generalize upd H8 S2 (.lst (((us.drop pl).map mk).map V.str)) = H9 at *
          have hsum : (((us.drop pl).map mk).map fun s : Str => s.length).sum ≤ 13 * 20 := by
            have := sum_le (g := fun s : Str => s.length) (m := 20) ((us.drop pl).map mk) fun x hx => by
              obtain ⟨l, hl, rfl⟩ := List.mem_map.mp hx
              rw [mk_len]; exact (hT l (List.mem_of_mem_drop hl)).2
            rw [List.length_map, List.length_drop] at this
            have h2 : (us.length - pl) * 20 ≤ 13 * 20 := Nat.mul_le_mul_right _ (by omega)
            omega
          have hjl : (Txt.join (" " : Str) ((us.drop pl).map mk)).length ≤ 300 := join_len1 _ (fun l hl => (hT l (List.mem_of_mem_drop hl)).2) (by rw [List.length_drop]; omega)
          refine ⟨_, S2, (us.drop pl).map mk, rfl, rfl, .inl (SqL.of hS2), ?_, _, _, rfl, rfl, ?_, ?_⟩
          · rw [sp1, List.length_map, List.length_drop]
            omega
          · rw [Str.length_append, Str.length_append, mk_len, mk_len, List.length_append, sp1]; exact sz_of (by omega)
          generalize Txt.join (" " : Str) ((us.drop pl).map mk) = J at *
          refine ⟨fun σ H' => PoolOk p a H' ∧ ∃ (x : Str) (R : List Nat), tl x = (flat32 vs ++ B) ++ (W ++ 32 :: R) ∧ x.length ≤ 2000 ∧ σ = [some (.ref sa), some (.ref p), some (.int (0 + (k : Nat))), some (.ref L), y4', some (.int (pl : Nat)), some (.str (mk (flat32 vs ++ B))), some (.str x), y8], ?_, ?_⟩
          · have ex : ∀ Y : Str, tl (mk (flat32 vs ++ B) ++ mk W ++ (" " : Str) ++ Y) = (flat32 vs ++ B) ++ (W ++ 32 :: tl Y) := fun Y => by
              rw [tl_append, tl_append, tl_append]
              have e3 : tl (" " : Str) = [32] := by decide +kernel
              rw [e3, tl_mkS, tl_mkS]
              simp
            have el : (mk (flat32 vs ++ B) ++ mk W ++ (" " : Str) ++ J).length ≤ 1000 := by
              rw [Str.length_append, Str.length_append, Str.length_append, mk_len, mk_len, List.length_append, sp1]; omega
            refine ⟨_, rfl, p, a, 2, rfl, by decide, by decide, X9.pool, fun v H10 hv X10 _ => ⟨rfl, _, rfl, ite2 (fun _ => ?_) (fun _ => ?_)⟩⟩
            · refine ⟨_, rfl, _, _, rfl, rfl, ?_, _, rfl, p, a, rfl, X10.pool, fun W2 H11 hW2 hWl2 X11 => ⟨_, _, rfl, rfl, ?_, (X10.trans X11).pool, _, tl (J ++ ((" " : Str) ++ mk W2)), ?_, ?_, rfl⟩⟩
              · rw [sp1]; exact sz_of (by omega)
              · rw [Str.length_append, sp1, mk_len]; exact sz_of (by omega)
              · have := ex (J ++ ((" " : Str) ++ mk W2))
                simp only [Str.append_assoc] at this ⊢
                exact this
              · rw [Str.length_append, Str.length_append, sp1, mk_len]; omega
            · exact ⟨X10.pool, _, _, ex _, by omega, rfl⟩
          · rintro σ H10 ⟨hp10, x, R, hx, hxl, rfl⟩
            have hlx : LxB (tl x) ((flat32 vs ++ B).length + 0) := by
              rw [hx, List.append_assoc]
              refine lx_cast (toks_lxB (blank_lxB hB (.bad (R := R) hW)) vs fun T' h => (hTt T' h).1) rfl ?_
              rw [List.length_append]; omega
            rw [Nat.add_zero] at hlx
            refine ⟨_, rfl, x, _, rfl, by omega, hlx, fun H11 E11 => ⟨_, rfl, _, rfl, ?_, _, _, .int ((flat32 vs ++ B).length : Nat), rfl, .int _, ?_, trivial, _, rfl, iteF ⟨(Px.ofEx hp10 E11).pool, _, _, _, _, _, _, _, rfl⟩⟩⟩
            · rw [mk_len, List.length_append]; exact sz_of (by omega)
            · rw [mk_len]; exact .int _
    · rintro σ H1 ⟨hp1, y2, y3, y4, y5, y6, y7, y8, rfl⟩
      exact q H1
end
end G
namespace G
open PySem PySem.Spec PyProof.Rows L2
/-- the defs and the built-in names as the top has left them -/
structure All (K : PySem.W.Frag) (mg : Str → Option Value) : Prop where
  d_tokenize : Dfd K mg "tokenize" s_tokenize ["text"]
  d_is_numeral : Dfd K mg "is_numeral" s_is_numeral ["token"]
  d_is_word : Dfd K mg "is_word" s_is_word ["token"]
  d_token_at : Dfd K mg "_token_at" s_token_at ["text", "at"]
  d_run_end : Dfd K mg "_run_end" s_run_end ["text", "at"]
  d_line_end : Dfd K mg "_line_end" s_line_end ["text", "at"]
  d_law_pool : Dfd K mg "_law_pool" s_law_pool ["script"]
  d_law_spread : Dfd K mg "_law_spread" s_law_spread ["cell"]
  d_law_draw : Dfd K mg "_law_draw" s_law_draw ["pool", "many"]
  d_law_same : Dfd K mg "_law_same" s_law_same ["actual", "due"]
  d_law_word : Dfd K mg "_law_word" s_law_word ["pool"]
  d_law_numeral : Dfd K mg "_law_numeral" s_law_numeral ["pool"]
  d_law_blank : Dfd K mg "_law_blank" s_law_blank ["pool", "needed"]
  d_law_wrong : Dfd K mg "_law_wrong" s_law_wrong ["pool"]
  d_law_told : Dfd K mg "_law_told" s_law_told ["text"]
  z_super : mg "super" = none
  z_len : mg "len" = none
  z_all : mg "all" = none
  z_int : mg "int" = none
  z_list : mg "list" = none
  z_range : mg "range" = none
  z_isinstance : mg "isinstance" = none
  z_tuple : mg "tuple" = none
  z_bool : mg "bool" = none
  z_str : mg "str" = none
  z_ValueError : mg "ValueError" = none
  c_SIGNS : ∃ a, mg "SIGNS" = some (.ref a) ∧ ∀ H, SqT K H a [.str "(", .str ")", .str "{", .str "}", .str ",", .str ";", .str ":", .str "=", .str "->", .str "..", .str "&", .str "|", .str "^", .str "!"]
  c_LETTERS : ∃ t, mg "LETTERS" = some (.str "abcdefghijklmnopqrstuvwxyz" t)
  c_DIGITS : ∃ t, mg "DIGITS" = some (.str "0123456789" t)
  c_RUN_CHARACTERS : ∃ t, mg "RUN_CHARACTERS" = some (.str "abcdefghijklmnopqrstuvwxyz0123456789_" t)
  c_MOST_DIGITS : ∃ t, mg "MOST_DIGITS" = some (.int 9 t)
end G
namespace G
open PySem PySem.Spec PyProof.Rows L2
theorem glue {P : Program} {w : World} {K : PySem.W.Frag} {mg : Str → Option Value} {base : Heap} (A : All K mg) (OX : ∃ (C f : Addr) (fd : FuncData), ErrF P K mg "BadToken" "BadToken.__init__" C f fd s_BadToken_init "at" ∧ IsK K mg C "BadToken" true ∧ IsK K mg C "BadSyntax" false ∧ IsK K mg C "TooDeep" false ∧ CatchK K mg C "SignoffError")
    {f : Addr} {fd : FuncData} (F : Fun K "law" "law" s_law f fd) : FnOk P w K mg base CX0 6 f fd ["script"] (spLaw K) := by
  have TL : TxtL mg := ⟨A.z_int, A.z_len, A.z_list, A.z_range⟩
  have TS : TxtS mg := ⟨A.z_isinstance, A.z_tuple, A.z_list, A.z_len, A.z_range, A.z_bool, A.z_int, A.z_str⟩
  have TK : TxtK K mg := ⟨A.z_len, A.z_all, A.c_LETTERS, A.c_DIGITS, A.c_RUN_CHARACTERS, A.c_MOST_DIGITS, A.c_SIGNS⟩
  obtain ⟨B, fB, dB, OB, bb, ⟨D1, g1, h1⟩, ⟨D2, g2, h2⟩, ⟨S, gS, hS⟩⟩ := OX
  have O1 := own_BadToken (w := w) (base := base) OB
  have hd := drawX (P := P) (w := w) (base := base) (ok_law_draw A.d_law_draw TL (ok_law_spread A.d_law_spread TL))
  have hw := ok_is_word (P := P) (w := w) (base := base) A.d_is_word TK
  have hn := ok_is_numeral (P := P) (w := w) (base := base) A.d_is_numeral TK
  have ht := ok_token_atB O1 A.d_token_at TK (ok_run_end A.d_run_end TK) hw hn
  have hlw := ok_law_word A.d_law_word TS hd
  have hln := ok_law_numeral A.d_law_numeral hd
  exact fn_law F TS (ok_law_pool A.d_law_pool TL) hd hlw hln (ok_law_blank A.d_law_blank hd) (ok_law_wrong A.d_law_wrong TS hd hlw hln) (ok_law_same A.d_law_same TS 2)
    (ok_law_told A.d_law_told TS OB.gC g1 g2 gS OB.isc OB.no (bb.at_ OB.gC) h1 h2 hS (ok_tokenizeB A.d_tokenize TK (ok_line_end A.d_line_end TK) ht))
end G
namespace G
open PySem PySem.Spec PyProof.Rows L2
theorem all_mk {l : PySem.W.OpenLaw} {w : World} {K : PySem.W.Frag} {h : Heap} {mg : Str → Option Value} {fa f0 f1 f2 f3 f4 f5 f6 f7 f8 f9 f10 f11 f12 f13 f14 f15 : Addr} (X : K.In h) (G : h.Ns mainGlobals mg) (hfa : mg "law" = some (.ref fa))
    {od0 an0 od1 an1 od2 an2 od3 an3 od4 an4 od5 an5 od6 an6 od7 an7 od8 an8 od9 an9 od10 an10 od11 an11 od12 an12 od13 an13 od14 an14 od15 an15 : Option Addr} {sl0 sl1 sl2 sl3 sl4 sl5 sl6 sl7 sl8 sl9 sl10 sl11 sl12 sl13 sl14 sl15 : Array (Option Value)} {oc0 kv0 dc0 pm0 cd0 ct0 oc1 kv1 dc1 pm1 cd1 ct1 oc2 kv2 dc2 pm2 cd2 ct2 oc3 kv3 dc3 pm3 cd3 ct3 oc4 kv4 dc4 pm4 cd4 ct4 oc5 kv5 dc5 pm5 cd5 ct5 oc6 kv6 dc6 pm6 cd6 ct6 oc7 kv7 dc7 pm7 cd7 ct7 oc8 kv8 dc8 pm8 cd8 ct8 oc9 kv9 dc9 pm9 cd9 ct9 oc10 kv10 dc10 pm10 cd10 ct10 oc11 kv11 dc11 pm11 cd11 ct11 oc12 kv12 dc12 pm12 cd12 ct12 oc13 kv13 dc13 pm13 cd13 ct13 oc14 kv14 dc14 pm14 cd14 ct14 oc15 kv15 dc15 pm15 cd15 ct15 : Value}
    (a0 : PySem.W.nsIn K mainGlobals "tokenize" = some (some (.ref f0))) (l0 : K.lookup f0 = some ⟨oc0, od0, .func (PySem.W.fnOf "tokenize" "tokenize" (defArgs s_tokenize) (defBody s_tokenize) (defScope s_tokenize) .none kv0 dc0 pm0 an0 cd0 ct0), sl0⟩) (c0 : PySem.W.codeIn K cd0 "tokenize" = true) (k0 : PySem.W.keepIn K (.ref f0) = true)
    (a1 : PySem.W.nsIn K mainGlobals "is_numeral" = some (some (.ref f1))) (l1 : K.lookup f1 = some ⟨oc1, od1, .func (PySem.W.fnOf "is_numeral" "is_numeral" (defArgs s_is_numeral) (defBody s_is_numeral) (defScope s_is_numeral) .none kv1 dc1 pm1 an1 cd1 ct1), sl1⟩) (c1 : PySem.W.codeIn K cd1 "is_numeral" = true) (k1 : PySem.W.keepIn K (.ref f1) = true)
    (a2 : PySem.W.nsIn K mainGlobals "is_word" = some (some (.ref f2))) (l2 : K.lookup f2 = some ⟨oc2, od2, .func (PySem.W.fnOf "is_word" "is_word" (defArgs s_is_word) (defBody s_is_word) (defScope s_is_word) .none kv2 dc2 pm2 an2 cd2 ct2), sl2⟩) (c2 : PySem.W.codeIn K cd2 "is_word" = true) (k2 : PySem.W.keepIn K (.ref f2) = true)
    (a3 : PySem.W.nsIn K mainGlobals "_token_at" = some (some (.ref f3))) (l3 : K.lookup f3 = some ⟨oc3, od3, .func (PySem.W.fnOf "_token_at" "_token_at" (defArgs s_token_at) (defBody s_token_at) (defScope s_token_at) .none kv3 dc3 pm3 an3 cd3 ct3), sl3⟩) (c3 : PySem.W.codeIn K cd3 "_token_at" = true) (k3 : PySem.W.keepIn K (.ref f3) = true)
    (a4 : PySem.W.nsIn K mainGlobals "_run_end" = some (some (.ref f4))) (l4 : K.lookup f4 = some ⟨oc4, od4, .func (PySem.W.fnOf "_run_end" "_run_end" (defArgs s_run_end) (defBody s_run_end) (defScope s_run_end) .none kv4 dc4 pm4 an4 cd4 ct4), sl4⟩) (c4 : PySem.W.codeIn K cd4 "_run_end" = true) (k4 : PySem.W.keepIn K (.ref f4) = true)
    (a5 : PySem.W.nsIn K mainGlobals "_line_end" = some (some (.ref f5))) (l5 : K.lookup f5 = some ⟨oc5, od5, .func (PySem.W.fnOf "_line_end" "_line_end" (defArgs s_line_end) (defBody s_line_end) (defScope s_line_end) .none kv5 dc5 pm5 an5 cd5 ct5), sl5⟩) (c5 : PySem.W.codeIn K cd5 "_line_end" = true) (k5 : PySem.W.keepIn K (.ref f5) = true)
    (a6 : PySem.W.nsIn K mainGlobals "_law_pool" = some (some (.ref f6))) (l6 : K.lookup f6 = some ⟨oc6, od6, .func (PySem.W.fnOf "_law_pool" "_law_pool" (defArgs s_law_pool) (defBody s_law_pool) (defScope s_law_pool) .none kv6 dc6 pm6 an6 cd6 ct6), sl6⟩) (c6 : PySem.W.codeIn K cd6 "_law_pool" = true) (k6 : PySem.W.keepIn K (.ref f6) = true)
    (a7 : PySem.W.nsIn K mainGlobals "_law_spread" = some (some (.ref f7))) (l7 : K.lookup f7 = some ⟨oc7, od7, .func (PySem.W.fnOf "_law_spread" "_law_spread" (defArgs s_law_spread) (defBody s_law_spread) (defScope s_law_spread) .none kv7 dc7 pm7 an7 cd7 ct7), sl7⟩) (c7 : PySem.W.codeIn K cd7 "_law_spread" = true) (k7 : PySem.W.keepIn K (.ref f7) = true)
    (a8 : PySem.W.nsIn K mainGlobals "_law_draw" = some (some (.ref f8))) (l8 : K.lookup f8 = some ⟨oc8, od8, .func (PySem.W.fnOf "_law_draw" "_law_draw" (defArgs s_law_draw) (defBody s_law_draw) (defScope s_law_draw) .none kv8 dc8 pm8 an8 cd8 ct8), sl8⟩) (c8 : PySem.W.codeIn K cd8 "_law_draw" = true) (k8 : PySem.W.keepIn K (.ref f8) = true)
    (a9 : PySem.W.nsIn K mainGlobals "_law_same" = some (some (.ref f9))) (l9 : K.lookup f9 = some ⟨oc9, od9, .func (PySem.W.fnOf "_law_same" "_law_same" (defArgs s_law_same) (defBody s_law_same) (defScope s_law_same) .none kv9 dc9 pm9 an9 cd9 ct9), sl9⟩) (c9 : PySem.W.codeIn K cd9 "_law_same" = true) (k9 : PySem.W.keepIn K (.ref f9) = true)
    (a10 : PySem.W.nsIn K mainGlobals "_law_word" = some (some (.ref f10))) (l10 : K.lookup f10 = some ⟨oc10, od10, .func (PySem.W.fnOf "_law_word" "_law_word" (defArgs s_law_word) (defBody s_law_word) (defScope s_law_word) .none kv10 dc10 pm10 an10 cd10 ct10), sl10⟩) (c10 : PySem.W.codeIn K cd10 "_law_word" = true) (k10 : PySem.W.keepIn K (.ref f10) = true)
    (a11 : PySem.W.nsIn K mainGlobals "_law_numeral" = some (some (.ref f11))) (l11 : K.lookup f11 = some ⟨oc11, od11, .func (PySem.W.fnOf "_law_numeral" "_law_numeral" (defArgs s_law_numeral) (defBody s_law_numeral) (defScope s_law_numeral) .none kv11 dc11 pm11 an11 cd11 ct11), sl11⟩) (c11 : PySem.W.codeIn K cd11 "_law_numeral" = true) (k11 : PySem.W.keepIn K (.ref f11) = true)
    (a12 : PySem.W.nsIn K mainGlobals "_law_blank" = some (some (.ref f12))) (l12 : K.lookup f12 = some ⟨oc12, od12, .func (PySem.W.fnOf "_law_blank" "_law_blank" (defArgs s_law_blank) (defBody s_law_blank) (defScope s_law_blank) .none kv12 dc12 pm12 an12 cd12 ct12), sl12⟩) (c12 : PySem.W.codeIn K cd12 "_law_blank" = true) (k12 : PySem.W.keepIn K (.ref f12) = true)
    (a13 : PySem.W.nsIn K mainGlobals "_law_wrong" = some (some (.ref f13))) (l13 : K.lookup f13 = some ⟨oc13, od13, .func (PySem.W.fnOf "_law_wrong" "_law_wrong" (defArgs s_law_wrong) (defBody s_law_wrong) (defScope s_law_wrong) .none kv13 dc13 pm13 an13 cd13 ct13), sl13⟩) (c13 : PySem.W.codeIn K cd13 "_law_wrong" = true) (k13 : PySem.W.keepIn K (.ref f13) = true)
    (a14 : PySem.W.nsIn K mainGlobals "_law_told" = some (some (.ref f14))) (l14 : K.lookup f14 = some ⟨oc14, od14, .func (PySem.W.fnOf "_law_told" "_law_told" (defArgs s_law_told) (defBody s_law_told) (defScope s_law_told) .none kv14 dc14 pm14 an14 cd14 ct14), sl14⟩) (c14 : PySem.W.codeIn K cd14 "_law_told" = true) (k14 : PySem.W.keepIn K (.ref f14) = true)
    (a15 : PySem.W.nsIn K mainGlobals "law" = some (some (.ref f15))) (l15 : K.lookup f15 = some ⟨oc15, od15, .func (PySem.W.fnOf "law" "law" (defArgs s_law) (defBody s_law) (defScope s_law) .none kv15 dc15 pm15 an15 cd15 ct15), sl15⟩) (c15 : PySem.W.codeIn K cd15 "law" = true) (k15 : PySem.W.keepIn K (.ref f15) = true)
    {ca0 : Addr} {cdd0 : Option Addr} {cn0 : Nat} {csl0 : Array (Option Value)} {ct0_0 ct0_1 ct0_2 ct0_3 ct0_4 ct0_5 ct0_6 ct0_7 ct0_8 ct0_9 ct0_10 ct0_11 ct0_12 ct0_13 : Tok} (g0 : PySem.W.nsIn K mainGlobals "SIGNS" = some (some (.ref ca0))) (h0 : K.lookup ca0 = some ⟨.type "tuple", cdd0, .seq #[.str "(" ct0_0, .str ")" ct0_1, .str "{" ct0_2, .str "}" ct0_3, .str "," ct0_4, .str ";" ct0_5, .str ":" ct0_6, .str "=" ct0_7, .str "->" ct0_8, .str ".." ct0_9, .str "&" ct0_10, .str "|" ct0_11, .str "^" ct0_12, .str "!" ct0_13] cn0, csl0⟩)
    {ct1 : Tok} (g1 : PySem.W.nsIn K mainGlobals "LETTERS" = some (some (.str "abcdefghijklmnopqrstuvwxyz" ct1)))
    {ct2 : Tok} (g2 : PySem.W.nsIn K mainGlobals "DIGITS" = some (some (.str "0123456789" ct2)))
    {ct3 : Tok} (g3 : PySem.W.nsIn K mainGlobals "RUN_CHARACTERS" = some (some (.str "abcdefghijklmnopqrstuvwxyz0123456789_" ct3)))
    {ct4 : Tok} (g4 : PySem.W.nsIn K mainGlobals "MOST_DIGITS" = some (some (.int 9 ct4)))
    {eC0 fe0 cdae0 cce0 : Addr} {ode0 ane0 od2e0 od3e0 : Option Addr} {sle0 sl2e0 sl3e0 : Array (Option Value)} {vse0 : Array Value} {filee0 : Str} {tfe0 : Tok} {oce0 kve0 dce0 pme0 cte0 oc2e0 oc3e0 : Value} {eD0_0 eD0_1 eD0_2 eD0_3 : Addr} (q0_0 : PySem.W.nsIn K mainGlobals "BadToken" = some (some (.ref eC0))) (q0_1 : PySem.W.findIn K (.ref eC0) "__init__" = some (some (.ref fe0))) (q0_2 : K.lookup fe0 = some ⟨oce0, ode0, .func (PySem.W.fnX "__init__" "BadToken.__init__" (defArgs s_BadToken_init) (defBody s_BadToken_init) (defScope s_BadToken_init) [("__class__", cce0)] .none kve0 dce0 pme0 ane0 (.ref cdae0) cte0), sle0⟩) (q0_3 : PySem.W.codeIn K (.ref cdae0) "BadToken.__init__" = true) (q0_4 : K.lookup cdae0 = some ⟨oc2e0, od2e0, .fields vse0, sl2e0⟩) (q0_5 : vse0[2]? = some (.str filee0 tfe0)) (q0_6 : K.lookup cce0 = some ⟨oc3e0, od3e0, .cell (some (.ref eC0)), sl3e0⟩) (q0_7 : oexB K eC0 = true) (q0_8 : PySem.W.findIn K (.ref eC0) "__setattr__" = some (some (.builtin "object.__setattr__"))) (q0_9 : PySem.W.subIn K (.ref eC0) (.type "BaseException") = some true) (q0_10 : PySem.W.typeIn K (.ref eC0) = some (.type "type")) (q0_11 : PySem.W.keepIn K (.ref eC0) = true) (q0_12 : PySem.W.typeIn K (.ref fe0) = some (.type "function")) (q0_13 : PySem.W.nsIn K mainGlobals "super" = some none) (q0_14 : PySem.W.nsIn K cStatics "thirdparty.any" = some none) (q0_15 : PySem.W.subIn K (.ref eC0) (.type "ValueError") = some true) (q0_16 : PySem.W.mroIn K eC0 (.ref eC0) = some true) (q0_17 : PySem.W.ks_superIn K eC0 eC0 "__init__" = some (some (.builtin "ValueError.__init__"))) (q0_18 : PySem.W.findIn K (.ref eC0) "at" = some none) (q0_19 : PySem.W.hasDictIn K eC0 = true) (q0_20 : PySem.W.findIn K (.ref eC0) "__getattribute__" = some (some (.builtin "BaseException.__getattribute__"))) (q0_21 : PySem.W.findIn K (.ref eC0) "__getattr__" = some none) (q0_22 : PySem.W.findIn K (.ref eC0) "__class__" = some (some (.builtin "object.__class__"))) (q0_23 : PySem.W.specialIn K (.builtin "object.__class__") "__get__" = some (some (.builtin "getset_descriptor.__get__"))) (q0_24 : PySem.W.takesIn K (.builtin "object.__class__") = some true) (q0_25 : PySem.W.mroIn K eC0 (.type "object") = some true) (q0_26 : ((l.prog.main.file : Str) == filee0) = true) (q0_27 : (l.prog.main.scope.names.lookup ("super" : Str)).isSome = false) (q0_28 : PySem.W.nsIn K mainGlobals "BadToken" = some (some (.ref eD0_0))) (q0_29 : PySem.W.kitOne K (.ref eC0) (.ref eD0_0) = some true) (q0_30 : PySem.W.nsIn K mainGlobals "BadSyntax" = some (some (.ref eD0_1))) (q0_31 : PySem.W.kitOne K (.ref eC0) (.ref eD0_1) = some false) (q0_32 : PySem.W.nsIn K mainGlobals "TooDeep" = some (some (.ref eD0_2))) (q0_33 : PySem.W.kitOne K (.ref eC0) (.ref eD0_2) = some false) (q0_34 : PySem.W.nsIn K mainGlobals "SignoffError" = some (some (.ref eD0_3))) (q0_35 : PySem.W.subIn K (.ref eD0_3) (.type "BaseException") = some true) (q0_36 : PySem.W.hasDictIn K eD0_3 = true) (q0_37 : PySem.W.typeIn K (.ref eD0_3) = some (.type "type")) (q0_38 : PySem.W.subIn K (.ref eC0) (.ref eD0_3) = some true)
    (z0 : PySem.W.nsIn K mainGlobals "super" = some none) (z1 : PySem.W.nsIn K mainGlobals "len" = some none) (z2 : PySem.W.nsIn K mainGlobals "all" = some none) (z3 : PySem.W.nsIn K mainGlobals "int" = some none) (z4 : PySem.W.nsIn K mainGlobals "list" = some none) (z5 : PySem.W.nsIn K mainGlobals "range" = some none) (z6 : PySem.W.nsIn K mainGlobals "isinstance" = some none) (z7 : PySem.W.nsIn K mainGlobals "tuple" = some none) (z8 : PySem.W.nsIn K mainGlobals "bool" = some none) (z9 : PySem.W.nsIn K mainGlobals "str" = some none) (z10 : PySem.W.nsIn K mainGlobals "ValueError" = some none) :
    ∃ fd : FuncData, (∀ (s : Shared) (v : Value), BindsTo s fd ⟨[v], []⟩ [("script", v)]) ∧ ∀ base : Heap, K.In base → base.Ns mainGlobals mg → FnOk l.prog w K mg base CX0 6 fa fd ["script"] (spLaw K) := by
  have e := hfa.symm.trans (PySem.W.mg_of X G a15)
  cases e
  have F0 := fun_mk (st := s_tokenize) l0 c0 k0
  have F1 := fun_mk (st := s_is_numeral) l1 c1 k1
  have F2 := fun_mk (st := s_is_word) l2 c2 k2
  have F3 := fun_mk (st := s_token_at) l3 c3 k3
  have F4 := fun_mk (st := s_run_end) l4 c4 k4
  have F5 := fun_mk (st := s_line_end) l5 c5 k5
  have F6 := fun_mk (st := s_law_pool) l6 c6 k6
  have F7 := fun_mk (st := s_law_spread) l7 c7 k7
  have F8 := fun_mk (st := s_law_draw) l8 c8 k8
  have F9 := fun_mk (st := s_law_same) l9 c9 k9
  have F10 := fun_mk (st := s_law_word) l10 c10 k10
  have F11 := fun_mk (st := s_law_numeral) l11 c11 k11
  have F12 := fun_mk (st := s_law_blank) l12 c12 k12
  have F13 := fun_mk (st := s_law_wrong) l13 c13 k13
  have F14 := fun_mk (st := s_law_told) l14 c14 k14
  have F15 := fun_mk (st := s_law) l15 c15 k15
  have A : All K mg := ⟨⟨f0, _, F0, PySem.W.mg_of X G a0, F0.binds (ps := ["text"]) fun _ _ _ _ _ _ us hl => match us, hl with | [_], _ => rfl⟩,
    ⟨f1, _, F1, PySem.W.mg_of X G a1, F1.binds (ps := ["token"]) fun _ _ _ _ _ _ us hl => match us, hl with | [_], _ => rfl⟩,
    ⟨f2, _, F2, PySem.W.mg_of X G a2, F2.binds (ps := ["token"]) fun _ _ _ _ _ _ us hl => match us, hl with | [_], _ => rfl⟩,
    ⟨f3, _, F3, PySem.W.mg_of X G a3, F3.binds (ps := ["text", "at"]) fun _ _ _ _ _ _ us hl => match us, hl with | [_, _], _ => rfl⟩,
    ⟨f4, _, F4, PySem.W.mg_of X G a4, F4.binds (ps := ["text", "at"]) fun _ _ _ _ _ _ us hl => match us, hl with | [_, _], _ => rfl⟩,
    ⟨f5, _, F5, PySem.W.mg_of X G a5, F5.binds (ps := ["text", "at"]) fun _ _ _ _ _ _ us hl => match us, hl with | [_, _], _ => rfl⟩,
    ⟨f6, _, F6, PySem.W.mg_of X G a6, F6.binds (ps := ["script"]) fun _ _ _ _ _ _ us hl => match us, hl with | [_], _ => rfl⟩,
    ⟨f7, _, F7, PySem.W.mg_of X G a7, F7.binds (ps := ["cell"]) fun _ _ _ _ _ _ us hl => match us, hl with | [_], _ => rfl⟩,
    ⟨f8, _, F8, PySem.W.mg_of X G a8, F8.binds (ps := ["pool", "many"]) fun _ _ _ _ _ _ us hl => match us, hl with | [_, _], _ => rfl⟩,
    ⟨f9, _, F9, PySem.W.mg_of X G a9, F9.binds (ps := ["actual", "due"]) fun _ _ _ _ _ _ us hl => match us, hl with | [_, _], _ => rfl⟩,
    ⟨f10, _, F10, PySem.W.mg_of X G a10, F10.binds (ps := ["pool"]) fun _ _ _ _ _ _ us hl => match us, hl with | [_], _ => rfl⟩,
    ⟨f11, _, F11, PySem.W.mg_of X G a11, F11.binds (ps := ["pool"]) fun _ _ _ _ _ _ us hl => match us, hl with | [_], _ => rfl⟩,
    ⟨f12, _, F12, PySem.W.mg_of X G a12, F12.binds (ps := ["pool", "needed"]) fun _ _ _ _ _ _ us hl => match us, hl with | [_, _], _ => rfl⟩,
    ⟨f13, _, F13, PySem.W.mg_of X G a13, F13.binds (ps := ["pool"]) fun _ _ _ _ _ _ us hl => match us, hl with | [_], _ => rfl⟩,
    ⟨f14, _, F14, PySem.W.mg_of X G a14, F14.binds (ps := ["text"]) fun _ _ _ _ _ _ us hl => match us, hl with | [_], _ => rfl⟩,
    PySem.W.mg_none_of X G z0,
    PySem.W.mg_none_of X G z1,
    PySem.W.mg_none_of X G z2,
    PySem.W.mg_none_of X G z3,
    PySem.W.mg_none_of X G z4,
    PySem.W.mg_none_of X G z5,
    PySem.W.mg_none_of X G z6,
    PySem.W.mg_none_of X G z7,
    PySem.W.mg_none_of X G z8,
    PySem.W.mg_none_of X G z9,
    PySem.W.mg_none_of X G z10,
    ⟨ca0, PySem.W.mg_of X G g0, fun _ => .inr ⟨_, _, _, h0, rfl, rfl, (by show 14 ≤ sizeLine; decide), (.cons ⟨_, rfl⟩ (.cons ⟨_, rfl⟩ (.cons ⟨_, rfl⟩ (.cons ⟨_, rfl⟩ (.cons ⟨_, rfl⟩ (.cons ⟨_, rfl⟩ (.cons ⟨_, rfl⟩ (.cons ⟨_, rfl⟩ (.cons ⟨_, rfl⟩ (.cons ⟨_, rfl⟩ (.cons ⟨_, rfl⟩ (.cons ⟨_, rfl⟩ (.cons ⟨_, rfl⟩ (.cons ⟨_, rfl⟩ .nil))))))))))))))⟩⟩,
    ⟨_, PySem.W.mg_of X G g1⟩,
    ⟨_, PySem.W.mg_of X G g2⟩,
    ⟨_, PySem.W.mg_of X G g3⟩,
    ⟨_, PySem.W.mg_of X G g4⟩⟩
  have OX0 : ∃ (C f : Addr) (fd : FuncData), ErrF l.prog K mg "BadToken" "BadToken.__init__" C f fd s_BadToken_init "at" ∧ IsK K mg C "BadToken" true ∧ IsK K mg C "BadSyntax" false ∧ IsK K mg C "TooDeep" false ∧ CatchK K mg C "SignoffError" := ⟨eC0, fe0, _, ⟨PySem.W.mg_of X G q0_0, ⟨_, ⟨⟨oexB_ok q0_7, q0_8, q0_9, q0_10, q0_11⟩, q0_1, q0_12, PySem.W.mg_none_of X G q0_13, q0_14, q0_15, q0_16, q0_17, ⟨_, _, _, _, _, _, _, _, _, _, _, rfl, q0_2, q0_3, ⟨_, _, _, _, _, q0_4, q0_5⟩, _, _, _, q0_6⟩⟩, q0_26⟩, q0_27, .all fun us hl => match us, hl with | [_, _], _ => rfl, q0_18, ⟨q0_20, q0_21, q0_9, q0_19, q0_22, q0_23, q0_24, q0_25⟩⟩, ⟨eD0_0, PySem.W.mg_of X G q0_28, q0_29⟩, ⟨eD0_1, PySem.W.mg_of X G q0_30, q0_31⟩, ⟨eD0_2, PySem.W.mg_of X G q0_32, q0_33⟩, ⟨eD0_3, PySem.W.mg_of X G q0_34, PySem.W.exm_ref q0_35 q0_36 q0_37 q0_38⟩⟩
  exact ⟨_, fun s v => .of_eq rfl, fun base _ _ => glue A OX0 F15⟩
end G
open PySem PySem.W PyProof.Rows
set_option maxRecDepth 100000 in
set_option maxHeartbeats 0 in
theorem PySem.Challenge.cw_signoff_k02_bad_tokens_told_holds : PySem.Challenge.rw_signoff_k02_bad_tokens_told.Holds := by
  w_on; o_law; k_head; (case hw => w_witness2)
  k_fill
  refine L2.walk_of (l := PySem.Challenge.rw_signoff_k02_bad_tokens_told) (n := 63) (k := 6) (x := "script") (CX := fun _ => L2.CX0) (sp := fun w => G.spLaw _) rfl (by decide) rfl ⟨rfl, by decide, by decide⟩ (fun w h Y => PySem.W.kIn_of Y) ?F (fun _ _ a ns hl _ hS => ⟨a, ns, rfl, hS, hl, fun _ => rfl⟩) (fun _ _ _ _ _ h => h)
  case F =>
    intro w mg fa h KX GN hmg
    refine' G.all_mk KX GN hmg ?a0 ?l0 ?c0 ?k0 ?a1 ?l1 ?c1 ?k1 ?a2 ?l2 ?c2 ?k2 ?a3 ?l3 ?c3 ?k3 ?a4 ?l4 ?c4 ?k4 ?a5 ?l5 ?c5 ?k5 ?a6 ?l6 ?c6 ?k6 ?a7 ?l7 ?c7 ?k7 ?a8 ?l8 ?c8 ?k8 ?a9 ?l9 ?c9 ?k9 ?a10 ?l10 ?c10 ?k10 ?a11 ?l11 ?c11 ?k11 ?a12 ?l12 ?c12 ?k12 ?a13 ?l13 ?c13 ?k13 ?a14 ?l14 ?c14 ?k14 ?a15 ?l15 ?c15 ?k15 ?cg0 ?ch0 ?cg1 ?cg2 ?cg3 ?cg4 ?kq0_0 ?kq0_1 ?kq0_2 ?kq0_3 ?kq0_4 ?rq0_5 ?kq0_6 ?rq0_7 ?kq0_8 ?kq0_9 ?kq0_10 ?kq0_11 ?kq0_12 ?kq0_13 ?kq0_14 ?kq0_15 ?kq0_16 ?rq0_17 ?kq0_18 ?kq0_19 ?kq0_20 ?kq0_21 ?kq0_22 ?kq0_23 ?kq0_24 ?kq0_25 ?rq0_26 ?rq0_27 ?kq0_28 ?kq0_29 ?kq0_30 ?kq0_31 ?kq0_32 ?kq0_33 ?kq0_34 ?kq0_35 ?kq0_36 ?kq0_37 ?kq0_38 ?z0 ?z1 ?z2 ?z3 ?z4 ?z5 ?z6 ?z7 ?z8 ?z9 ?z10
    (case a0 => k_is)
    (case l0 => k_is)
    (case c0 => k_is)
    (case k0 => k_is)
    (case a1 => k_is)
    (case l1 => k_is)
    (case c1 => k_is)
    (case k1 => k_is)
    (case a2 => k_is)
    (case l2 => k_is)
    (case c2 => k_is)
    (case k2 => k_is)
    (case a3 => k_is)
    (case l3 => k_is)
    (case c3 => k_is)
    (case k3 => k_is)
    (case a4 => k_is)
    (case l4 => k_is)
    (case c4 => k_is)
    (case k4 => k_is)
    (case a5 => k_is)
    (case l5 => k_is)
    (case c5 => k_is)
    (case k5 => k_is)
    (case a6 => k_is)
    (case l6 => k_is)
    (case c6 => k_is)
    (case k6 => k_is)
    (case a7 => k_is)
    (case l7 => k_is)
    (case c7 => k_is)
    (case k7 => k_is)
    (case a8 => k_is)
    (case l8 => k_is)
    (case c8 => k_is)
    (case k8 => k_is)
    (case a9 => k_is)
    (case l9 => k_is)
    (case c9 => k_is)
    (case k9 => k_is)
    (case a10 => k_is)
    (case l10 => k_is)
    (case c10 => k_is)
    (case k10 => k_is)
    (case a11 => k_is)
    (case l11 => k_is)
    (case c11 => k_is)
    (case k11 => k_is)
    (case a12 => k_is)
    (case l12 => k_is)
    (case c12 => k_is)
    (case k12 => k_is)
    (case a13 => k_is)
    (case l13 => k_is)
    (case c13 => k_is)
    (case k13 => k_is)
    (case a14 => k_is)
    (case l14 => k_is)
    (case c14 => k_is)
    (case k14 => k_is)
    (case a15 => k_is)
    (case l15 => k_is)
    (case c15 => k_is)
    (case k15 => k_is)
    (case cg0 => k_is)
    (case ch0 => k_is)
    (case cg1 => k_is)
    (case cg2 => k_is)
    (case cg3 => k_is)
    (case cg4 => k_is)
    (case kq0_0 => first | k_exc | k_is | rfl)
    (case kq0_1 => first | k_exc | k_is | rfl)
    (case kq0_2 => first | k_exc | k_is | rfl)
    (case kq0_3 => first | k_exc | k_is | rfl)
    (case kq0_4 => first | k_exc | k_is | rfl)
    (case rq0_5 => first | rfl | kernel_rfl | decide +kernel)
    (case kq0_6 => first | k_exc | k_is | rfl)
    (case rq0_7 => first | rfl | kernel_rfl | decide +kernel)
    (case kq0_8 => first | k_exc | k_is | rfl)
    (case kq0_9 => first | k_exc | k_is | rfl)
    (case kq0_10 => first | k_exc | k_is | rfl)
    (case kq0_11 => first | k_exc | k_is | rfl)
    (case kq0_12 => first | k_exc | k_is | rfl)
    (case kq0_13 => first | k_exc | k_is | rfl)
    (case kq0_14 => first | k_exc | k_is | rfl)
    (case kq0_15 => first | k_exc | k_is | rfl)
    (case kq0_16 => first | k_exc | k_is | rfl)
    (case rq0_17 => first | rfl | kernel_rfl | decide +kernel)
    (case kq0_18 => first | k_exc | k_is | rfl)
    (case kq0_19 => first | k_exc | k_is | rfl)
    (case kq0_20 => first | k_exc | k_is | rfl)
    (case kq0_21 => first | k_exc | k_is | rfl)
    (case kq0_22 => first | k_exc | k_is | rfl)
    (case kq0_23 => first | k_exc | k_is | rfl)
    (case kq0_24 => first | k_exc | k_is | rfl)
    (case kq0_25 => first | k_exc | k_is | rfl)
    (case rq0_26 => first | rfl | kernel_rfl | decide +kernel)
    (case rq0_27 => first | rfl | kernel_rfl | decide +kernel)
    (case kq0_28 => first | k_exc | k_is | rfl)
    (case kq0_29 => first | k_exc | k_is | rfl)
    (case kq0_30 => first | k_exc | k_is | rfl)
    (case kq0_31 => first | k_exc | k_is | rfl)
    (case kq0_32 => first | k_exc | k_is | rfl)
    (case kq0_33 => first | k_exc | k_is | rfl)
    (case kq0_34 => first | k_exc | k_is | rfl)
    (case kq0_35 => first | k_exc | k_is | rfl)
    (case kq0_36 => first | k_exc | k_is | rfl)
    (case kq0_37 => first | k_exc | k_is | rfl)
    (case kq0_38 => first | k_exc | k_is | rfl)
    (case z0 => k_is)
    (case z1 => k_is)
    (case z2 => k_is)
    (case z3 => k_is)
    (case z4 => k_is)
    (case z5 => k_is)
    (case z6 => k_is)
    (case z7 => k_is)
    (case z8 => k_is)
    (case z9 => k_is)
    (case z10 => k_is)
#print axioms PySem.Challenge.cw_signoff_k02_bad_tokens_told_holds
