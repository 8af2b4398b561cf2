import PyProof.Rows.All
import Wide.All
import OpenK.AllK
import Wide.FinOn
import HandS.ForMost
import HandS.Evl
import HandS.Wide
import HandS.WideBits
import HandS.Flow
import HandS.IsInst
import HandS.TupAny
import HandS.Walk
import HandS.Zip
import HandS.Steps
import KE.GoesMore
import KE.GoesEnum
import KE.KEqSeq
import HandS.ForExc
import HandS.ExcIs
import HandS.Property
import HandS.Style
import HandS.Small
import HandS.CallSlots
import PySem.Challenge.RW_signoff_k35_waveforms
set_option Elab.async false
set_option linter.all false
set_option maxRecDepth 100000
set_option maxHeartbeats 4000000
set_option Elab.async false
set_option linter.all false
set_option maxRecDepth 100000
set_option maxHeartbeats 4000000
namespace G
open PySem PySem.Spec PyProof.Rows L2 Evl
/-! ## defs by name -/
def Dfd (K : PySem.W.Frag) (mg : Str → Option Value) (x : Str) (st : Stmt) (ps : List Str) : Prop := ∃ (f : Addr) (fd : FuncData), Fun K x x st f fd ∧ mg x = some (.ref f) ∧ Binds K fd ps []
def Has (P : Program) (w : World) (K : PySem.W.Frag) (mg : Str → Option Value) (base : Heap) (k : Nat) (x : Str) (ps : List Str) (sp : Sp) : Prop :=
  ∃ (f : Addr) (fd : FuncData), FnOk P w K mg base CX0 k f fd ps sp ∧ mg x = some (.ref f) ∧ PySem.W.keepIn K (.ref f) = true ∧ Binds K fd ps []
section
variable {P : Program} {w : World} {K : PySem.W.Frag} {mg : Str → Option Value} {base : Heap}
theorem Dfd.has {x : Str} {st : Stmt} {ps : List Str} {k : Nat} {sp : Sp} (d : Dfd K mg x st ps) (h : ∀ f fd, Fun K x x st f fd → FnOk P w K mg base CX0 k f fd ps sp) : Has P w K mg base k x ps sp := by
  obtain ⟨f, fd, F, g, b⟩ := d
  exact ⟨f, fd, h f fd F, g, F.kp, b⟩
theorem Has.mono {x : Str} {ps : List Str} {j k : Nat} {sp : Sp} (h : Has P w K mg base j x ps sp) (l : j ≤ k) : Has P w K mg base k x ps sp := by
  obtain ⟨f, fd, F, g⟩ := h
  exact ⟨f, fd, F.mono l, g⟩
theorem Has.imp {x : Str} {ps : List Str} {k : Nat} {sp sp' : Sp} (h : Has P w K mg base k x ps sp) (i : ∀ vs H Q E, sp' vs H Q E → sp vs H Q E) : Has P w K mg base k x ps sp' := by
  obtain ⟨f, fd, F, g⟩ := h
  exact ⟨f, fd, F.imp i, g⟩
end
/-! ## heaps -/
theorem sq_ex {K : PySem.W.Frag} {H H' : Hp} {a : Addr} {xs : List V} (e : Ex H H') (h : SqL K H a xs) : SqL K H' a xs := ex_l e h
/-- the heap without what stands at p -/
def hid (p : Addr) (H : Hp) : Hp := fun b => if b = p then none else H b
theorem hid_self {p : Addr} {H : Hp} : hid p H p = none := by unfold hid; rw [if_pos rfl]
theorem hid_ne {p b : Addr} {H : Hp} (h : b ≠ p) : hid p H b = H b := by unfold hid; rw [if_neg h]
theorem hid_get {p b : Addr} {H : Hp} {o : HO} (h : hid p H b = some o) : H b = some o := by
  by_cases e : b = p
  · subst e; rw [hid_self] at h; cases h
  · rw [hid_ne e] at h; exact h
theorem hid_neq {p b : Addr} {H : Hp} {o : HO} (h : hid p H b = some o) : b ≠ p := by
  intro e; subst e; rw [hid_self] at h; cases h
theorem hid_ex {p : Addr} {H : Hp} : Ex (hid p H) H := fun _ _ h => hid_get h
theorem hid_upd {p : Addr} {H : Hp} {o : HO} : hid p (upd H p o) = hid p H := by
  funext b
  by_cases e : b = p
  · subst e; rw [hid_self, hid_self]
  · rw [hid_ne e, hid_ne e, upd_ne e]
theorem hid_upd_ne {p q : Addr} {H : Hp} {o : HO} (h : q ≠ p) : hid p (upd H q o) = upd (hid p H) q o := by
  funext b
  by_cases e2 : b = q
  · subst e2; rw [hid_ne h, upd_same, upd_same]
  · rw [upd_ne e2]
    by_cases e : b = p
    · subst e; rw [hid_self, hid_self]
    · rw [hid_ne e, hid_ne e, upd_ne e2]
theorem hid_none {p b : Addr} {H : Hp} (h : H b = none) : hid p H b = none := by
  unfold hid; split
  · rfl
  · exact h
/-! ## the pool of draws: the list at p, the script's copy at a -/
def PoolOk (p a : Addr) (H : Hp) : Prop := ∃ (ns : List Int) (i : Nat) (c k s : Int), H p = some (.lst [.ref a, .int i, .int c, .int k, .int s]) ∧ hid p H a = some (.lst (ns.map V.int)) ∧ ns.length ≤ 1000
/-- from H to H' all but the pool is kept, and the pool is a pool -/
structure Px (p a : Addr) (H H' : Hp) : Prop where
  was : PoolOk p a H
  pool : PoolOk p a H'
  ex : Ex (hid p H) (hid p H')
section
variable {p a : Addr} {H H1 H2 H' : Hp}
theorem Px.refl (h : PoolOk p a H) : Px p a H H := ⟨h, h, Ex.refl _⟩
theorem Px.trans (x : Px p a H H1) (y : Px p a H1 H2) : Px p a H H2 := ⟨x.was, y.pool, x.ex.trans y.ex⟩
theorem PoolOk.ne {b : Addr} (h : PoolOk p a H) (n : H b = none) : b ≠ p := by
  obtain ⟨_, _, _, _, _, e, _⟩ := h
  exact (ne_of_none e n).symm
theorem PoolOk.ne2 {b : Addr} (h : PoolOk p a H) (n : H b = none) : a ≠ b := by
  obtain ⟨_, _, _, _, _, _, e, _⟩ := h
  exact ne_of_none (hid_get e) n
theorem PoolOk.kept (h : PoolOk p a H) (e : Ex H H') : PoolOk p a H' := by
  obtain ⟨ns, i, c, k, s, h1, h2, h3⟩ := h
  exact ⟨ns, i, c, k, s, e _ _ h1, by rw [hid_ne (hid_neq h2)]; exact e _ _ (hid_get h2), h3⟩
theorem Px.ofEx (h : PoolOk p a H) (e : Ex H H') : Px p a H H' := ⟨h, h.kept e, fun b o hb => by rw [hid_ne (hid_neq hb)]; exact e _ _ (hid_get hb)⟩
theorem Px.more (x : Px p a H H1) (e : Ex H1 H2) : Px p a H H2 := x.trans (Px.ofEx x.pool e)
theorem Px.draw {o : HO} (w : PoolOk p a H) (h : PoolOk p a (upd H p o)) : Px p a H (upd H p o) := ⟨w, h, by rw [hid_upd]; exact Ex.refl _⟩
theorem Px.new (x : Px p a H H1) {l : Addr} {o : HO} (n : H1 l = none) : Px p a H (upd H1 l o) := x.more (Ex.new n)
/-- what H has is kept -/
theorem Px.get (x : Px p a H H1) {b : Addr} {o : HO} (h : hid p H b = some o) : hid p H1 b = some o := x.ex _ _ h
theorem Px.at_ (x : Px p a H H1) {b : Addr} {o : HO} (h : hid p H b = some o) : H1 b = some o := hid_get (x.ex _ _ h)
theorem Px.free (x : Px p a H H1) {b : Addr} (n : H1 b = none) : H b = none := by
  cases e : H b with
  | none => rfl
  | some o =>
    have hb : b ≠ p := x.pool.ne n
    have := x.ex b o (by rw [hid_ne hb]; exact e)
    rw [hid_get this] at n; cases n
/-- an object that H does not have may change -/
theorem Px.mut (x : Px p a H H1) {l : Addr} {o : HO} (n : H l = none) : Px p a H (upd H1 l o) := by
  have hl : l ≠ p := x.was.ne n
  have ha : a ≠ l := x.was.ne2 n
  refine ⟨x.was, ?_, ?_⟩
  · obtain ⟨ns, i, c, k, s, h1, h2, h3⟩ := x.pool
    exact ⟨ns, i, c, k, s, by rw [upd_ne hl.symm]; exact h1, by rw [hid_upd_ne hl, upd_ne ha]; exact h2, h3⟩
  · rw [hid_upd_ne hl]; exact Ex.mut x.ex (hid_none n)
/-- a fresh object stands apart from the pool -/
theorem Px.seen (x : Px p a H H1) {l : Addr} {o : HO} (n : H l = none) (e : H1 l = some o) : hid p H1 l = some o := by
  rw [hid_ne (x.was.ne n)]; exact e
end
end G
namespace G
open PySem PySem.Spec PyProof.Rows L2 Evl
/-! ## comprehensions whose elements are plain values -/
theorem given_all {n : Nat} {v : Nat → V} : given n (fun _ => true) v = (List.range n).map v := by
  unfold given
  rw [List.filter_eq_self.mpr (fun _ _ => rfl)]
section
variable {lo : Int} {n j : Nat} {tt : TT} {te : TE} {vs : List Nat} {σ : L2.St} {H1 : Hp} {D : Addr} {Qd : Hp → Prop} {K : PySem.W.Frag} {a : Addr} {xs : List V}
theorem lc_turn {f : Nat → Bool} {v : Nat → V} {i : Nat} {H : Hp} {σ2 : L2.St} (e : H = upd H1 D (.lst (given i f v))) (hi : i < 100000) (ht : Ans tt σ2 H (f i)) (he : f i = true → Val te σ2 H (v i)) :
    tt σ2 H fun b H3 => if b = true then te σ2 H3 fun y H4 => ∃ acc, H4 D = some (.lst acc) ∧ acc.length < sizeLine ∧ (upd H4 D (.lst (acc ++ [y]))) = upd H1 D (.lst (given (i + 1) f v)) else H3 = upd H1 D (.lst (given (i + 1) f v)) := by
  refine ht _ ?_
  subst e
  cases hf : f i with
  | true =>
    refine iteT (he hf _ ⟨_, upd_same, sz_lt (by have := given_len i f v; omega), ?_⟩)
    rw [given_yes hf, upd_upd]
  | false =>
    refine iteF ?_
    rw [given_no hf]
theorem lcR (f : Nat → Bool) (v : Nat → V) (hn : n ≤ 100000) (hw : ∀ x, wipe ((wipe σ vs).set j (some x)) vs = wipe σ vs)
    (ht : ∀ (i : Nat) (H : Hp), i < n → H = upd H1 D (.lst (given i f v)) → Ans tt ((wipe σ vs).set j (some (.int (lo + i)))) H (f i))
    (he : ∀ (i : Nat) (H : Hp), i < n → H = upd H1 D (.lst (given i f v)) → f i = true → Val te ((wipe σ vs).set j (some (.int (lo + i)))) H (v i)) (q : Qd (upd H1 D (.lst (given n f v)))) :
    ∃ W : Nat → Nat → Hp → Prop, (∃ m, W 0 m (upd H1 D (.lst []))) ∧ ∀ i m H, W i m H →
      ((Itr lo n).stop i H ∧ Qd H) ∨ ((Itr lo n).go i H ∧ ∃ Nx : Hp → Prop, (∀ H', Nx H' → ∃ m', m' < m ∧ W (i + 1) m' H') ∧ ∀ x H', (Itr lo n).yld i H x H' → gName j x (wipe σ vs) H' fun σ2 H2 => wipe σ2 vs = wipe σ vs ∧ tt σ2 H2 fun b H3 =>
        if b = true then te σ2 H3 fun y H4 => ∃ acc, H4 D = some (.lst acc) ∧ acc.length < sizeLine ∧ Nx (upd H4 D (.lst (acc ++ [y]))) else Nx H3) :=
  lc_range (fun i H => H = upd H1 D (.lst (given i f v))) rfl (fun i H hi e => ⟨hw _, lc_turn e (by omega) (ht i H hi e) (he i H hi e)⟩) (fun H e => by rw [e]; exact q)
theorem lcRv (v : Nat → V) (hn : n ≤ 100000) (hw : ∀ x, wipe ((wipe σ vs).set j (some x)) vs = wipe σ vs)
    (he : ∀ (i : Nat) (H : Hp), i < n → H = upd H1 D (.lst (given i (fun _ => true) v)) → Val te ((wipe σ vs).set j (some (.int (lo + i)))) H (v i)) (q : Qd (upd H1 D (.lst ((List.range n).map v)))) :
    ∃ W : Nat → Nat → Hp → Prop, (∃ m, W 0 m (upd H1 D (.lst []))) ∧ ∀ i m H, W i m H →
      ((Itr lo n).stop i H ∧ Qd H) ∨ ((Itr lo n).go i H ∧ ∃ Nx : Hp → Prop, (∀ H', Nx H' → ∃ m', m' < m ∧ W (i + 1) m' H') ∧ ∀ x H', (Itr lo n).yld i H x H' → gName j x (wipe σ vs) H' fun σ2 H2 => wipe σ2 vs = wipe σ vs ∧ tYes σ2 H2 fun b H3 =>
        if b = true then te σ2 H3 fun y H4 => ∃ acc, H4 D = some (.lst acc) ∧ acc.length < sizeLine ∧ Nx (upd H4 D (.lst (acc ++ [y]))) else Nx H3) :=
  lcR (fun _ => true) v hn hw (fun _ _ _ _ => fun _ q => q) (fun i H hi e _ => he i H hi e) (by rw [given_all]; exact q)
theorem lcL (f : Nat → Bool) (v : Nat → V) (hx : SqL K H1 a xs) (hD : H1 D = none) (hn : xs.length ≤ 100000) (hw : ∀ x, wipe ((wipe σ vs).set j (some x)) vs = wipe σ vs)
    (ht : ∀ (i : Nat) (x : V) (H : Hp), xs[i]? = some x → H = upd H1 D (.lst (given i f v)) → Ans tt ((wipe σ vs).set j (some x)) H (f i))
    (he : ∀ (i : Nat) (x : V) (H : Hp), xs[i]? = some x → H = upd H1 D (.lst (given i f v)) → f i = true → Val te ((wipe σ vs).set j (some x)) H (v i)) (q : Qd (upd H1 D (.lst (given xs.length f v)))) :
    ∃ W : Nat → Nat → Hp → Prop, (∃ m, W 0 m (upd H1 D (.lst []))) ∧ ∀ i m H, W i m H →
      ((Itl K a).stop i H ∧ Qd H) ∨ ((Itl K a).go i H ∧ ∃ Nx : Hp → Prop, (∀ H', Nx H' → ∃ m', m' < m ∧ W (i + 1) m' H') ∧ ∀ x H', (Itl K a).yld i H x H' → gName j x (wipe σ vs) H' fun σ2 H2 => wipe σ2 vs = wipe σ vs ∧ tt σ2 H2 fun b H3 =>
        if b = true then te σ2 H3 fun y H4 => ∃ acc, H4 D = some (.lst acc) ∧ acc.length < sizeLine ∧ Nx (upd H4 D (.lst (acc ++ [y]))) else Nx H3) :=
  lc_list (fun i H => H = upd H1 D (.lst (given i f v))) rfl (fun i H hi e => by rw [e]; exact ex_l (Ex.new hD) hx) (fun i x H hi e => ⟨hw _, lc_turn e (by have := (List.getElem?_eq_some_iff.mp hi).1; omega) (ht i x H hi e) (he i x H hi e)⟩) (fun H e => by rw [e]; exact q)
theorem lcT (f : Nat → Bool) (v : Nat → V) (hx : SqT K H1 a xs) (hD : H1 D = none) (hn : xs.length ≤ 100000) (hw : ∀ x, wipe ((wipe σ vs).set j (some x)) vs = wipe σ vs)
    (ht : ∀ (i : Nat) (x : V) (H : Hp), xs[i]? = some x → H = upd H1 D (.lst (given i f v)) → Ans tt ((wipe σ vs).set j (some x)) H (f i))
    (he : ∀ (i : Nat) (x : V) (H : Hp), xs[i]? = some x → H = upd H1 D (.lst (given i f v)) → f i = true → Val te ((wipe σ vs).set j (some x)) H (v i)) (q : Qd (upd H1 D (.lst (given xs.length f v)))) :
    ∃ W : Nat → Nat → Hp → Prop, (∃ m, W 0 m (upd H1 D (.lst []))) ∧ ∀ i m H, W i m H →
      ((Itt K a).stop i H ∧ Qd H) ∨ ((Itt K a).go i H ∧ ∃ Nx : Hp → Prop, (∀ H', Nx H' → ∃ m', m' < m ∧ W (i + 1) m' H') ∧ ∀ x H', (Itt K a).yld i H x H' → gName j x (wipe σ vs) H' fun σ2 H2 => wipe σ2 vs = wipe σ vs ∧ tt σ2 H2 fun b H3 =>
        if b = true then te σ2 H3 fun y H4 => ∃ acc, H4 D = some (.lst acc) ∧ acc.length < sizeLine ∧ Nx (upd H4 D (.lst (acc ++ [y]))) else Nx H3) :=
  lc_tup (fun i H => H = upd H1 D (.lst (given i f v))) rfl (fun i H hi e => by rw [e]; exact ex_t (Ex.new hD) hx) (fun i x H hi e => ⟨hw _, lc_turn e (by have := (List.getElem?_eq_some_iff.mp hi).1; omega) (ht i x H hi e) (he i x H hi e)⟩) (fun H e => by rw [e]; exact q)
theorem lcLm (g : V → V) (hx : SqL K H1 a xs) (hD : H1 D = none) (hn : xs.length ≤ 100000) (hw : ∀ x, wipe ((wipe σ vs).set j (some x)) vs = wipe σ vs)
    (he : ∀ (i : Nat) (x : V) (H : Hp), xs[i]? = some x → H = upd H1 D (.lst ((xs.take i).map g)) → Val te ((wipe σ vs).set j (some x)) H (g x)) (q : Qd (upd H1 D (.lst (xs.map g)))) :
    ∃ W : Nat → Nat → Hp → Prop, (∃ m, W 0 m (upd H1 D (.lst []))) ∧ ∀ i m H, W i m H →
      ((Itl K a).stop i H ∧ Qd H) ∨ ((Itl K a).go i H ∧ ∃ Nx : Hp → Prop, (∀ H', Nx H' → ∃ m', m' < m ∧ W (i + 1) m' H') ∧ ∀ x H', (Itl K a).yld i H x H' → gName j x (wipe σ vs) H' fun σ2 H2 => wipe σ2 vs = wipe σ vs ∧ tYes σ2 H2 fun b H3 =>
        if b = true then te σ2 H3 fun y H4 => ∃ acc, H4 D = some (.lst acc) ∧ acc.length < sizeLine ∧ Nx (upd H4 D (.lst (acc ++ [y]))) else Nx H3) :=
  lc_list (fun i H => H = upd H1 D (.lst ((xs.take i).map g))) (by rw [List.take_zero]; rfl) (fun i H hi e => by rw [e]; exact ex_l (Ex.new hD) hx)
    (fun i x H hi e => ⟨hw _, by
      refine iteT (B := H = upd H1 D (.lst ((xs.take (i + 1)).map g))) ?_
      refine he i x H hi e _ ?_
      subst e
      refine ⟨_, upd_same, sz_lt ?_, ?_⟩
      · rw [List.length_map, List.length_take]; have := (List.getElem?_eq_some_iff.mp hi).1; omega
      · rw [upd_upd, List.take_add_one, hi, List.map_append]; rfl⟩) (fun H e => by rw [e, List.take_length]; exact q)
theorem lcTm (g : V → V) (hx : SqT K H1 a xs) (hD : H1 D = none) (hn : xs.length ≤ 100000) (hw : ∀ x, wipe ((wipe σ vs).set j (some x)) vs = wipe σ vs)
    (he : ∀ (i : Nat) (x : V) (H : Hp), xs[i]? = some x → H = upd H1 D (.lst ((xs.take i).map g)) → Val te ((wipe σ vs).set j (some x)) H (g x)) (q : Qd (upd H1 D (.lst (xs.map g)))) :
    ∃ W : Nat → Nat → Hp → Prop, (∃ m, W 0 m (upd H1 D (.lst []))) ∧ ∀ i m H, W i m H →
      ((Itt K a).stop i H ∧ Qd H) ∨ ((Itt K a).go i H ∧ ∃ Nx : Hp → Prop, (∀ H', Nx H' → ∃ m', m' < m ∧ W (i + 1) m' H') ∧ ∀ x H', (Itt K a).yld i H x H' → gName j x (wipe σ vs) H' fun σ2 H2 => wipe σ2 vs = wipe σ vs ∧ tYes σ2 H2 fun b H3 =>
        if b = true then te σ2 H3 fun y H4 => ∃ acc, H4 D = some (.lst acc) ∧ acc.length < sizeLine ∧ Nx (upd H4 D (.lst (acc ++ [y]))) else Nx H3) :=
  lc_tup (fun i H => H = upd H1 D (.lst ((xs.take i).map g))) (by rw [List.take_zero]; rfl) (fun i H hi e => by rw [e]; exact ex_t (Ex.new hD) hx)
    (fun i x H hi e => ⟨hw _, by
      refine iteT (B := H = upd H1 D (.lst ((xs.take (i + 1)).map g))) ?_
      refine he i x H hi e _ ?_
      subst e
      refine ⟨_, upd_same, sz_lt ?_, ?_⟩
      · rw [List.length_map, List.length_take]; have := (List.getElem?_eq_some_iff.mp hi).1; omega
      · rw [upd_upd, List.take_add_one, hi, List.map_append]; rfl⟩) (fun H e => by rw [e, List.take_length]; exact q)
end
end G
namespace G
open PySem PySem.Spec PyProof.Rows L2 Evl
/-! ## rules within a comprehension's block: the written part by its letter -/
section
variable {X : Cx} {K : PySem.W.Frag}
theorem kIxT (h : X.K = K) : IxR X (rIxT K) := by subst h; exact ix_tup
theorem kIxL (h : X.K = K) : IxR X (rIxL K) := by subst h; exact ix_list
theorem kIx (h : X.K = K) : IxR X (rIx K) := by subst h; exact ix_seq
theorem kIn (h : X.K = K) : OpR X (compareOp .In) (rIn K false) := by subst h; exact op_in_seq
theorem kNotIn (h : X.K = K) : OpR X (compareOp .NotIn) (rIn K true) := by subst h; exact op_notIn_seq
theorem kLen (h : X.K = K) : CallR X (.builtin "len") (rLenS K) := by subst h; exact call_len_seq
theorem gStr {x s : Str} {t : Tok} {pos : Pos} (hg : Gl X x) (h : X.mg x = some (.str s t)) (hd : (x == ("__debug__" : Str)) = false := by decide) : PE X (.Name x pos) (tC (.str s)) := pe_glob (v := .str s) hg h ⟨t, rfl⟩ hd
theorem gInt {x : Str} {i : Int} {t : Tok} {pos : Pos} (hg : Gl X x) (h : X.mg x = some (.int i t)) (hd : (x == ("__debug__" : Str)) = false := by decide) : PE X (.Name x pos) (tC (.int i)) := pe_glob (v := .int i) hg h ⟨t, rfl⟩ hd
theorem gRef {x : Str} {a : Addr} {pos : Pos} (hg : Gl X x) (h : X.mg x = some (.ref a)) (hd : (x == ("__debug__" : Str)) = false := by decide) : PE X (.Name x pos) (tC (.ref a)) := pe_glob (v := .ref a) hg h rfl hd
theorem kSlL (h : X.K = K) : SlR X (rSlL K) := by subst h; exact sl_list
theorem kCatA (h : X.K = K) : OpR X (binaryOp .Add) (rCatA K) := by subst h; exact op_catA
theorem kAny (h : X.K = K) (hc : X.calm = true) : CallR X (.builtin "any") (rAny K) := by subst h; exact cr_any hc
theorem kAll (h : X.K = K) (hc : X.calm = true) : CallR X (.builtin "all") (rAll K) := by subst h; exact cr_all hc
theorem kLtT (h : X.K = K) (hu : X.A.units < cLine) : OpR X (compareOp .Lt) (rLtT K) := by subst h; exact op_ltT hu
theorem kPiT {e tg : Expr} {te : TE} (h : X.K = K) (he : PE X e te) : PI X tg e (iTup K te) := by subst h; exact pi_tup he
theorem kPiL {e tg : Expr} {te : TE} (h : X.K = K) (he : PE X e te) : PI X tg e (iList K te) := by subst h; exact pi_list he
theorem kSlA (h : X.K = K) : SlR X (rSlA K) := by subst h; exact sl_tupA
end
end G
namespace G
open PySem PySem.Spec PyProof.Rows L2 Evl
theorem dpAll_map {α : Type} {K : PySem.W.Frag} {H : Hp} {f : α → V} {g : α → PyData} (h : ∀ x, Dp K H (f x) (g x)) : ∀ l : List α, DpAll K H (l.map f) (l.map g)
  | [] => .nil
  | x :: r => .cons (h x) (dpAll_map h r)
theorem dp_ints {K : PySem.W.Frag} {H : Hp} {a : Addr} {ns : List Int} (h : SqL K H a (ns.map V.int)) : Dp K H (.ref a) (.list (ns.map PyData.int)) := .lst h (dpAll_map (fun i => .int i) ns)
theorem dp_nil {K : PySem.W.Frag} {H : Hp} {a : Addr} (h : SqL K H a []) : Dp K H (.ref a) (.list []) := .lst h .nil
theorem eqv_nil (l : List PyData) : PyData.eqv (.list l) (.list []) = l.isEmpty := by cases l <;> rfl
theorem shaped_nil : SeqAt.shaped (.list []) = true := by decide +kernel
end G
/-! enumerate over a tuple -/
namespace PySem
section
variable {prog : Program} {w : World} {A : Around} {E : Value → Shared → Prop} {s : Shared}
theorem G_tupOf {h : Heap} {a : Addr} {xs : Array Value} (p : PyProof.Rows.IsTup h a xs) : h.IsTuple a xs := p
set_option maxHeartbeats 2000000 in
theorem G_enumNew {v : Value} {o : Obj} {Hh : Heap → Prop} (B : Begins v o Hh) :
    Meets (Builtin.«enumerate.__new__» ⟨[.type "enumerate", v], []⟩) (fun _ R s => Hh s.heap ∧
      R (.ok (.ret (.ref (s.heap.push o).objs.size))) { s with heap := (s.heap.push o).push { cls := .type "enumerate", data := .fields #[.none, .bool false, .ref s.heap.objs.size, rawInt 0, .none, .none] } }) :=
  .of_wp fun pr wo ar rr sh hh => by
    obtain ⟨hp, gg, dd, tk, os⟩ := sh; obtain ⟨h1, h2⟩ := hh
    have sub0 := sub_enumerate
    have qq : ∀ {A' : Around} {E : Value → Shared → Prop} {Q : Value → Shared → Prop}, Q (.ref hp.objs.size) ⟨hp.push o, gg, dd, tk, os⟩ → wpAny (model pr wo) A' (pyIter v) Q E ⟨hp, gg, dd, tk, os⟩ :=
      fun z => B.iter pr wo _ _ ⟨hp, gg, dd, tk, os⟩ _ h1 z
    wp_walk using qq
    refine wpAny_stack_any fun _ => wpAny_pure ?_
    split
    · rename_i cc _ _ _ _ _
      cases (cc == Value.type "enumerate") <;> (wp_walk using qq; exact ⟨_, rfl, h2⟩)
    · wp_walk using qq
      exact ⟨_, rfl, h2⟩
theorem G_enumCall {v : Value} {o : Obj} {Hh : Heap → Prop} {Q : Value → Shared → Prop} (B : Begins v o Hh) (h1 : Hh s.heap)
    (k : ∀ h', IsEnum h' (s.heap.objs.size + 1) s.heap.objs.size 0 .none → h'.get? s.heap.objs.size = some o → (∀ b u, s.heap.get? b = some u → h'.get? b = some u) → Q (.ref (s.heap.objs.size + 1)) { s with heap := h' }) :
    wpAny (model prog w) A (call (.type "enumerate") [v]) Q E s := by
  refine callType_new F.called_enumerate (by decide) (F.typeCall_enumerate_1 _) (F.newCall_enumerate_1 _) (fun y => F.args_object_init_2 y _) F.entry_enumerate_new (G_enumNew B) ⟨h1, ?_⟩
  have hz : (s.heap.push o).objs.size = s.heap.objs.size + 1 := Heap.size_push ..
  show _ ∧ _
  rw [hz]
  have he : IsEnum ((s.heap.push o).push { cls := .type "enumerate", data := .fields #[.none, .bool false, .ref s.heap.objs.size, rawInt 0, .none, .none] }) (s.heap.objs.size + 1) s.heap.objs.size 0 .none := by
    have hs := Heap.get?_push_size (s.heap.push o) (o := { cls := .type "enumerate", data := .fields #[.none, .bool false, .ref s.heap.objs.size, rawInt 0, .none, .none] }) rfl
    rw [hz] at hs; exact hs
  exact ⟨⟨_, he, rfl⟩, k _ he (Heap.get?_push_of_some _ (Heap.get?_push_size _ B.free)) fun b u x => Heap.get?_push_of_some _ (Heap.get?_push_of_some _ x)⟩
end
end PySem
namespace G
open PySem PySem.Spec PyProof.Rows L2 Evl
/-- the tuple at a at each turn, each item in a new pair -/
def IteT (K : PySem.W.Frag) (a : Addr) : It :=
  ⟨fun i H => ∃ (xs : List V) (x : V), SqT K H a xs ∧ xs[i]? = some x,
   fun i H v H' => ∃ T x, v = .ref T ∧ H T = none ∧ H' = upd H T (.tup [.int (i : Nat), x]) ∧ ∀ xs, SqT K H a xs → xs[i]? = some x,
   fun i H => ∃ xs : List V, SqT K H a xs ∧ xs.length = i⟩
theorem turn_enumT {P : Program} {w : World} {K : PySem.W.Frag} {elts : List Expr} {kk : Nat} {tpos : Pos} (a e it : Addr) :
    Turn P w K (.Tuple elts kk tpos) (IteT K a) [e, it] e (fun i h => (∃ old, IsEnum h e it ((i : Nat) : Int) old) ∧ h.IsTupleIter it a i ∧ e ≠ it ∧ a ≠ it ∧ a ≠ e) where
  mem := by simp
  obj := fun i h st b hb => by
    obtain ⟨⟨old, he⟩, ⟨o, ho, hc, hd⟩, _⟩ := st
    have hb' : b = e ∨ b = it := by simpa using hb
    rcases hb' with z | z
    · rw [z]; exact ⟨_, he, fun v q => nomatch q⟩
    · rw [z]; exact ⟨o, ho, fun v q => by rw [hd] at q; cases q⟩
  keep := fun i h h' st k => by
    obtain ⟨⟨old, he⟩, hi, hne⟩ := st
    exact ⟨⟨old, k e (by simp) _ he⟩, hi.at fun o q => k it (by simp) o q, hne⟩
  item := by
    intro X hP hw hK hc i pins s σ H E I hf st hg
    subst hP hw hK
    obtain ⟨⟨old, he⟩, hit, hne, hai, hae⟩ := st
    obtain ⟨xs, x, hq, hx⟩ := hg
    obtain ⟨its, rv, p, hz⟩ := I.tuple hq
    obtain ⟨u, hu, ru⟩ := rv.get hx
    have hel : e < s.heap.objs.size := Heap.lt_size he
    have hil : it < s.heap.objs.size := by obtain ⟨_, q, _⟩ := hit; exact Heap.lt_size q
    have hh : X.A.handled = none := I.ok.hd hc
    refine wpAny_pyNext_enum_itemD (Draws.tuple (A := X.A.in1) hh it a hai its.toArray) he ⟨hit, p⟩ ?_ hne ?_ fun y h' tk hy ho hst hT hsz hk => ?_
    · have := (List.getElem?_eq_some_iff.mp hu).1
      simpa using this
    · intro hm
      have hm' : e = it ∨ e = a := by simpa using hm
      rcases hm' with z | z
      · exact hne z
      · exact hae z.symm
    · have ey : y = u := by
        have hy' : its[i]? = some y := by simpa using hy
        exact Option.some.inj (hy'.symm.trans hu)
      subst ey
      refine ⟨_, rfl, wpAny_letOwnedTupleGo_enum (s := { s with heap := h', toks := tk + 1 }) ho fun h'' he' sb => ?_⟩
      have hT2 : h''.get? s.heap.objs.size = some { cls := .type "tuple", data := .seq #[.int i tk, y] } := (sb.2 _ (Nat.ne_of_gt hel)).trans hT
      have new : ObjOk X.prog X.w (upd H s.heap.objs.size (.tup [.int (i : Nat), x])) h'' s.heap.objs.size (.tup [.int (i : Nat), x]) :=
        ⟨by show 2 ≤ sizeLine; decide, [.int i tk, y], .cons ⟨_, rfl⟩ (.cons ru .nil), ⟨_, hT2, rfl, _, rfl⟩⟩
      have I1 : Inv X pins σ (upd H s.heap.objs.size (.tup [.int (i : Nat), x])) { s with heap := h'', toks := tk + 1 } :=
        I.turnedNew (ch := [e, it]) (fun b ob hb q => (sb.2 b (fun z => hb (by simp [z]))).trans (hk b ob (fun z => hb (by simp [z])) (fun z => hb (by simp [z])) q)) hf (Nat.le_refl _) new
      refine ⟨.ref s.heap.objs.size, _, I1, rfl, ⟨_, x, rfl, I.hok.fresh (Nat.le_refl _), rfl, fun ys hy => by rw [I.tuple_inj hy hq]; exact hx⟩, ⟨⟨y, ?_⟩, hst.1.at fun o q => (sb.2 it (Ne.symm hne)).trans q, hne, hai, hae⟩, fun b hb => ?_⟩
      · have e1 : ((i + 1 : Nat) : Int) = (i : Int) + 1 := by omega
        rw [e1]; exact he'
      · have hb' : b < s.heap.objs.size := by
          have hb2 : b = e ∨ b = it := by simpa using hb
          rcases hb2 with z | z
          · rw [z]; exact hel
          · rw [z]; exact hil
        rw [upd_ne (Nat.ne_of_lt hb')]
        exact (hf b hb).1
  done := by
    intro X hP hw hK hc i pins s σ H E I hf st hg
    subst hP hw hK
    obtain ⟨⟨old, he⟩, hit, hne, hai, hae⟩ := st
    obtain ⟨xs, hq, hx⟩ := hg
    obtain ⟨its, rv, p, hz⟩ := I.tuple hq
    obtain ⟨f0, f1, f2, f3, f4, f5⟩ := hf it (by simp)
    have hl := rv.length
    have hh : X.A.handled = none := I.ok.hd hc
    have ei : its.toArray.size = i := by rw [List.size_toArray, ← hl]; exact hx
    have st2 : s.heap.IsTupleIter it a its.toArray.size ∧ s.heap.IsTuple a its.toArray := by rw [ei]; exact ⟨hit, p⟩
    exact wpAny_pyNext_enum_endD (Draws.tuple (A := X.A.in1) hh it a hai its.toArray) he st2 fun h' eb => ⟨rfl, I.turned (t' := s.toks) (fun b o hb q => eb b o hb q) f0 f1 f3 f4 f5⟩
  self := fun A i s Q E st h => by
    obtain ⟨⟨_, he⟩, _⟩ := st
    exact wpAny_pyIter_enum he h
def iEnumT (K : PySem.W.Frag) (ta : TA) : TI := fun σ H R => ta σ H fun vs H1 => ∃ a xs, vs = [.ref a] ∧ SqT K H1 a xs ∧ R (IteT K a) H1
theorem pi_enumT {X : Cx} {e : Expr} {ta : TA} {p pos tpos : Pos} {elts : List Expr} {kk : Nat} (hg : Gl X "enumerate") (hm : X.mg "enumerate" = none) (ha : PA X [e] ta) (hs : starEach [e] X.env = [(false, eval e X.env)] := by rfl) :
    PI X (.Tuple elts kk tpos) (.Call (.Name "enumerate" p) [e] [] pos) (iEnumT X.K ta) := by
  refine ⟨fun pins s σ H R I h => Call_ (ld_blt I hg hm boot_enumerate (PyProof.Rows.callWith_type1 (thn (ha.run pos pins s σ H _ I h) fun us s1 ⟨vs, H1, I1, r1, q1⟩ => ?_) hs rfl))⟩
  obtain ⟨a, xs, rfl, hq, q⟩ := q1
  cases r1 with
  | cons r rr =>
    cases rr
    cases r
    obtain ⟨its, rv, p', hz⟩ := I1.tuple hq
    have hal : a < s1.heap.objs.size := by obtain ⟨o, ho, _⟩ := p'; exact Heap.lt_size ho
    refine G_enumCall (begins_tuple a its.toArray) p' fun h' he hit hk => wpAny_pyIter_enum he ?_
    have I2 : Inv X pins σ H1 { s1 with heap := h' } := I1.kept (t' := s1.toks) hk
    refine ⟨s1.heap.objs.size + 1, [s1.heap.objs.size + 1, s1.heap.objs.size], _, _, H1, rfl, I2, turn_enumT a (s1.heap.objs.size + 1) s1.heap.objs.size,
      ⟨⟨.none, he⟩, ⟨_, hit, rfl, rfl⟩, Nat.succ_ne_self _, Nat.ne_of_lt hal, Nat.ne_of_lt (Nat.lt_succ_of_lt hal)⟩, fun b hb => ?_, q⟩
    have hb' : b = s1.heap.objs.size + 1 ∨ b = s1.heap.objs.size := by simpa using hb
    have hle : s1.heap.objs.size ≤ b := by
      rcases hb' with z | z
      · rw [z]; exact Nat.le_add_right _ _
      · rw [z]; exact Nat.le_refl _
    exact I1.fpOk hle (I1.hok.fresh hle)
theorem walk_enumT {K : PySem.W.Frag} {a : Addr} {xs : List V} : Walk (IteT K a) xs.length (fun H => SqT K H a xs) (YPair (fun i => some (.int (i : Nat))) (fun i => xs[i]?)) := by
  refine ⟨fun i _ hi q => ⟨xs, xs[i], q, by simp [hi]⟩, fun _ q => ⟨xs, q, rfl⟩, fun i H v H' _ q y => ?_⟩
  obtain ⟨T, x, h1, h2, h3, h4⟩ := y
  exact ⟨T, .int (i : Nat), x, h1, h2, h3, rfl, h4 xs q⟩
theorem kPiEnumT {X : Cx} {K : PySem.W.Frag} {e : Expr} {ta : TA} {p pos tpos : Pos} {elts : List Expr} {kk : Nat} (h : X.K = K) (hg : Gl X "enumerate") (hm : X.mg "enumerate" = none) (ha : PA X [e] ta) (hs : starEach [e] X.env = [(false, eval e X.env)] := by rfl) :
    PI X (.Tuple elts kk tpos) (.Call (.Name "enumerate" p) [e] [] pos) (iEnumT K ta) := by subst h; exact pi_enumT hg hm ha hs
end G
/-! t[a::2], t a tuple -/
namespace HT
open PySem PySem.Spec PyProof.Rows L2
section
variable {prog : Program} {w : World} {A : Around} {E : Value → Shared → Prop} {s : Shared}
theorem g_applied {sl : Addr} {vl vu vs : Value} {lo hi : Option Int} {st : Int} {n : Nat} {Q : Int × Int × Nat → Shared → Prop} (hs : s.heap.IsSliceOf sl vl vu vs) (pl : IsPart vl lo) (pu : IsPart vu hi) (ps : IsPart vs (some st)) (h0 : st ≠ 0)
    (h : Q ((Builtin.Slice.sliceAdjust lo hi st (n : Int)).1, st, Builtin.Slice.slicePlaces (Builtin.Slice.sliceAdjust lo hi st (n : Int)).1 (Builtin.Slice.sliceAdjust lo hi st (n : Int)).2 st) s) :
    wpAny (model prog w) A (Builtin.Slice.sliceApplied (.ref sl) (pure (n : Int))) Q E s := by
  obtain ⟨ob, hob, _, hd⟩ := id hs
  unfold Builtin.Slice.sliceApplied Builtin.Slice.sliceFields
  refine wpAny_bind (wpAny_bind (wpAny_field hob hd (x := vl) rfl (wpAny_bind (wpAny_field hob hd (x := vu) rfl (wpAny_bind (wpAny_field hob hd (x := vs) rfl (wpAny_pure ?_)))))))
  refine wpAny_bind (slicePart_ ps ?_)
  show wpAny _ _ (if (st == 0) = true then _ else _) _ _ s
  rw [if_neg (by intro q; exact h0 (eq_of_beq q))]
  exact wpAny_bind (slicePart_ pl (wpAny_bind (slicePart_ pu (wpAny_bind (wpAny_pure (wpAny_pure h))))))
def stepped (xs : List Value) (lo st : Int) (n : Nat) : List Value := (List.range n).filterMap fun (k : Nat) => xs.toArray[(lo + (k : Int) * st).toNat]?
theorem g_getStep {t sl : Addr} {its : List Value} {vl vu vs : Value} {lo hi : Option Int} {st : Int} {Q : Value → Shared → Prop} (ht : IsTup s.heap t its.toArray) (hs : s.heap.IsSliceOf sl vl vu vs) (pl : IsPart vl lo) (pu : IsPart vu hi) (ps : IsPart vs (some st)) (h0 : st ≠ 0) (h1 : st ≠ 1)
    (hz : (stepped its (Builtin.Slice.sliceAdjust lo hi st (its.toArray.size : Int)).1 st (Builtin.Slice.slicePlaces (Builtin.Slice.sliceAdjust lo hi st (its.toArray.size : Int)).1 (Builtin.Slice.sliceAdjust lo hi st (its.toArray.size : Int)).2 st)).length ≤ sizeLine)
    (h : Q (.ref s.heap.objs.size) { s with heap := s.heap.push { cls := .type "tuple", data := .seq (stepped its (Builtin.Slice.sliceAdjust lo hi st (its.toArray.size : Int)).1 st (Builtin.Slice.slicePlaces (Builtin.Slice.sliceAdjust lo hi st (its.toArray.size : Int)).1 (Builtin.Slice.sliceAdjust lo hi st (its.toArray.size : Int)).2 st)).toArray } }) :
    wpAny (model prog w) A (getItem (.ref t) (.ref sl)) Q E s := by
  have ok : sizeOk (.seq (stepped its (Builtin.Slice.sliceAdjust lo hi st (its.toArray.size : Int)).1 st (Builtin.Slice.slicePlaces (Builtin.Slice.sliceAdjust lo hi st (its.toArray.size : Int)).1 (Builtin.Slice.sliceAdjust lo hi st (its.toArray.size : Int)).2 st)).toArray) := by
    show (stepped its _ st _).toArray.size ≤ sizeLine
    rw [List.size_toArray]; exact hz
  obtain ⟨ob, hob, hc, hd⟩ := id hs
  have hTs : s.TypeIs (.ref sl) "slice" := ⟨ob, hob, hc⟩
  unfold getItem
  try with_reducible refine wpAny_holding ?_
  first | refine wpAny_bind (wpAny_pure ?_) | skip
  refine wpAny_bind (wpAny_sequenceKey ht.typeIs (by decide) ?_)
  refine wpAny_bind (wpAny_callSpecial?_slot (name := Str.ofString "__getitem__") ht.typeIs slot_tuple_getitem (wpAny_call_entry slot_tuple_getitem ht.typeIs entry_tuple_getitem ?_ (args_tuple_getitem _ _)))
  show wpAny _ _ (Builtin.Tuple.tupleItemsOf (.ref t) >>= _) _ _ s
  refine wpAny_bind (tupleItemsOf_ ht (wpAny_bind (wpAny_typeOf hTs ?_)))
  rw [if_pos (by decide)]
  refine wpAny_bind (g_applied hs pl pu ps h0 ?_)
  generalize (Builtin.Slice.sliceAdjust lo hi st (its.toArray.size : Int)).1 = l0 at *
  generalize Builtin.Slice.slicePlaces l0 (Builtin.Slice.sliceAdjust lo hi st (its.toArray.size : Int)).2 st = n0 at *
  have hno : ¬ ((l0 == 0 && st == 1 && n0 == its.toArray.size) = true) := by
    intro q
    rw [Bool.and_eq_true, Bool.and_eq_true] at q
    exact h1 (eq_of_beq q.1.2)
  show wpAny _ _ (if (l0 == 0 && st == 1 && n0 == its.toArray.size) = true then _ else _) _ _ s
  rw [if_neg hno]
  first
    | exact wpAny_bind (m := Builtin.Tuple.tupleExact _) (wpAny_newObj_type (wpAny_pure ⟨_, rfl, wpAny_pure h⟩) ok)
    | exact wpAny_bind (m := Builtin.Tuple.tupleExact _) (wpAny_newObj_type (wpAny_bind (wpAny_pure (wpAny_pure ⟨_, rfl, wpAny_pure h⟩))) ok)
    | exact wpAny_bind (wpAny_bind (m := Builtin.Tuple.tupleExact _) (wpAny_newObj_type (wpAny_pure (wpAny_pure ⟨_, rfl, wpAny_pure h⟩)) ok))
    | exact wpAny_bind (wpAny_bind (m := Builtin.Tuple.tupleExact _) (wpAny_newObj_type (wpAny_pure ⟨_, rfl, wpAny_pure h⟩) ok))
end
end HT
namespace G
open PySem PySem.Spec PyProof.Rows L2 Evl
/-- every second item from a on -/
def halfL {α : Type} (a : Nat) (xs : List α) : List α := (List.range ((xs.length - a + 1) / 2)).filterMap fun k => xs[a + 2 * k]?
theorem halfL_len {α : Type} (a : Nat) (xs : List α) : (halfL a xs).length ≤ xs.length + 1 := by
  unfold halfL
  refine Nat.le_trans (List.length_filterMap_le _ _) ?_
  rw [List.length_range]; omega
theorem vals_filterMap {f : Nat → Option V} {g : Nat → Option Value} : ∀ {l : List Nat}, (∀ k, k ∈ l → RelO (f k) (g k)) → Vals (l.filterMap f) (l.filterMap g)
  | [], _ => .nil
  | k :: r, h => by
    have hk := h k (List.mem_cons_self ..)
    have ih := vals_filterMap (l := r) fun j hj => h j (List.mem_cons_of_mem _ hj)
    rw [List.filterMap_cons, List.filterMap_cons]
    cases e : f k with
    | none =>
      cases e2 : g k with
      | none => exact ih
      | some u => rw [e, e2] at hk; exact hk.elim
    | some v =>
      cases e2 : g k with
      | none => rw [e, e2] at hk; exact hk.elim
      | some u => rw [e, e2] at hk; exact .cons hk ih
def tHalf (K : PySem.W.Frag) (a : Nat) (te : TE) : TE := fun σ H Q => te σ H fun x H1 => ∃ t xs, x = .ref t ∧ SqT K H1 t xs ∧ xs.length ≤ 100000 ∧ ∀ p, H1 p = none → Q (.ref p) (upd H1 p (.tup (halfL a xs)))
theorem half_places {a n : Nat} (h : a ≤ 1) : (Builtin.Slice.sliceAdjust (some (a : Int)) none 2 (n : Int)).1 = ((min a n : Nat) : Int) ∧
    Builtin.Slice.slicePlaces (Builtin.Slice.sliceAdjust (some (a : Int)) none 2 (n : Int)).1 (Builtin.Slice.sliceAdjust (some (a : Int)) none 2 (n : Int)).2 2 = (n - a + 1) / 2 := by
  have h2 : ¬ ((2 : Int) < 0) := by omega
  have h3 : (2 : Int) > 0 := by omega
  have ha : ¬ ((a : Int) < 0) := by omega
  have e : Builtin.Slice.sliceAdjust (some (a : Int)) none 2 (n : Int) = (((min a n : Nat) : Int), (n : Int)) := by
    unfold Builtin.Slice.sliceAdjust
    simp only [h2, if_false, ha]
    refine Prod.ext ?_ rfl
    show min (a : Int) (n : Int) = ((min a n : Nat) : Int)
    omega
  rw [e]
  refine ⟨rfl, ?_⟩
  show Builtin.Slice.slicePlaces ((min a n : Nat) : Int) (n : Int) 2 = (n - a + 1) / 2
  unfold Builtin.Slice.slicePlaces
  simp only [h3, if_true]
  split <;> omega
section
variable {X : Cx}
theorem pe_half {e : Expr} {te : TE} {a : Nat} {k1 k2 : Nat} {p1 p2 p3 pos : Pos} (ha : a ≤ 1) (he : PE X e te) : PE X (.Subscript e (.Slice (some (.Constant (.int (a : Int)) k1 p1)) none (some (.Constant (.int 2) k2 p2)) p3) pos) (tHalf X.K a te) := by
  refine ⟨fun pins s σ H Q I h => Subscript_ (thn (he.run pins s σ H _ I h) fun v s1 ⟨x, H1, I1, r1, q1⟩ => ?_)⟩
  obtain ⟨t, xs, rfl, hx, hlen, q⟩ := q1
  cases r1
  have hlo : PO X (some (.Constant (.int (a : Int)) k1 p1)) (tPart (tC (.int (a : Int)))) := po_some pe_int
  have hst : PO X (some (.Constant (.int 2) k2 p2)) (tPart (tC (.int 2))) := po_some pe_int
  refine wpAny_Slice (thn (hlo.run pins s1 σ H1 (fun o H2 => o = some (a : Int) ∧ H2 = H1) I1 ⟨_, rfl, rfl, rfl⟩) fun vl s2 ⟨l, H2, I2, pl, el, e2⟩ => ?_)
  subst el e2
  refine thn (po_none.run pins s2 σ H2 (fun o H3 => o = none ∧ H3 = H2) I2 ⟨rfl, rfl⟩) fun vu s3 ⟨u, H3, I3, pu, eu, e3⟩ => ?_
  subst eu e3
  refine thn (hst.run pins s3 σ H3 (fun o H4 => o = some 2 ∧ H4 = H3) I3 ⟨_, rfl, rfl, rfl⟩) fun vs s4 ⟨o, H4, I4, ps, eo, e4⟩ => ?_
  subst eo e4
  have I5 : Inv X pins σ H4 { s4 with heap := s4.heap.push { cls := .type "slice", data := .fields #[vl, vu, vs] } } := I4.kept (t' := s4.toks) fun b ob q => Heap.get?_push_of_some _ q
  obtain ⟨its, r, ht, hz⟩ := I5.tuple hx
  have hl : its.toArray.size = xs.length := by rw [List.size_toArray]; exact r.length.symm
  obtain ⟨hp1, hp2⟩ := half_places (n := xs.length) ha
  have hrel : Vals (halfL a xs) (HT.stepped its ((min a xs.length : Nat) : Int) 2 ((xs.length - a + 1) / 2)) := by
    unfold halfL HT.stepped
    refine vals_filterMap fun k hk => ?_
    have hk' := List.mem_range.mp hk
    have hi : a + 2 * k < xs.length := by omega
    have en : (((min a xs.length : Nat) : Int) + (k : Int) * 2).toNat = a + 2 * k := by omega
    rw [en, List.getElem?_eq_getElem hi]
    obtain ⟨u, hu, ru⟩ := r.get (List.getElem?_eq_getElem hi)
    rw [List.getElem?_toArray, hu]
    exact ru
  have hsz : (halfL a xs).length ≤ sizeLine := sz_of (by
    unfold halfL
    refine Nat.le_trans (List.length_filterMap_le _ _) ?_
    rw [List.length_range]
    omega)
  show wpAny (model X.prog X.w) X.A (subscriptTail e (.Slice (some (.Constant (.int (a : Int)) k1 p1)) none (some (.Constant (.int 2) k2 p2)) p3) (.ref t) (.ref s4.heap.objs.size)) (EP X pins σ Q) X.xe { s4 with heap := s4.heap.push { cls := .type "slice", data := .fields #[vl, vu, vs] } }
  refine tail_any (ops := [.ref t, .ref s4.heap.objs.size]) ht.typeIs PyProof.Rows.slot_tuple_getitem.lookup ?_ (by with_unfolding_all rfl)
  refine HT.g_getStep ht (Heap.IsSliceOf.new _ vl vu vs) pl pu ps (by decide) (by decide) ?_ ?_
  · rw [hl, hp2, hp1, ← hrel.length]; exact hsz
  · rw [hl, hp2, hp1]
    refine ⟨.ref _, _, I5.laid (t' := s4.toks) (o := .tup (halfL a xs)) (fun b ob q => Heap.get?_push_of_some _ q) (Nat.le_refl _) ?_, rfl, q _ (I5.hok.fresh (Nat.le_refl _))⟩
    exact ⟨hsz, _, hrel, ⟨_, Heap.get?_push_size _ rfl, rfl, _, rfl⟩⟩
end
end G
namespace G
open PySem PySem.Spec PyProof.Rows L2 Evl
/-! ## two lists side by side -/
def All2 {α β : Type} (R : α → β → Prop) (as : List α) (bs : List β) : Prop := as.length = bs.length ∧ ∀ (i : Nat) (a : α) (b : β), as[i]? = some a → bs[i]? = some b → R a b
theorem All2.nil {α β : Type} {R : α → β → Prop} : All2 R [] [] := ⟨rfl, fun _ _ _ h => nomatch h⟩
theorem All2.imp {α β : Type} {R S : α → β → Prop} {as : List α} {bs : List β} (h : All2 R as bs) (f : ∀ a b, R a b → S a b) : All2 S as bs := ⟨h.1, fun i a b h1 h2 => f _ _ (h.2 i a b h1 h2)⟩
theorem All2.snoc {α β : Type} {R : α → β → Prop} {as : List α} {bs : List β} {a : α} {b : β} (h : All2 R as bs) (r : R a b) : All2 R (as ++ [a]) (bs ++ [b]) := by
  refine ⟨by rw [List.length_append, List.length_append, h.1]; rfl, fun i x y h1 h2 => ?_⟩
  by_cases hi : i < as.length
  · rw [List.getElem?_append_left hi] at h1
    rw [List.getElem?_append_left (h.1 ▸ hi)] at h2
    exact h.2 i x y h1 h2
  · rw [List.getElem?_append_right (by omega)] at h1
    rw [List.getElem?_append_right (by rw [← h.1]; omega), ← h.1] at h2
    cases e : i - as.length with
    | zero =>
      rw [e] at h1 h2
      cases h1; cases h2; exact r
    | succ n => rw [e] at h1; exact nomatch h1
theorem All2.at_ {α β : Type} {R : α → β → Prop} {as : List α} {bs : List β} (h : All2 R as bs) {i : Nat} {a : α} (e : as[i]? = some a) : ∃ b, bs[i]? = some b ∧ R a b := by
  have hi : i < bs.length := by rw [← h.1]; exact (List.getElem?_eq_some_iff.mp e).1
  exact ⟨bs[i], List.getElem?_eq_getElem hi, h.2 i a _ e (List.getElem?_eq_getElem hi)⟩
theorem All2.of {α β : Type} {R : α → β → Prop} {as : List α} {bs : List β} (h : All2 R as bs) {i : Nat} {b : β} (e : bs[i]? = some b) : ∃ a, as[i]? = some a ∧ R a b := by
  have hi : i < as.length := by rw [h.1]; exact (List.getElem?_eq_some_iff.mp e).1
  exact ⟨as[i], List.getElem?_eq_getElem hi, h.2 i _ b (List.getElem?_eq_getElem hi) e⟩
theorem All2.cons {α β : Type} {R : α → β → Prop} {as : List α} {bs : List β} {a : α} {b : β} (r : R a b) (h : All2 R as bs) : All2 R (a :: as) (b :: bs) := by
  refine ⟨by rw [List.length_cons, List.length_cons, h.1], fun i x y h1 h2 => ?_⟩
  cases i with
  | zero => cases h1; cases h2; exact r
  | succ i => exact h.2 i x y h1 h2
theorem take_snoc1 {α : Type} {l : List α} {j : Nat} {x : α} (h : l[j]? = some x) : l.take (j + 1) = l.take j ++ [x] := by rw [List.take_add_one, h]; rfl
theorem refs_get {as : List Addr} {k : Nat} {x : V} (hx : (as.map V.ref)[k]? = some x) : ∃ a, as[k]? = some a ∧ x = .ref a := by
  rw [List.getElem?_map] at hx
  cases e : as[k]? with
  | none => rw [e] at hx; cases hx
  | some a => rw [e] at hx; cases hx; exact ⟨a, rfl, rfl⟩
/-! ## walks: any body -/
theorem wk_list {K : PySem.W.Frag} {a : Addr} {xs : List V} {body : (Hp → Prop) → V → Hp → Prop} {H0 : Hp} {Qd : Hp → Prop} (Pv : Nat → Hp → Prop) (h0 : Pv 0 H0) (hl : ∀ i H, i ≤ xs.length → Pv i H → SqL K H a xs)
    (hs : ∀ i x H, xs[i]? = some x → Pv i H → body (Pv (i + 1)) x H) (hd : ∀ H, Pv xs.length H → Qd H) :
    ∃ W : Nat → Nat → Hp → Prop, (∃ m, W 0 m H0) ∧ ∀ i m H, W i m H → ((Itl K a).stop i H ∧ Qd H) ∨ ((Itl K a).go i H ∧ ∃ Nx : Hp → Prop, (∀ H', Nx H' → ∃ m', m' < m ∧ W (i + 1) m' H') ∧ ∀ x H', (Itl K a).yld i H x H' → body Nx x H') := by
  refine ⟨fun i m H => m = xs.length - i ∧ i ≤ xs.length ∧ Pv i H, ⟨xs.length, by simp, Nat.zero_le _, h0⟩, ?_⟩
  rintro i m H ⟨rfl, hi, p⟩
  have q := hl i H hi p
  rcases Nat.lt_or_ge i xs.length with lt | ge
  · have e : xs[i]? = some xs[i] := List.getElem?_eq_getElem lt
    refine .inr ⟨⟨xs, xs[i], q, e⟩, Pv (i + 1), fun H' p' => ⟨xs.length - (i + 1), by omega, rfl, lt, p'⟩, fun x H' y => ?_⟩
    obtain ⟨rfl, y⟩ := y
    exact hs i x _ (y xs q) p
  · have e : i = xs.length := by omega
    subst e
    exact .inl ⟨⟨xs, q, Nat.le_refl _⟩, hd H p⟩
theorem wk_tup {K : PySem.W.Frag} {a : Addr} {xs : List V} {body : (Hp → Prop) → V → Hp → Prop} {H0 : Hp} {Qd : Hp → Prop} (Pv : Nat → Hp → Prop) (h0 : Pv 0 H0) (hl : ∀ i H, i ≤ xs.length → Pv i H → SqT K H a xs)
    (hs : ∀ i x H, xs[i]? = some x → Pv i H → body (Pv (i + 1)) x H) (hd : ∀ H, Pv xs.length H → Qd H) :
    ∃ W : Nat → Nat → Hp → Prop, (∃ m, W 0 m H0) ∧ ∀ i m H, W i m H → ((Itt K a).stop i H ∧ Qd H) ∨ ((Itt K a).go i H ∧ ∃ Nx : Hp → Prop, (∀ H', Nx H' → ∃ m', m' < m ∧ W (i + 1) m' H') ∧ ∀ x H', (Itt K a).yld i H x H' → body Nx x H') := by
  refine ⟨fun i m H => m = xs.length - i ∧ i ≤ xs.length ∧ Pv i H, ⟨xs.length, by simp, Nat.zero_le _, h0⟩, ?_⟩
  rintro i m H ⟨rfl, hi, p⟩
  have q := hl i H hi p
  rcases Nat.lt_or_ge i xs.length with lt | ge
  · have e : xs[i]? = some xs[i] := List.getElem?_eq_getElem lt
    refine .inr ⟨⟨xs, xs[i], q, e⟩, Pv (i + 1), fun H' p' => ⟨xs.length - (i + 1), by omega, rfl, lt, p'⟩, fun x H' y => ?_⟩
    obtain ⟨rfl, y⟩ := y
    exact hs i x _ (y xs q) p
  · have e : i = xs.length := by omega
    subst e
    exact .inl ⟨⟨xs, q, Nat.le_refl _⟩, hd H p⟩
theorem wk_it {J : It} {n : Nat} {Gd : Hp → Prop} {Y : Nat → Hp → V → Hp → Prop} (w : Walk J n Gd Y) {body : (Hp → Prop) → V → Hp → Prop} {H0 : Hp} {Qd : Hp → Prop} (Pv : Nat → Hp → Prop) (h0 : Pv 0 H0) (hG : ∀ i H, i ≤ n → Pv i H → Gd H)
    (hs : ∀ i x H H', i < n → Pv i H → Y i H x H' → body (Pv (i + 1)) x H') (hd : ∀ H, Pv n H → Qd H) :
    ∃ W : Nat → Nat → Hp → Prop, (∃ m, W 0 m H0) ∧ ∀ i m H, W i m H → (J.stop i H ∧ Qd H) ∨ (J.go i H ∧ ∃ Nx : Hp → Prop, (∀ H', Nx H' → ∃ m', m' < m ∧ W (i + 1) m' H') ∧ ∀ x H', J.yld i H x H' → body Nx x H') := by
  refine ⟨fun i m H => m = n - i ∧ i ≤ n ∧ Pv i H, ⟨n, by simp, Nat.zero_le _, h0⟩, ?_⟩
  rintro i m H ⟨rfl, hi, p⟩
  rcases Nat.lt_or_ge i n with lt | ge
  · exact .inr ⟨w.goes i H lt (hG i H hi p), Pv (i + 1), fun H' p' => ⟨n - (i + 1), by omega, rfl, lt, p'⟩, fun x H' y => hs i x H H' lt p (w.yields i H x H' lt (hG i H hi p) y)⟩
  · have e : i = n := by omega
    subst e
    exact .inl ⟨w.stops H (hG i H hi p), hd H p⟩
/-! ## tuples joined and cut, whatever object that is -/
theorem cat_tup {K : PySem.W.Frag} {H : Hp} {a b : Addr} {xs ys : List V} {Q : VK} (ha : H a = some (.tup xs)) (hb : H b = some (.tup ys)) (hl : xs.length + ys.length ≤ sizeLine) (q : ∀ c H', Ex H H' → H' c = some (.tup (xs ++ ys)) → Q (.ref c) H') : rCatA K (.ref a) (.ref b) H Q := by
  refine ⟨a, b, xs, ys, rfl, rfl, SqT.of ha, SqT.of hb, hl, fun e => ?_, fun _ e => ?_, fun _ _ p np => ?_⟩
  · subst e; exact q b H (Ex.refl _) hb
  · subst e; exact q a H (Ex.refl _) (by rw [List.append_nil]; exact ha)
  · exact q p _ (Ex.new np) upd_same
theorem cut_tup {K : PySem.W.Frag} {H : Hp} {a : Addr} {xs : List V} {lo hi : Option Int} {Q : VK} (ha : H a = some (.tup xs)) (q : ∀ c H', Ex H H' → H' c = some (.tup (cutV xs lo hi)) → Q (.ref c) H') : rSlA K (.ref a) lo hi H Q := by
  refine ⟨a, xs, rfl, SqT.of ha, fun e => ?_, fun _ p np => q p _ (Ex.new np) upd_same⟩
  refine q a H (Ex.refl _) ?_
  rw [ha]
  unfold cutV
  rw [e.1, e.2, List.drop_zero, Nat.sub_zero, List.take_length]
theorem cutV_head {xs : List V} {k : Nat} (h : k ≤ xs.length) : cutV xs none (some (k : Int)) = xs.take k := by
  unfold cutV
  rw [HT.sIx_none, HT.sIx_nat, List.drop_zero, Nat.sub_zero, Nat.min_eq_left h]
theorem cutV_tail {xs : List V} {k : Nat} (h : k ≤ xs.length) : cutV xs (some (k : Int)) none = xs.drop k := by
  unfold cutV
  rw [HT.sIx_none, HT.sIx_nat, Nat.min_eq_left h, List.take_of_length_le]
  rw [List.length_drop]; exact Nat.le_refl _
end G
namespace G
open PySem PySem.Spec PyProof.Rows L2 Evl
theorem tYes_in {σ : L2.St} {H : Hp} {A B : Hp → Prop} (h : A H) : tYes σ H (fun b H3 => if b = true then A H3 else B H3) := by
  show if true = true then A H else B H
  exact iteT h
def tabV (bs : List Bool) : HO := .tup (bs.map V.bl)
theorem inV_ints {k : Int} {l : List Int} : inV (.int k) (l.map V.int) = l.contains k := by
  unfold inV
  rw [List.any_map, List.contains_eq_any_beq]
  congr 1
  funext y
  show (y == k) = (k == y)
  rw [Bool.eq_iff_iff]; simp; exact eq_comm
theorem inV_bls {k : Bool} {l : List Bool} : inV (.bl k) (l.map V.bl) = l.contains k := by
  unfold inV
  rw [List.any_map, List.contains_eq_any_beq]
  congr 1
  funext y
  show (y == k) = (k == y)
  cases y <;> cases k <;> rfl
theorem flat_map {α : Type} {f : α → V} (h : ∀ x, flatV (f x) = true) (l : List α) : (l.map f).all flatV = true := by
  rw [List.all_map]
  exact List.all_eq_true.mpr fun x _ => h x
end G
namespace G
open PySem PySem.Spec PyProof.Rows L2
def topS (i : Nat) : Stmt := PySem.Challenge.pw_signoff_k35_waveforms.main.body.getD i (.Pass ⟨0, 0, 0, 0⟩)
abbrev s_wall : Stmt := topS 0
abbrev s_is_ascending : Stmt := topS 2
abbrev s_count_until : Stmt := topS 3
abbrev s_look_up : Stmt := topS 10
abbrev s_Waveform_init : Stmt := inClass (topS 15) 0
abbrev s_Waveform_start : Stmt := inClass (topS 15) 1
abbrev s_Waveform_changes : Stmt := inClass (topS 15) 2
abbrev s_Waveform_value_at : Stmt := inClass (topS 15) 3
abbrev s_Waveform_shows : Stmt := inClass (topS 15) 4
abbrev s_Waveform_is_steady : Stmt := inClass (topS 15) 5
abbrev s_Waveform_shifted : Stmt := inClass (topS 15) 6
abbrev s_Waveform_invert : Stmt := inClass (topS 15) 7
abbrev s_Waveform_and : Stmt := inClass (topS 15) 8
abbrev s_Waveform_or : Stmt := inClass (topS 15) 9
abbrev s_Waveform_xor : Stmt := inClass (topS 15) 10
abbrev s_Waveform_same_as : Stmt := inClass (topS 15) 11
abbrev s_Waveform_of_bits : Stmt := inClass (topS 15) 12
abbrev s_Waveform_combined : Stmt := inClass (topS 15) 13
abbrev s_law_same : Stmt := topS 17
abbrev s_law_pool : Stmt := topS 18
abbrev s_law_spread : Stmt := topS 19
abbrev s_law_draw : Stmt := topS 20
abbrev s_law_changes : Stmt := topS 21
abbrev s_law_wave_value : Stmt := topS 22
abbrev s_law_told : Stmt := topS 23
abbrev s_law : Stmt := topS 24
end G
namespace G
open PySem PySem.Spec PyProof.Rows L2 Evl
structure TxtL (mg : Str → Option Value) : Prop where
  int : mg "int" = none
  len : mg "len" = none
  list : mg "list" = none
  range : mg "range" = none
section
variable {P : Program} {w : World} {K : PySem.W.Frag} {mg : Str → Option Value} {base : Heap}
def spSpread : Sp := fun vs H Q _ => ∃ (c : Int), vs = [.int c] ∧ ∀ v : Int, Q (.int v) H
theorem sc_law_spread : FnScope ["cell", "mixed", "total", "k"] ["cell"] (defScope s_law_spread) := ⟨rfl, rfl, rfl, by decide +kernel, rfl, by decide +kernel, by decide +kernel⟩
theorem ok_law_spread (D : Dfd K mg "_law_spread" s_law_spread ["cell"]) (T : TxtL mg) : Has P w K mg base 1 "_law_spread" ["cell"] spSpread := by
  refine D.has fun f fd F => F.ok sc_law_spread (fun vs H Q E h => ?_) (fun cdv A outer s H vs Q E hr h => ?_)
  · obtain ⟨c, rfl, _⟩ := h
    rfl
  · obtain ⟨c, rfl, q⟩ := h
    refine ⟨_, (pss_cons (ps_set (i := 1) sc_law_spread.nd rfl (.inl rfl) (pe_op op_mod (pe_callTy call_int1 (by rfl) T.int (by decide +kernel) (pa_cons (pv 0) pa_nil)) pe_int))
      (pss_cons (ps_set (i := 2) sc_law_spread.nd rfl (.inl rfl) pe_int)
      (pss_cons (ps_for PassesOwn.never rfl (pi_range1 rfl T.range (pa_cons pe_int pa_nil)) (pg_name (i := 3) sc_law_spread.nd rfl (.inl rfl))
        (pss_cons (ps_set (i := 1) sc_law_spread.nd rfl (.inl rfl) (pe_op op_mod (pe_callTy call_int1 (by rfl) T.int (by decide +kernel) (pa_cons (pe_op op_add (pe_op op_add (pe_op op_mul (pv 1) pe_int) pe_int) (pv 3)) pa_nil)) pe_int))
        (pss_one (ps_set (i := 2) sc_law_spread.nd rfl (.inl rfl) (pe_op op_add (pe_op op_mul (pv 2) pe_int) (pv 1))))))
      (pss_one (ps_ret (pv 2)))))), ?_⟩
    refine ⟨_, rfl, .inl ⟨_, rfl, _, _, rfl, rfl, (by show (0 : Int) < 2147483647; decide), 4, rfl, by decide, by decide, for_range (n := 4) (fun _ σ H' => H' = H ∧ ∃ (x y : Int) (z : Option V), σ = [some (.int c), some (.int x), some (.int y), z]) ⟨rfl, _, _, _, rfl⟩ ?_ ?_⟩⟩
    · rintro i σ H' hi ⟨rfl, x, y, z, rfl⟩
      refine ⟨_, rfl, _, _, rfl, rfl, .inr ⟨by decide, by decide⟩, _, _, rfl, rfl, _, rfl, _, _, rfl, rfl, .inl ⟨_, rfl, _, _, rfl, rfl, (by show (0 : Int) < 2147483647; decide), _, rfl, _, _, rfl, rfl, .inr ⟨by decide, by decide⟩, _, rfl, _, _, rfl, rfl, rfl, _, _, _, rfl⟩⟩
    · rintro σ H' ⟨rfl, x, y, z, rfl⟩
      exact ⟨_, rfl, q y⟩
/-- a draw below n -/
def spDraw : Sp := fun vs H Q _ => ∃ (p a : Addr) (n : Int), vs = [.ref p, .int n] ∧ 0 < n ∧ n.natAbs.log2 < 9000 ∧ PoolOk p a H ∧ ∀ (v : Int) (o : HO), 0 ≤ v → v < n → PoolOk p a (upd H p o) → Q (.int v) (upd H p o)
theorem sc_law_draw : FnScope ["pool", "many", "cell", "mixed", "value"] ["pool", "many"] (defScope s_law_draw) := ⟨rfl, rfl, rfl, by decide +kernel, rfl, by decide +kernel, by decide +kernel⟩
theorem ok_law_draw (D : Dfd K mg "_law_draw" s_law_draw ["pool", "many"]) (T : TxtL mg) (C : Has P w K mg base 1 "_law_spread" ["cell"] spSpread) : Has P w K mg base 2 "_law_draw" ["pool", "many"] spDraw := by
  obtain ⟨f_law_spread, d_law_spread, G_law_spread, g_law_spread, k_law_spread, b_law_spread⟩ := C
  refine D.has fun f fd F => F.ok sc_law_draw (fun vs H Q E h => ?_) (fun cdv A outer s H vs Q E hr h => ?_)
  · obtain ⟨p, a, n, rfl, _⟩ := h
    rfl
  · obtain ⟨p, a, n, rfl, n0, n9, hp, q⟩ := h
    refine ⟨_, (pss_cut (ps_if (PW.pt (pw_and (pt_cmpR op_le (pe_ix ix_list (pv 0) pe_int (fun _ _ => rfl)) pe_int (nomark _)) (pw_and1 (pt_cmpR op_lt (pe_ix ix_list (pv 0) pe_int (fun _ _ => rfl)) (pe_callB call_len_seq (by rfl) T.len (by decide +kernel) (pa_cons (pe_ix ix_list (pv 0) pe_int (fun _ _ => rfl)) pa_nil)) (nomark _)))))
      (pss_cons (ps_set (i := 2) sc_law_draw.nd rfl (.inl rfl) (pe_ix ix_list (pe_ix ix_list (pv 0) pe_int (fun _ _ => rfl)) (pe_ix ix_list (pv 0) pe_int (fun _ _ => rfl)) (fun _ _ => rfl)))
      (pss_cons (ps_asg (pe_op op_add (pe_ix ix_list (pv 0) pe_int (fun _ _ => rfl)) pe_int) (pg_sub (pv 0) pe_int set_list))
      (pss_cons (ps_asg (pv 2) (pg_sub (pv 0) pe_int set_list))
      (pss_one (ps_if (pt_cmpR op_lt (pv 2) pe_int (nomark _))
        (pss_one (ps_asg (pe_call G_law_spread hr (by rfl) g_law_spread k_law_spread b_law_spread .nil pass0 (pa_cons (pv 2) pa_nil)) (pg_sub (pv 0) pe_int set_list)))
        pss_nil)))))
      pss_nil)
    (pss_cons (ps_asg (pe_op op_add (pe_ix ix_list (pv 0) pe_int (fun _ _ => rfl)) pe_int) (pg_sub (pv 0) pe_int set_list))
    (pss_cons (ps_if (pt_cmpR op_le (pe_ix ix_list (pv 0) pe_int (fun _ _ => rfl)) pe_int (nomark _))
      (pss_cons (ps_set (i := 3) sc_law_draw.nd rfl (.inl rfl) (pe_op op_mod (pe_callTy call_int1 (by rfl) T.int (by decide +kernel) (pa_cons (pe_op op_add (pe_op op_add (pe_op op_mul (pe_ix ix_list (pv 0) pe_int (fun _ _ => rfl)) pe_int) (pe_op op_mul (pe_ix ix_list (pv 0) pe_int (fun _ _ => rfl)) pe_int)) pe_int) pa_nil)) pe_int))
      (pss_cons (ps_set (i := 3) sc_law_draw.nd rfl (.inl rfl) (pe_op op_mod (pe_callTy call_int1 (by rfl) T.int (by decide +kernel) (pa_cons (pe_op op_add (pe_op op_mul (pv 3) pe_int) (pe_ix ix_list (pv 0) pe_int (fun _ _ => rfl))) pa_nil)) pe_int))
      (pss_one (ps_ret (pe_op op_mod (pe_op op_fdiv (pv 3) pe_int) (pv 1))))))
      pss_nil)
    (pss_cons (ps_set (i := 4) sc_law_draw.nd rfl (.inl rfl) (pe_op op_mod (pe_callTy call_int1 (by rfl) T.int (by decide +kernel) (pa_cons (pe_ix ix_list (pv 0) pe_int (fun _ _ => rfl)) pa_nil)) (pv 1)))
    (pss_cons (ps_asg (pe_op op_fdivW (pe_ix ix_list (pv 0) pe_int (fun _ _ => rfl)) (pv 1)) (pg_sub (pv 0) pe_int set_list))
    (pss_one (ps_ret (pv 4)))))))), ?_⟩
    obtain ⟨ns, i, c, k, s5, hl, ha, hn⟩ := hp
    have hap : a ≠ p := hid_neq ha
    have haH := hid_get ha
    -- the pool as it stands after writes
    have pk : ∀ (i' : Nat) (c' k' s' : Int), PoolOk p a (upd H p (.lst [.ref a, .int i', .int c', .int k', .int s'])) := fun i' c' k' s' =>
      ⟨ns, i', c', k', s', upd_same, by rw [hid_upd]; exact ha, hn⟩
    refine ⟨fun σ H' => ∃ (i' : Nat) (c' k' s' : Int) (o1 : Option V), σ = [some (.ref p), some (.int n), o1, none, none] ∧ H' p = some (.lst [.ref a, .int i', .int c', .int k', .int s']) ∧ (∀ o, upd H' p o = upd H p o), ?_, ?_⟩
    · refine ⟨_, rfl, _, _, _, _, rfl, rfl, SqL.of hl, atI_nat (j := 2) rfl, _, _, rfl, rfl, _, rfl, ite2 (fun e1 => ?_) (fun e1 => ?_)⟩
      · refine ⟨_, rfl, _, _, _, _, rfl, rfl, SqL.of hl, atI_nat (j := 1) rfl, _, rfl, _, _, _, _, rfl, rfl, SqL.of hl, atI_nat (j := 0) rfl, _, _, rfl, .inl (SqL.of haH), _, _, rfl, rfl, _, rfl, ite2 (fun e2 => ?_) (fun e2 => ?_)⟩
        · have hi : i < (ns.map V.int).length := by have := of_decide_eq_true e2; omega
          have hi' : i < ns.length := by rw [List.length_map] at hi; exact hi
          have gi : (ns.map V.int)[i]? = some (.int ns[i]) := by rw [List.getElem?_map, List.getElem?_eq_getElem hi']; rfl
          refine ⟨_, rfl, _, _, _, _, rfl, rfl, SqL.of hl, atI_nat (j := 0) rfl, _, rfl, _, _, _, _, rfl, rfl, SqL.of hl, atI_nat (j := 1) rfl, _, _, _, _, rfl, rfl, SqL.of haH, atI_nat gi, ?_⟩
          refine ⟨_, rfl, _, _, _, _, rfl, rfl, SqL.of hl, atI_nat (j := 1) rfl, _, _, rfl, rfl, _, rfl, _, _, _, 1, rfl, rfl, hl, rfl, ?_⟩
          refine ⟨_, rfl, _, rfl, _, _, _, 2, rfl, rfl, upd_same, rfl, ?_⟩
          refine ⟨_, rfl, _, _, rfl, rfl, _, rfl, ite2 (fun e3 => ?_) (fun e3 => ?_)⟩
          · refine ⟨_, rfl, _, rfl, fun v => ⟨_, rfl, _, _, _, 2, rfl, rfl, upd_same, rfl, ?_⟩⟩
            exact ⟨i + 1, v, k, s5, _, rfl, upd_same, fun o => by rw [upd_upd, upd_upd, upd_upd]⟩
          · exact ⟨i + 1, ns[i], k, s5, _, rfl, upd_same, fun o => by rw [upd_upd, upd_upd]⟩
        · exact ⟨i, c, k, s5, _, rfl, hl, fun _ => rfl⟩
      · exact iteF ⟨i, c, k, s5, _, rfl, hl, fun _ => rfl⟩
    · rintro σ H' ⟨i, c, k, s5, o1, rfl, hl', hu⟩
      refine ⟨_, rfl, _, _, _, _, rfl, rfl, SqL.of hl', atI_nat (j := 3) rfl, _, _, rfl, rfl, _, rfl, _, _, _, 3, rfl, rfl, hl', rfl, ?_⟩
      refine ⟨_, rfl, _, _, _, _, rfl, rfl, SqL.of upd_same, atI_nat (j := 2) rfl, _, _, rfl, rfl, _, rfl, ite2 (fun e1 => ?_) (fun e1 => ?_)⟩
      · refine ⟨_, rfl, _, _, _, _, rfl, rfl, SqL.of upd_same, atI_nat (j := 4) rfl, _, _, rfl, rfl, .inr ⟨by decide, by decide⟩, _, rfl, _, _, _, _, rfl, rfl, SqL.of upd_same, atI_nat (j := 3) rfl, _, _, rfl, rfl, .inr ⟨by decide, by decide⟩, _, _, rfl, rfl, _, _, rfl, rfl, .inl ⟨_, rfl, _, _, rfl, rfl, (by show (0 : Int) < 2147483647; decide), ?_⟩⟩
        refine ⟨_, rfl, _, _, rfl, rfl, .inr ⟨by decide, by decide⟩, _, rfl, _, _, _, _, rfl, rfl, SqL.of upd_same, atI_nat (j := 3) rfl, _, _, rfl, rfl, .inl ⟨_, rfl, _, _, rfl, rfl, (by show (0 : Int) < 2147483629; decide), ?_⟩⟩
        refine ⟨_, rfl, _, _, rfl, rfl, ⟨by decide, by decide⟩, _, rfl, _, _, rfl, rfl, n0, ?_⟩
        show Q _ _
        rw [hu]
        exact q _ _ (Int.emod_nonneg _ (by omega)) (Int.emod_lt_of_pos _ n0) (pk i c (k + 1) s5)
      · refine ⟨_, rfl, _, _, _, _, rfl, rfl, SqL.of upd_same, atI_nat (j := 2) rfl, .inl ⟨_, rfl, _, rfl, _, _, rfl, rfl, n0, ?_⟩⟩
        refine ⟨_, rfl, _, _, _, _, rfl, rfl, SqL.of upd_same, atI_nat (j := 2) rfl, _, rfl, _, _, rfl, rfl, ⟨n0, n9⟩, _, rfl, _, _, _, 2, rfl, rfl, upd_same, rfl, _, rfl, ?_⟩
        show Q _ _
        rw [upd_upd, hu]
        exact q _ _ (Int.emod_nonneg _ (by omega)) (Int.emod_lt_of_pos _ n0) (pk i (c / n) (k + 1) s5)
/-- the same, the heap behind it a letter -/
def spDrawX : Sp := fun vs H Q _ => ∃ (p a : Addr) (n : Int), vs = [.ref p, .int n] ∧ 0 < n ∧ n ≤ 2 ^ 70 ∧ PoolOk p a H ∧ ∀ (v : Nat) (H' : Hp), (v : Int) < n → Px p a H H' → (∀ b, b ≠ p → H' b = H b) → Q (.int v) H'
theorem log2_small {n : Int} (h0 : 0 < n) (h : n ≤ 2 ^ 70) : n.natAbs.log2 < 9000 := by
  have h1 : n.natAbs < 2 ^ 71 := by omega
  have := PySem.Flt.log2_lt_of (by decide : 0 < 71) h1
  omega
theorem drawX (C : Has P w K mg base 2 "_law_draw" ["pool", "many"] spDraw) : Has P w K mg base 2 "_law_draw" ["pool", "many"] spDrawX :=
  C.imp fun vs H Q E h => by
    obtain ⟨p, a, n, rfl, h0, h1, hp, q⟩ := h
    refine ⟨p, a, n, rfl, h0, log2_small h0 h1, hp, fun v o v0 v1 hq => ?_⟩
    have e : v = ((v.toNat : Nat) : Int) := by omega
    rw [e]
    exact q v.toNat _ (by omega) (Px.draw hp hq) fun b hb => upd_ne hb
end
end G
namespace G
open PySem PySem.Spec PyProof.Rows L2 Evl
section
variable {P : Program} {w : World} {K : PySem.W.Frag} {mg : Str → Option Value} {base : Heap}
theorem cutV_mem {xs : List V} {lo hi : Option Int} {i : Nat} {x : V} (h : (cutV xs lo hi)[i]? = some x) : x ∈ xs := by
  unfold cutV at h
  exact List.mem_of_mem_drop (List.mem_of_mem_take (List.mem_of_getElem? h))
theorem int_of {ns : List Int} {x : V} (h : x ∈ ns.map V.int) : ∃ z, x = .int z := by
  obtain ⟨z, _, e⟩ := List.mem_map.mp h
  exact ⟨z, e.symm⟩
def spPool (K : PySem.W.Frag) : Sp := fun vs H Q _ => ∃ (s : Addr) (ns : List Int), vs = [.ref s] ∧ SqL K H s (ns.map V.int) ∧ ns.length ≤ 1000 ∧ ∀ (p a : Addr) (H' : Hp), PoolOk p a H' → Ex H H' → H p = none → Q (.ref p) H'
theorem sc_law_pool : FnScope ["script", "salt", "cell"] ["script"] (defScope s_law_pool) := ⟨rfl, rfl, rfl, by decide +kernel, rfl, by decide +kernel, by decide +kernel⟩
theorem ok_law_pool (D : Dfd K mg "_law_pool" s_law_pool ["script"]) (T : TxtL mg) : Has P w K mg base 1 "_law_pool" ["script"] (spPool K) := by
  refine D.has fun f fd F => F.ok sc_law_pool (fun vs H Q E h => ?_) (fun cdv A outer s H vs Q E hr h => ?_)
  · obtain ⟨c, _, rfl, _⟩ := h
    rfl
  · obtain ⟨sa, ns, rfl, hs, hn, q⟩ := h
    refine ⟨_, (pss_cons (ps_set (i := 1) sc_law_pool.nd rfl (.inl rfl) pe_int)
      (pss_cons (ps_for PassesOwn.never rfl (pi_list (pe_slice sl_list (pv 0) po_none (po_some pe_int))) (pg_name (i := 2) sc_law_pool.nd rfl (.inl rfl))
        (pss_one (ps_set (i := 1) sc_law_pool.nd rfl (.inl rfl) (pe_op op_mod (pe_callTy call_int1 (by rfl) T.int (by decide +kernel) (pa_cons (pe_op op_add (pe_op op_mul (pv 1) pe_int) (pv 2)) pa_nil)) pe_int))))
      (pss_one (ps_ret (pe_lst (pa_cons (pe_callTy call_list_of (by rfl) T.list (by decide +kernel) (pa_cons (pv 0) pa_nil)) (pa_cons pe_int (pa_cons pe_int (pa_cons pe_int (pa_cons (pv 1) pa_nil)))))))))), ?_⟩
    refine ⟨_, rfl, _, rfl, sa, _, rfl, hs, fun c nc => ⟨c, rfl, ⟨_, SqL.of upd_same⟩, for_list (K := K) (a := c) (xs := cutV (ns.map V.int) none (some 63)) (fun _ σ H' => H' = upd H c (.lst (cutV (ns.map V.int) none (some 63))) ∧ ∃ (x : Int) (z : Option V), σ = [some (.ref sa), some (.int x), z]) ⟨rfl, _, _, rfl⟩ ?_ ?_ ?_⟩⟩
    · rintro i σ H' _ ⟨rfl, _⟩
      exact SqL.of upd_same
    · rintro i x σ H' hi ⟨rfl, y, z, rfl⟩
      obtain ⟨m, rfl⟩ := int_of (cutV_mem hi)
      exact ⟨_, rfl, _, _, rfl, rfl, .inr ⟨by decide, by decide⟩, _, rfl, _, _, rfl, rfl, .inl ⟨_, rfl, _, _, rfl, rfl, (by show (0 : Int) < 1000003; decide), rfl, _, _, rfl⟩⟩
    · rintro σ H' ⟨rfl, y, z, rfl⟩
      have e1 : Ex H (upd H c (.lst (cutV (ns.map V.int) none (some 63)))) := Ex.new nc
      refine ⟨_, rfl, _, _, rfl, .inl (ex_l e1 hs), fun l nl => ⟨_, rfl, (by show 5 ≤ sizeLine; decide), fun p np => ?_⟩⟩
      have e2 := e1.trans (Ex.new (o := .lst (ns.map V.int)) nl)
      have npl : l ≠ p := ne_of_none upd_same np
      exact q p l _ ⟨ns, 0, 0, 0, y, upd_same, by rw [hid_ne npl, upd_ne npl]; exact upd_same, hn⟩ (e2.trans (Ex.new np)) (fresh_back e2 np)
end
end G
namespace G
open PySem PySem.Spec PyProof.Rows L2 Evl
/-! ## data -/
inductive D where
  | non | bl (b : Bool) | int (i : Int) | str (s : Str) | tup (l : List D) | lst (l : List D)
def okD : Nat → D → Prop
  | 0, .tup _ => False
  | 0, .lst _ => False
  | n + 1, .tup l => l.length < 2 ^ 61 ∧ ∀ d ∈ l, okD n d
  | n + 1, .lst l => l.length < 2 ^ 61 ∧ ∀ d ∈ l, okD n d
  | _, _ => True
inductive Rep (H : Hp) : V → D → Prop where
  | non : Rep H .non .non
  | bl (b : Bool) : Rep H (.bl b) (.bl b)
  | int (i : Int) : Rep H (.int i) (.int i)
  | str (s : Str) : Rep H (.str s) (.str s)
  | tup {a : Addr} {xs : List V} {ds : List D} (h : H a = some (.tup xs)) (hl : xs.length = ds.length) (hr : ∀ (i : Nat) (x : V) (d : D), xs[i]? = some x → ds[i]? = some d → Rep H x d) : Rep H (.ref a) (.tup ds)
  | lst {a : Addr} {xs : List V} {ds : List D} (h : H a = some (.lst xs)) (hl : xs.length = ds.length) (hr : ∀ (i : Nat) (x : V) (d : D), xs[i]? = some x → ds[i]? = some d → Rep H x d) : Rep H (.ref a) (.lst ds)
theorem Rep.ex {H H' : Hp} (e : Ex H H') {x : V} {d : D} (r : Rep H x d) : Rep H' x d := by
  induction r with
  | non => exact .non
  | bl b => exact .bl b
  | int i => exact .int i
  | str s => exact .str s
  | tup h hl _ ih => exact .tup (e _ _ h) hl ih
  | lst h hl _ ih => exact .lst (e _ _ h) hl ih
theorem okD.mono : ∀ {n m : Nat} {d : D}, n ≤ m → okD n d → okD m d
  | 0, 0, d, _, h => h
  | 0, m + 1, .non, _, _ => trivial
  | 0, m + 1, .bl _, _, _ => trivial
  | 0, m + 1, .int _, _, _ => trivial
  | 0, m + 1, .str _, _, _ => trivial
  | 0, m + 1, .tup _, _, h => h.elim
  | 0, m + 1, .lst _, _, h => h.elim
  | n + 1, m + 1, .non, _, _ => trivial
  | n + 1, m + 1, .bl _, _, _ => trivial
  | n + 1, m + 1, .int _, _, _ => trivial
  | n + 1, m + 1, .str _, _, _ => trivial
  | n + 1, m + 1, .tup l, le, h => ⟨h.1, fun d hd => okD.mono (Nat.le_of_succ_le_succ le) (h.2 d hd)⟩
  | n + 1, m + 1, .lst l, le, h => ⟨h.1, fun d hd => okD.mono (Nat.le_of_succ_le_succ le) (h.2 d hd)⟩
structure TxtS (mg : Str → Option Value) : Prop where
  isinstance : mg "isinstance" = none
  tuple : mg "tuple" = none
  list : mg "list" = none
  len : mg "len" = none
  range : mg "range" = none
  bool : mg "bool" = none
  int : mg "int" = none
  str : mg "str" = none
section
variable {P : Program} {w : World} {K : PySem.W.Frag} {mg : Str → Option Value} {base : Heap}
/-- equal data: the answer is True -/
def spSame : Nat → Sp
  | 0 => fun _ _ _ _ => False
  | n + 1 => fun vs H Q _ => ∃ (x y : V) (d : D), vs = [x, y] ∧ Rep H x d ∧ Rep H y d ∧ okD n d ∧ Q (.bl true) H
theorem sc_law_same : FnScope ["actual", "due", "k"] ["actual", "due"] (defScope s_law_same) := ⟨rfl, rfl, rfl, by decide +kernel, rfl, by decide +kernel, by decide +kernel⟩
theorem fn_law_same {f : Addr} {fd : FuncData} (F : Fun K "_law_same" "_law_same" s_law_same f fd) (g_law_same : mg "_law_same" = some (.ref f)) (b_law_same : Binds K fd ["actual", "due"] []) (T : TxtS mg) : ∀ n, FnOk P w K mg base CX0 n f fd ["actual", "due"] (spSame n)
  | 0 => ⟨fun _ _ _ _ h => h.elim, fun _ _ _ _ _ _ _ _ _ _ _ _ _ h => h.elim⟩
  | n + 1 => by
    have G_law_same := fn_law_same F g_law_same b_law_same T n
    have k_law_same := F.kp
    refine F.ok sc_law_same (fun vs H Q E h => ?_) (fun cdv A outer s H vs Q E hr h => ?_)
    · obtain ⟨x, y, d, rfl, _⟩ := h
      rfl
    · obtain ⟨x, y, d, rfl, rx, ry, hd, q⟩ := h
      refine ⟨_, (pss_cons (ps_if (PW.pt (pw_or (pt_val (pe_callB call_isi (by rfl) T.isinstance (by decide +kernel) (pa_cons (pv 1) (pa_cons (pe_bltn (v := .ty "tuple") (by rfl) T.tuple (by decide +kernel) rfl) pa_nil)))) (pw_or1 (pt_val (pe_callB call_isi (by rfl) T.isinstance (by decide +kernel) (pa_cons (pv 1) (pa_cons (pe_bltn (v := .ty "list") (by rfl) T.list (by decide +kernel) rfl) pa_nil)))))))
      (pss_cons (ps_if (PW.pt (pw_or (pt_cmpR op_ne (pe_callB call_isi (by rfl) T.isinstance (by decide +kernel) (pa_cons (pv 1) (pa_cons (pe_bltn (v := .ty "tuple") (by rfl) T.tuple (by decide +kernel) rfl) pa_nil))) (pe_callB call_isi (by rfl) T.isinstance (by decide +kernel) (pa_cons (pv 0) (pa_cons (pe_bltn (v := .ty "tuple") (by rfl) T.tuple (by decide +kernel) rfl) pa_nil))) (nomark _)) (pw_or1 (pt_cmpR op_ne (pe_callB call_isi (by rfl) T.isinstance (by decide +kernel) (pa_cons (pv 1) (pa_cons (pe_bltn (v := .ty "list") (by rfl) T.list (by decide +kernel) rfl) pa_nil))) (pe_callB call_isi (by rfl) T.isinstance (by decide +kernel) (pa_cons (pv 0) (pa_cons (pe_bltn (v := .ty "list") (by rfl) T.list (by decide +kernel) rfl) pa_nil))) (nomark _)))))
        (pss_one (ps_ret pe_bl))
        pss_nil)
      (pss_cons (ps_if (pt_cmpR op_ne (pe_callB call_len_seq (by rfl) T.len (by decide +kernel) (pa_cons (pv 0) pa_nil)) (pe_callB call_len_seq (by rfl) T.len (by decide +kernel) (pa_cons (pv 1) pa_nil)) (nomark _))
        (pss_one (ps_ret pe_bl))
        pss_nil)
      (pss_cons (ps_for PassesOwn.never rfl (pi_range1 rfl T.range (pa_cons (pe_callB call_len_seq (by rfl) T.len (by decide +kernel) (pa_cons (pv 1) pa_nil)) pa_nil)) (pg_name (i := 2) sc_law_same.nd rfl (.inl rfl))
        (pss_one (ps_if (pt_not (pt_val (pe_call G_law_same hr (by rfl) g_law_same k_law_same b_law_same .nil pass0 (pa_cons (pe_ix ix_seq (pv 0) (pv 2) (fun _ _ => rfl)) (pa_cons (pe_ix ix_seq (pv 1) (pv 2) (fun _ _ => rfl)) pa_nil)))))
          (pss_one (ps_ret pe_bl))
          pss_nil)))
      (pss_one (ps_ret pe_bl)))))
      pss_nil)
    (pss_cons (ps_if (pt_cmpR op_isN (pv 1) pe_non (nomark _))
      (pss_one (ps_ret (pe_cmpR op_isN (pv 0) pe_non (nomark _))))
      pss_nil)
    (pss_cons (ps_if (pt_val (pe_callB call_isi (by rfl) T.isinstance (by decide +kernel) (pa_cons (pv 1) (pa_cons (pe_bltn (v := .ty "bool") (by rfl) T.bool (by decide +kernel) rfl) pa_nil))))
      (pss_one (ps_ret (pe_and (pe_callB call_isi (by rfl) T.isinstance (by decide +kernel) (pa_cons (pv 0) (pa_cons (pe_bltn (v := .ty "bool") (by rfl) T.bool (by decide +kernel) rfl) pa_nil))) (pe_one (pe_cmpR op_eq (pv 0) (pv 1) (nomark _))))))
      pss_nil)
    (pss_cons (ps_if (pt_val (pe_callB call_isi (by rfl) T.isinstance (by decide +kernel) (pa_cons (pv 1) (pa_cons (pe_bltn (v := .ty "int") (by rfl) T.int (by decide +kernel) rfl) pa_nil))))
      (pss_one (ps_ret (pe_and (pe_callB call_isi (by rfl) T.isinstance (by decide +kernel) (pa_cons (pv 0) (pa_cons (pe_bltn (v := .ty "int") (by rfl) T.int (by decide +kernel) rfl) pa_nil))) (pe_and (pe_not (pe_callB call_isi (by rfl) T.isinstance (by decide +kernel) (pa_cons (pv 0) (pa_cons (pe_bltn (v := .ty "bool") (by rfl) T.bool (by decide +kernel) rfl) pa_nil)))) (pe_one (pe_cmpR op_eq (pv 0) (pv 1) (nomark _)))))))
      pss_nil)
    (pss_one (ps_ret (pe_and (pe_callB call_isi (by rfl) T.isinstance (by decide +kernel) (pa_cons (pv 0) (pa_cons (pe_bltn (v := .ty "str") (by rfl) T.str (by decide +kernel) rfl) pa_nil))) (pe_one (pe_cmpR op_eq (pv 0) (pv 1) (nomark _)))))))))), ?_⟩
      cases rx with
      | non =>
        cases ry
        refine ⟨_, rfl, _, _, _, _, _, rfl, .ty "tuple", .base .non, kit_ty (a := "NoneType") (r := false) (by decide +kernel), _, rfl, iteF ⟨_, rfl, _, _, _, _, _, rfl, .ty "list", .base .non, kit_ty (a := "NoneType") (r := false) (by decide +kernel), _, rfl, iteF ⟨_, rfl, rfl, _, rfl, iteT ⟨_, rfl, rfl, ?_⟩⟩⟩⟩
        exact q
      | bl b =>
        cases ry
        refine ⟨_, rfl, _, _, _, _, _, rfl, .ty "tuple", .base (.bl _), kit_ty (a := "bool") (r := false) (by decide +kernel), _, rfl, iteF ⟨_, rfl, _, _, _, _, _, rfl, .ty "list", .base (.bl _), kit_ty (a := "bool") (r := false) (by decide +kernel), _, rfl, iteF ⟨_, rfl, rfl, _, rfl, iteF ⟨_, rfl, _, _, _, _, _, rfl, .ty "bool", .base (.bl _), kit_ty (a := "bool") (r := true) (by decide +kernel), _, rfl, iteT ⟨_, rfl, _, _, _, _, _, rfl, .ty "bool", .base (.bl _), kit_ty (a := "bool") (r := true) (by decide +kernel), _, rfl, iteT ⟨_, rfl, _, rfl, rfl, ?_⟩⟩⟩⟩⟩⟩
        rw [decide_eq_true rfl]
        exact q
      | int b =>
        cases ry
        refine ⟨_, rfl, _, _, _, _, _, rfl, .ty "tuple", .base (.int _), kit_ty (a := "int") (r := false) (by decide +kernel), _, rfl, iteF ⟨_, rfl, _, _, _, _, _, rfl, .ty "list", .base (.int _), kit_ty (a := "int") (r := false) (by decide +kernel), _, rfl, iteF ⟨_, rfl, rfl, _, rfl, iteF ⟨_, rfl, _, _, _, _, _, rfl, .ty "bool", .base (.int _), kit_ty (a := "int") (r := false) (by decide +kernel), _, rfl, iteF ⟨_, rfl, _, _, _, _, _, rfl, .ty "int", .base (.int _), kit_ty (a := "int") (r := true) (by decide +kernel), _, rfl, iteT ⟨_, rfl, _, _, _, _, _, rfl, .ty "int", .base (.int _), kit_ty (a := "int") (r := true) (by decide +kernel), _, rfl, iteT ⟨_, rfl, _, _, _, _, _, rfl, .ty "bool", .base (.int _), kit_ty (a := "int") (r := false) (by decide +kernel), _, rfl, _, rfl, iteT ⟨_, rfl, _, rfl, rfl, ?_⟩⟩⟩⟩⟩⟩⟩⟩
        rw [decide_eq_true rfl]
        exact q
      | str b =>
        cases ry
        refine ⟨_, rfl, _, _, _, _, _, rfl, .ty "tuple", .base (.str _), kit_ty (a := "str") (r := false) (by decide +kernel), _, rfl, iteF ⟨_, rfl, _, _, _, _, _, rfl, .ty "list", .base (.str _), kit_ty (a := "str") (r := false) (by decide +kernel), _, rfl, iteF ⟨_, rfl, rfl, _, rfl, iteF ⟨_, rfl, _, _, _, _, _, rfl, .ty "bool", .base (.str _), kit_ty (a := "str") (r := false) (by decide +kernel), _, rfl, iteF ⟨_, rfl, _, _, _, _, _, rfl, .ty "int", .base (.str _), kit_ty (a := "str") (r := false) (by decide +kernel), _, rfl, iteF ⟨_, rfl, _, _, _, _, _, rfl, .ty "str", .base (.str _), kit_ty (a := "str") (r := true) (by decide +kernel), _, rfl, iteT ⟨_, rfl, _, rfl, rfl, ?_⟩⟩⟩⟩⟩⟩⟩
        rw [decide_eq_true rfl]
        exact q
      | @tup a xs ds hx lx rx =>
        cases ry with
        | @tup b ys _ hy ly ry =>
          cases n with
          | zero => exact hd.elim
          | succ m =>
            obtain ⟨hlen, hall⟩ := hd
            refine ⟨_, rfl, _, _, _, _, _, rfl, .ty "tuple", .base (.tup hy), kit_ty (a := "tuple") (r := true) (by decide +kernel), _, rfl, iteT (iteT ⟨_, rfl, _, _, _, _, _, rfl, .ty "tuple", .base (.tup hy), kit_ty (a := "tuple") (r := true) (by decide +kernel), _, rfl, _, _, _, _, _, rfl, .ty "tuple", .base (.tup hx), kit_ty (a := "tuple") (r := true) (by decide +kernel), rfl, _, rfl, iteF ⟨_, rfl, _, _, _, _, _, rfl, .ty "list", .base (.tup hy), kit_ty (a := "tuple") (r := false) (by decide +kernel), _, rfl, _, _, _, _, _, rfl, .ty "list", .base (.tup hx), kit_ty (a := "tuple") (r := false) (by decide +kernel), rfl, _, rfl, iteF ⟨_, rfl, _, _, rfl, .inr (SqT.of hx), _, rfl, _, _, rfl, .inr (SqT.of hy), rfl, _, rfl, ?_⟩⟩⟩)⟩
            have el : decide (V.int (xs.length : Int) = V.int (ys.length : Int)) = true := decide_eq_true (by rw [lx, ly])
            rw [el]
            refine ⟨_, rfl, _, _, rfl, .inr (SqT.of hy), _, rfl, by omega, by omega, for_range (n := (ys.length : Int).toNat) (fun _ σ H' => H' = H ∧ ∃ z : Option V, σ = [some (.ref a), some (.ref b), z]) ⟨rfl, _, rfl⟩ ?_ ?_⟩
            · rintro i σ H' hi ⟨rfl, z, rfl⟩
              have hi' : i < ds.length := by omega
              have e0 : (0 : Int) + (i : Int) = (i : Int) := Int.zero_add _
              have g1 : xs[i]? = some xs[i] := List.getElem?_eq_getElem (by omega)
              have g2 : ys[i]? = some ys[i] := List.getElem?_eq_getElem (by omega)
              have g3 : ds[i]? = some ds[i] := List.getElem?_eq_getElem hi'
              rw [e0]
              refine ⟨_, rfl, _, rfl, .inr (.inl ⟨_, _, _, _, rfl, rfl, SqT.of hx, atI_nat g1, _, rfl, _, rfl, .inr (.inl ⟨_, _, _, _, rfl, rfl, SqT.of hy, atI_nat g2, ?_⟩)⟩)⟩
              exact ⟨_, _, ds[i], rfl, rx i _ _ g1 g3, ry i _ _ g2 g3, hall _ (List.getElem_mem hi'), _, rfl, rfl, _, rfl⟩
            · rintro σ H' ⟨rfl, z, rfl⟩
              exact q
      | @lst a xs ds hx lx rx =>
        cases ry with
        | @lst b ys _ hy ly ry =>
          cases n with
          | zero => exact hd.elim
          | succ m =>
            obtain ⟨hlen, hall⟩ := hd
            refine ⟨_, rfl, _, _, _, _, _, rfl, .ty "tuple", .base (.lst hy), kit_ty (a := "list") (r := false) (by decide +kernel), _, rfl, iteF ⟨_, rfl, _, _, _, _, _, rfl, .ty "list", .base (.lst hy), kit_ty (a := "list") (r := true) (by decide +kernel), _, rfl, iteT ⟨_, rfl, _, _, _, _, _, rfl, .ty "tuple", .base (.lst hy), kit_ty (a := "list") (r := false) (by decide +kernel), _, rfl, _, _, _, _, _, rfl, .ty "tuple", .base (.lst hx), kit_ty (a := "list") (r := false) (by decide +kernel), rfl, _, rfl, iteF ⟨_, rfl, _, _, _, _, _, rfl, .ty "list", .base (.lst hy), kit_ty (a := "list") (r := true) (by decide +kernel), _, rfl, _, _, _, _, _, rfl, .ty "list", .base (.lst hx), kit_ty (a := "list") (r := true) (by decide +kernel), rfl, _, rfl, iteF ⟨_, rfl, _, _, rfl, .inl (SqL.of hx), _, rfl, _, _, rfl, .inl (SqL.of hy), rfl, _, rfl, ?_⟩⟩⟩⟩⟩
            have el : decide (V.int (xs.length : Int) = V.int (ys.length : Int)) = true := decide_eq_true (by rw [lx, ly])
            rw [el]
            refine ⟨_, rfl, _, _, rfl, .inl (SqL.of hy), _, rfl, by omega, by omega, for_range (n := (ys.length : Int).toNat) (fun _ σ H' => H' = H ∧ ∃ z : Option V, σ = [some (.ref a), some (.ref b), z]) ⟨rfl, _, rfl⟩ ?_ ?_⟩
            · rintro i σ H' hi ⟨rfl, z, rfl⟩
              have hi' : i < ds.length := by omega
              have e0 : (0 : Int) + (i : Int) = (i : Int) := Int.zero_add _
              have g1 : xs[i]? = some xs[i] := List.getElem?_eq_getElem (by omega)
              have g2 : ys[i]? = some ys[i] := List.getElem?_eq_getElem (by omega)
              have g3 : ds[i]? = some ds[i] := List.getElem?_eq_getElem hi'
              rw [e0]
              refine ⟨_, rfl, _, rfl, .inl ⟨_, _, _, _, rfl, rfl, SqL.of hx, atI_nat g1, _, rfl, _, rfl, .inl ⟨_, _, _, _, rfl, rfl, SqL.of hy, atI_nat g2, ?_⟩⟩⟩
              exact ⟨_, _, ds[i], rfl, rx i _ _ g1 g3, ry i _ _ g2 g3, hall _ (List.getElem_mem hi'), _, rfl, rfl, _, rfl⟩
            · rintro σ H' ⟨rfl, z, rfl⟩
              exact q
theorem ok_law_same (D : Dfd K mg "_law_same" s_law_same ["actual", "due"]) (T : TxtS mg) (n : Nat) : Has P w K mg base n "_law_same" ["actual", "due"] (spSame n) := by
  obtain ⟨f, fd, F, g, b⟩ := D
  exact ⟨f, fd, fn_law_same F g b T n, g, F.kp, b⟩
end
/-! ## data made of flat lists -/
theorem rep_map {H : Hp} {α : Type} {f : α → V} {g : α → D} {l : List α} (h : ∀ x, Rep H (f x) (g x)) : (l.map f).length = (l.map g).length ∧ ∀ (i : Nat) (x : V) (d : D), (l.map f)[i]? = some x → (l.map g)[i]? = some d → Rep H x d := by
  refine ⟨by rw [List.length_map, List.length_map], fun i x d hx hd => ?_⟩
  rw [List.getElem?_map] at hx hd
  cases e : l[i]? with
  | none => rw [e] at hx; cases hx
  | some y =>
    rw [e] at hx hd
    have e1 : f y = x := Option.some.inj hx
    have e2 : g y = d := Option.some.inj hd
    rw [← e1, ← e2]
    exact h y
theorem rep_ints {H : Hp} {a : Addr} {l : List Int} (h : H a = some (.lst (l.map V.int))) : Rep H (.ref a) (.lst (l.map D.int)) :=
  let r := rep_map (H := H) (f := V.int) (g := D.int) (l := l) fun i => .int i
  .lst h r.1 r.2
theorem rep_bls {H : Hp} {a : Addr} {l : List Bool} (h : H a = some (.tup (l.map V.bl))) : Rep H (.ref a) (.tup (l.map D.bl)) :=
  let r := rep_map (H := H) (f := V.bl) (g := D.bl) (l := l) fun i => .bl i
  .tup h r.1 r.2
theorem okD_ints {l : List Int} (h : l.length < 2 ^ 61) : okD 1 (.lst (l.map D.int)) := ⟨by rw [List.length_map]; exact h, fun d hd => by obtain ⟨_, _, rfl⟩ := List.mem_map.mp hd; trivial⟩
end G
namespace G
open PySem PySem.Spec PyProof.Rows L2 Evl
/-! ## own classes of errors -/
def HasX (P : Program) (w : World) (K : PySem.W.Frag) (mg : Str → Option Value) (base : Heap) (k : Nat) (x : Str) (ps : List Str) (sp : Sp) : Prop :=
  ∃ (f : Addr) (fd : FuncData), FnOk P w K mg base (L2.CX P w) k f fd ps sp ∧ mg x = some (.ref f) ∧ PySem.W.keepIn K (.ref f) = true ∧ Binds K fd ps []
theorem passX0 {X : Cx} {P : Program} {w : World} : Passes (L2.CX P w) X (fun _ _ _ => False) := fun _ _ _ _ _ _ _ h => by
  obtain ⟨_, _, _, _, _, _, _, _, _, _, _, _, h⟩ := h
  exact h.elim
/-- an own class over ValueError without __init__, at C -/
structure ExcT (K : PySem.W.Frag) (mg : Str → Option Value) (x : Str) (C : Addr) : Prop where
  gC : mg x = some (.ref C)
  xP : PySem.W.excIn K C [.type "ValueError", .type "Exception", .type "BaseException", .type "object"] "ValueError.__new__" = true
  kC : PySem.W.keepIn K (.ref C) = true
  bC : PySem.W.subIn K (.ref C) (.type "BaseException") = some true
  tC : PySem.W.typeIn K (.ref C) = some (.type "type")
/-- what an except clause asks of the class that it names -/
structure ExcH (K : PySem.W.Frag) (mg : Str → Option Value) (x : Str) (C : Addr) : Prop where
  u : ExcT K mg x C
  dict : PySem.W.hasDictIn K C = true
  self : PySem.W.subIn K (.ref C) (.ref C) = some true
theorem ExcH.hit {K : PySem.W.Frag} {mg : Str → Option Value} {x : Str} {C : Addr} (U : ExcH K mg x C) : PySem.W.exmOne K (.ref C) (.ref C) = some true := PySem.W.exm_ref U.u.bC U.dict U.u.tC U.self
end G
namespace G
open PySem PySem.Spec PyProof.Rows L2 Evl
/-! ## own errors: caught by name or by a class above, asked for their class -/
structure ExcI (K : PySem.W.Frag) (mg : Str → Option Value) (x : Str) (C : Addr) : Prop where
  u : ExcT K mg x C
  dict : PySem.W.hasDictIn K C = true
  self : PySem.W.subIn K (.ref C) (.ref C) = some true
  isc : ExcC K C
def IsK (K : PySem.W.Frag) (mg : Str → Option Value) (C : Addr) (d : Str) (b : Bool) : Prop := ∃ D : Addr, mg d = some (.ref D) ∧ PySem.W.kitOne K (.ref C) (.ref D) = some b
def CatchK (K : PySem.W.Frag) (mg : Str → Option Value) (C : Addr) (s : Str) : Prop := ∃ D : Addr, mg s = some (.ref D) ∧ PySem.W.exmOne K (.ref C) (.ref D) = some true
theorem ExcI.hit {K : PySem.W.Frag} {mg : Str → Option Value} {x : Str} {C : Addr} (U : ExcI K mg x C) : PySem.W.exmOne K (.ref C) (.ref C) = some true := PySem.W.exm_ref U.u.bC U.dict U.u.tC U.self
theorem IsK.at_ {K : PySem.W.Frag} {mg : Str → Option Value} {C D : Addr} {d : Str} {b : Bool} (h : IsK K mg C d b) (g : mg d = some (.ref D)) : PySem.W.kitOne K (.ref C) (.ref D) = some b := by
  obtain ⟨D', g', k⟩ := h
  rw [g] at g'
  cases g'; exact k
theorem CatchK.at_ {K : PySem.W.Frag} {mg : Str → Option Value} {C D : Addr} {s : Str} (h : CatchK K mg C s) (g : mg s = some (.ref D)) : PySem.W.exmOne K (.ref C) (.ref D) = some true := by
  obtain ⟨D', g', k⟩ := h
  rw [g] at g'
  cases g'; exact k
theorem pe_ex {X : Cx} {e : Expr} {α : Type} {p : α → Prop} {t : α → TE} (h : ∀ x, p x → PE X e (t x)) : PE X e (fun σ H Q => ∃ x, p x ∧ t x σ H Q) := by
  refine ⟨fun ps s σ H Q I z => ?_⟩
  obtain ⟨x, px, hx⟩ := z
  exact (h x px).run ps s σ H Q I hx
/-! ## methods and classes called where what is raised is taken at the slots -/
section
variable {X : Cx} {CX : CXT} {k : Nat} {f C : Addr} {fd : FuncData} {ps : List Str} {sp : Sp} {dvs : List V} {ds : List Value} {E : L2.St → XK} {x m : Str} {p pos apos : Pos} {e o : Expr} {es : List Expr} {to_ : TE} {t : TA}
def tMethX (C : Addr) (m : Str) (sp : Sp) (dvs : List V) (E : L2.St → XK) (to_ : TE) (t : TA) : TE := fun σ H Q => to_ σ H fun x H1 => ∃ a dx fs, x = .ref a ∧ H1 a = some (.ins C dx fs) ∧ fs.lookup m = none ∧ t σ H1 fun vs H2 => sp (x :: (vs ++ dvs)) H2 Q (E σ)
def tMakeX (C : Addr) (sp : Sp) (dvs : List V) (E : L2.St → XK) (t : TA) : TE := fun σ H Q => t σ H fun vs H1 => ∀ x dx, H1 x = none → H1 dx = none → dx ≠ x → sp (.ref x :: (vs ++ dvs)) (upd (upd H1 dx (.own x)) x (.ins C dx [])) (fun v H2 => v = .non ∧ Q (.ref x) H2) (E σ)
theorem pe_methX {pl : Sem Bool} (ho : PE X o to_) (cc : Cls X.K C) (mm : Meth X.K C m f) (Fk : FnOk X.prog X.w X.K X.mg X.base CX k f fd ps sp) (rm : Room k X.A) (bd : Binds X.K fd ps ds) (dv : Vals dvs ds)
    (px : ∀ σ, PassesAt CX X σ (E σ)) (pa : PA X (e :: es) t) (s1 : starEach (e :: es) X.env = (false, eval e X.env) :: starEach es X.env := by rfl) (s2 : (backTo pos (starEach es X.env)).any (·.1) = false := by rfl)
    (s3 : eval (.Call (.Attribute o m apos) (e :: es) [] pos) X.env = (do let ov ← eval o X.env; standAt apos.atName; let (f, first) ← holding [ov] (getMethod ov m pl); callWith pos f first (backTo pos (starEach (e :: es) X.env)) (backToKw pos (keywordEach [] X.env))) := by rfl) :
    PE X (.Call (.Attribute o m apos) (e :: es) [] pos) (tMethX C m sp dvs E to_ t) := by
  refine ⟨fun pins st σ H Q I z => PySem.W.methodCall_KW (pl := pl) (thn (ho.run pins st σ H _ I z) fun q0 st1 ⟨y, H1, I1, ry, b, dx, fl, ey, eb, lk, z1⟩ => ?_) s3⟩
  subst ey
  cases (show q0 = Value.ref b from ry)
  exact getmeth_ok I1 eb cc mm lk (PySem.W.callWith_K (first := [.ref b]) (h₀ := X.base) I.ok.mod.kin mm.kp (thn (pa.run pos pins st1 σ H1 _ I1 z1) fun ws st2 ⟨vs, H2, I2, rs, z2⟩ => ⟨I2.kIn, run_fnSD (us := .ref b :: ws) (vs := .ref b :: vs) Fk rm bd dv (px σ) I2 (.cons rfl rs) z2⟩) s1 s2)
theorem run_makeX {pins : List (Addr × Obj)} {σ : L2.St} {H : Hp} {st : Shared} {Q : VK} {us : List Value} {vs : List V} (M : Mk X.K C f) (Fk : FnOk X.prog X.w X.K X.mg X.base CX k f fd ps sp) (rm : Room (k + 1) X.A) (bd : Binds X.K fd ps ds) (dv : Vals dvs ds)
    (px : PassesAt CX X σ (E σ)) (I : Inv X pins σ H st) (rs : Vals vs us)
    (z : ∀ x dx, H x = none → H dx = none → dx ≠ x → sp (.ref x :: (vs ++ dvs)) (upd (upd H dx (.own x)) x (.ins C dx [])) (fun v H2 => v = .non ∧ Q (.ref x) H2) (E σ)) :
    wpAny (model X.prog X.w) X.A (call (.ref C) us) (EP X pins σ Q) X.xe st := by
  have z1 := z (st.heap.objs.size + 1) st.heap.objs.size (I.hok.fresh (Nat.le_succ _)) (I.hok.fresh (Nat.le_refl _)) (Nat.ne_of_lt (Nat.lt_succ_self _))
  have J := Inv.made (C := C) I
  have rr : Vals (V.ref (st.heap.objs.size + 1) :: (vs ++ dvs)) (Value.ref (st.heap.objs.size + 1) :: (us ++ ds)) := .cons rfl (rs.append dv)
  have len : (Value.ref (st.heap.objs.size + 1) :: us ++ ds).length = ps.length := (rr.length.symm.trans (Fk.len _ _ _ _ z1))
  refine wpAny_call (make_map (f := f) I.kIn M.makes M.init (beq_iff_eq.mp M.fn) (codeAny_mono (Fk.run _ X.stack _ _ ⟨Value.ref (st.heap.objs.size + 1) :: us, []⟩ (Value.ref (st.heap.objs.size + 1) :: (us ++ ds)) _ _ (E σ) (rm.make C us []) (J.env0.make C us []) (bd _ (Value.ref (st.heap.objs.size + 1) :: us) J.kIn len) rr z1) fun r st' h => ?_))
  match r, h with
  | .error er, h => exact px pins _ _ er st' J h
  | .ok (.ret u), h =>
    obtain ⟨v, H', I3, rv, ev, q3⟩ := J.after h
    subst ev
    exact ⟨rv, ⟨V.ref (st.heap.objs.size + 1), H', I3, rfl, q3⟩⟩
  | .ok .next, h => exact h.elim
  | .ok .brk, h => exact h.elim
  | .ok .cont, h => exact h.elim
theorem pe_makeX (M : Mk X.K C f) (Fk : FnOk X.prog X.w X.K X.mg X.base CX k f fd ps sp) (rm : Room (k + 1) X.A) (gl : Gl X x) (gm : X.mg x = some (.ref C)) (bd : Binds X.K fd ps ds) (dv : Vals dvs ds) (px : ∀ σ, PassesAt CX X σ (E σ)) (pa : PA X (e :: es) t)
    (s0 : (x == ("__debug__" : Str)) = false := by decide) (s1 : starEach (e :: es) X.env = (false, eval e X.env) :: starEach es X.env := by rfl) (s2 : (backTo pos (starEach es X.env)).any (·.1) = false := by rfl) : PE X (.Call (.Name x p) (e :: es) [] pos) (tMakeX C sp dvs E t) :=
  ⟨fun pins st σ H Q I z => wpAny_Call_Name_kw (ld_glob I gl gm (PySem.W.callWith_K (h₀ := X.base) I.ok.mod.kin M.kp (thn (pa.run pos pins st σ H _ I z) fun us st1 ⟨vs, H1, I1, r, q⟩ => ⟨I1.kIn, run_makeX M Fk rm bd dv (px σ) I1 r q⟩) s1 s2) s0)⟩
end
end G
namespace G
open PySem PySem.Spec PyProof.Rows L2 Evl TL
/-! ## ascending lists of times -/
def ascB (ts : List Int) : Bool := ((List.range (ts.length - 1)).map fun i => decide (ts.getD i 0 < ts.getD (i + 1) 0)).all id
theorem ascB_pw {ts : List Int} (h : ts.Pairwise (· < ·)) : ascB ts = true := by
  unfold ascB
  rw [List.all_eq_true]
  intro b hb
  obtain ⟨i, hi, rfl⟩ := List.mem_map.mp hb
  have hi' := List.mem_range.mp hi
  have h1 : i < ts.length := by omega
  have h2 : i + 1 < ts.length := by omega
  have := List.pairwise_iff_getElem.mp h i (i + 1) h1 h2 (by omega)
  rw [List.getD_eq_getElem?_getD, List.getD_eq_getElem?_getD, List.getElem?_eq_getElem h1, List.getElem?_eq_getElem h2]
  exact decide_eq_true this
theorem pw_ascB {ts : List Int} (h : ascB ts = true) : ts.Pairwise (· < ·) := by
  have step : ∀ i (h2 : i + 1 < ts.length), ts[i]'(by omega) < ts[i + 1] := fun i h2 => by
    have := List.all_eq_true.mp h (decide (ts.getD i 0 < ts.getD (i + 1) 0)) (List.mem_map.mpr ⟨i, List.mem_range.mpr (by omega), rfl⟩)
    rw [List.getD_eq_getElem?_getD, List.getD_eq_getElem?_getD, List.getElem?_eq_getElem (show i < ts.length by omega), List.getElem?_eq_getElem h2] at this
    exact of_decide_eq_true this
  rw [List.pairwise_iff_getElem]
  intro i j hi hj hij
  obtain ⟨d, rfl⟩ : ∃ d, j = i + 1 + d := ⟨j - i - 1, by omega⟩
  clear hij
  induction d with
  | zero => exact step i hj
  | succ d ih => exact Int.lt_trans (ih (by omega)) (step (i + 1 + d) hj)
/-- how many are at most t -/
def cnt (ts : List Int) (t : Int) : Nat := (ts.filter fun x => decide (x ≤ t)).length
theorem cnt_split {ts : List Int} {t : Int} {k : Nat} (hk : k ≤ ts.length) (h1 : ∀ i x, i < k → ts[i]? = some x → x ≤ t) (h2 : ∀ i x, k ≤ i → ts[i]? = some x → t < x) : cnt ts t = k := by
  unfold cnt
  conv => lhs; rw [← List.take_append_drop k ts, List.filter_append, List.length_append]
  rw [List.filter_eq_self.mpr fun x hx => ?_, List.filter_eq_nil_iff.mpr fun x hx => ?_, List.length_take]
  · show min k ts.length + 0 = k
    omega
  · obtain ⟨i, hi, rfl⟩ := List.getElem_of_mem hx
    rw [List.getElem_drop]
    rw [List.length_drop] at hi
    have := h2 (k + i) _ (by omega) (List.getElem?_eq_getElem (by omega))
    rw [decide_eq_true_eq]; omega
  · obtain ⟨i, hi, rfl⟩ := List.getElem_of_mem hx
    rw [List.getElem_take]
    rw [List.length_take] at hi
    exact decide_eq_true (h1 i _ (by omega) (List.getElem?_eq_getElem (by omega)))
structure TxtW (mg : Str → Option Value) : Prop where
  len : mg "len" = none
  all : mg "all" = none
  range : mg "range" = none
  list : mg "list" = none
section
variable {P : Program} {w : World} {K : PySem.W.Frag} {mg : Str → Option Value} {base : Heap}
def spAsc : Sp := fun vs H Q _ => ∃ (a : Addr) (ts : List Int), vs = [.ref a] ∧ H a = some (.lst (ts.map V.int)) ∧ ts.length ≤ 1000 ∧ ∀ H', Ex H H' → Q (.bl (ascB ts)) H'
theorem sc_is_ascending : FnScope ["numbers", "k"] ["numbers"] (defScope s_is_ascending) := ⟨rfl, rfl, rfl, by decide +kernel, rfl, by decide +kernel, by decide +kernel⟩
theorem ok_is_ascending (D : Dfd K mg "is_ascending" s_is_ascending ["numbers"]) (T : TxtW mg) : Has P w K mg base 1 "is_ascending" ["numbers"] spAsc := by
  refine D.has fun f fd F => F.ok sc_is_ascending (fun vs H Q E h => ?_) (fun cdv A outer s H vs Q E hr h => ?_)
  · obtain ⟨a, ts, rfl, _⟩ := h
    rfl
  · obtain ⟨a, ts, rfl, ha, hn, q⟩ := h
    refine ⟨_, (pss_one (ps_ret (pe_callB (cr_all rfl) (by rfl) T.all (by decide +kernel) (pa_cons (pe_lc (own := [("k", 1)]) (g := gName 1) (tt := tYes) rfl sc_is_ascending.nd (pi_range2 rfl T.range (pa_cons pe_int (pa_cons (pe_callB call_len_seq (by rfl) T.len (by decide +kernel) (pa_cons (pv 0) pa_nil)) pa_nil))) (blkOk_by (N := ["numbers", "k"]) (sc := defScope s_is_ascending) (own := [("k", 1)]) (by decide +kernel)) (fun _ _ _ _ _ => (pg_name (i := 1) sc_is_ascending.nd rfl (.inl rfl))) (fun _ _ _ _ _ => pts_nil) (fun _ _ _ _ _ => (pe_cmpR op_lt (pe_ix (kIxL (K := K) rfl) (pv 0) (pe_op op_sub (pv 1) pe_int) (fun _ _ => rfl)) (pe_ix (kIxL (K := K) rfl) (pv 0) (pv 1) (fun _ _ => rfl)) (nomark _)))) pa_nil)))), ?_⟩
    refine ⟨_, rfl, _, _, rfl, .inl (SqL.of ha), 1, ts.length, by rw [List.length_map], by omega, fun L nL => lcRv (fun k => .bl (decide (ts.getD k 0 < ts.getD (k + 1) 0))) (by omega) (fun _ => rfl) (fun k H2 hk e2 Q q => ?_) ?_⟩
    · have hk2 : k + 1 < ts.length := by omega
      have ha2 : H2 a = some (.lst (ts.map V.int)) := by rw [e2]; exact Ex.new nL _ _ ha
      have g1 : (ts.map V.int)[k]? = some (.int (ts.getD k 0)) := by rw [List.getElem?_map, List.getElem?_eq_getElem (show k < ts.length by omega), List.getD_eq_getElem?_getD, List.getElem?_eq_getElem (show k < ts.length by omega)]; rfl
      have g2 : (ts.map V.int)[k + 1]? = some (.int (ts.getD (k + 1) 0)) := by rw [List.getElem?_map, List.getElem?_eq_getElem hk2, List.getD_eq_getElem?_getD, List.getElem?_eq_getElem hk2]; rfl
      exact ⟨_, rfl, _, rfl, _, _, rfl, rfl, _, _, _, _, rfl, rfl, SqL.of ha2, at_of (j := k) (by omega) g1, _, rfl, _, rfl, _, _, _, _, rfl, rfl, SqL.of ha2, at_of (j := k + 1) (by omega) g2, _, _, rfl, rfl, q⟩
    · have e : (((ts.length : Nat) : Int) - 1).toNat = ts.length - 1 := by omega
      refine ⟨L, (List.range (ts.length - 1)).map fun i => decide (ts.getD i 0 < ts.getD (i + 1) 0), rfl, SqL.of ?_, ?_⟩
      · rw [upd_same, List.map_map, e]; rfl
      · exact q _ (Ex.new nL)
def spCount : Sp := fun vs H Q _ => ∃ (a : Addr) (ts : List Int) (t : Int), vs = [.ref a, .int t] ∧ H a = some (.lst (ts.map V.int)) ∧ ts.length ≤ 1000 ∧ ts.Pairwise (· < ·) ∧ Q (.int (cnt ts t)) H
theorem sc_count_until : FnScope ["numbers", "limit", "low", "high", "middle"] ["numbers", "limit"] (defScope s_count_until) := ⟨rfl, rfl, rfl, by decide +kernel, rfl, by decide +kernel, by decide +kernel⟩
theorem ok_count_until (D : Dfd K mg "count_until" s_count_until ["numbers", "limit"]) (T : TxtW mg) : Has P w K mg base 1 "count_until" ["numbers", "limit"] spCount := by
  refine D.has fun f fd F => F.ok sc_count_until (fun vs H Q E h => ?_) (fun cdv A outer s H vs Q E hr h => ?_)
  · obtain ⟨a, ts, t, rfl, _⟩ := h
    rfl
  · obtain ⟨a, ts, t, rfl, ha, hn, hp, q⟩ := h
    refine ⟨_, (pss_cons (ps_set (i := 2) sc_count_until.nd rfl (.inl rfl) pe_int)
    (pss_cons (ps_set (i := 3) sc_count_until.nd rfl (.inl rfl) (pe_callB call_len_seq (by rfl) T.len (by decide +kernel) (pa_cons (pv 0) pa_nil)))
    (pss_cons (ps_while PassesOwn.never (pt_cmpR op_lt (pv 2) (pv 3) (nomark _))
      (pss_cons (ps_set (i := 4) sc_count_until.nd rfl (.inl rfl) (pe_op op_fdiv (pe_op op_add (pv 2) (pv 3)) pe_int))
      (pss_one (ps_if (pt_cmpR op_le (pe_ix ix_list (pv 0) (pv 4) (fun _ _ => rfl)) (pv 1) (nomark _))
        (pss_one (ps_set (i := 2) sc_count_until.nd rfl (.inl rfl) (pe_op op_add (pv 4) pe_int)))
        (pss_one (ps_set (i := 3) sc_count_until.nd rfl (.inl rfl) (pv 4)))))))
    (pss_one (ps_ret (pv 2)))))), ?_⟩
    have asc : ∀ i j x y, i ≤ j → ts[i]? = some x → ts[j]? = some y → x ≤ y := fun i j x y hij hx hy => by
      obtain ⟨h1, rfl⟩ := List.getElem?_eq_some_iff.mp hx
      obtain ⟨h2, rfl⟩ := List.getElem?_eq_some_iff.mp hy
      rcases Nat.lt_or_eq_of_le hij with lt | rfl
      · exact Int.le_of_lt (List.pairwise_iff_getElem.mp hp i j h1 h2 lt)
      · exact Int.le_refl _
    refine ⟨_, rfl, _, _, rfl, .inl (SqL.of ha), fun m σ H' => H' = H ∧ ∃ (lo hi : Nat) (z : Option V), σ = [some (.ref a), some (.int t), some (.int (lo : Int)), some (.int (hi : Int)), z] ∧ lo ≤ hi ∧ hi ≤ ts.length ∧ m = hi - lo ∧ (∀ i x, i < lo → ts[i]? = some x → x ≤ t) ∧ (∀ i x, hi ≤ i → ts[i]? = some x → t < x),
      ⟨_, rfl, 0, ts.length, _, by rw [List.length_map]; rfl, Nat.zero_le _, Nat.le_refl _, rfl, (fun i x h => absurd h (Nat.not_lt_zero _)), (fun i x h e => by have := (List.getElem?_eq_some_iff.mp e).1; omega)⟩, ?_⟩
    rintro m σ H' ⟨rfl, lo, hi, z, rfl, h1, h2, rfl, k1, k2⟩
    refine ⟨_, rfl, _, rfl, _, _, rfl, rfl, _, rfl, ite2 (fun c1 => ?_) (fun c1 => ?_)⟩
    · have hlt : lo < hi := by have := of_decide_eq_true c1; omega
      refine ⟨fun σ' H'' => H'' = H' ∧ ∃ (lo' hi' : Nat) (z : Option V), σ' = [some (.ref a), some (.int t), some (.int (lo' : Int)), some (.int (hi' : Int)), z] ∧ lo' ≤ hi' ∧ hi' ≤ ts.length ∧ hi' - lo' < hi - lo ∧ (∀ i x, i < lo' → ts[i]? = some x → x ≤ t) ∧ (∀ i x, hi' ≤ i → ts[i]? = some x → t < x), ?_, ?_⟩
      · rintro σ' H'' ⟨rfl, lo', hi', z', rfl, a1, a2, a3, a4, a5⟩
        exact ⟨hi' - lo', a3, rfl, lo', hi', z', rfl, a1, a2, rfl, a4, a5⟩
      · obtain ⟨mid, hmid⟩ : ∃ mid : Nat, mid = (lo + hi) / 2 := ⟨_, rfl⟩
        have em : ((lo : Int) + (hi : Int)) / 2 = (mid : Int) := by omega
        have hm1 : lo ≤ mid := by omega
        have hm2 : mid < hi := by omega
        have gm : ts[mid]? = some ts[mid] := List.getElem?_eq_getElem (by omega)
        refine ⟨_, rfl, _, rfl, _, _, rfl, rfl, _, _, rfl, rfl, ⟨by decide, by decide⟩, ?_⟩
        simp only [em]
        refine ⟨_, rfl, _, rfl, _, _, _, _, rfl, rfl, SqL.of ha, atI_nat (by rw [List.getElem?_map, gm]; rfl), _, rfl, _, _, rfl, rfl, _, rfl, ite2 (fun c2 => ?_) (fun c2 => ?_)⟩
        · have hle := of_decide_eq_true c2
          exact ⟨_, rfl, _, _, rfl, rfl, rfl, mid + 1, hi, _, rfl, by omega, h2, by omega, (fun i x hi' hx => Int.le_trans (asc i mid x _ (by omega) hx gm) hle), k2⟩
        · have hle : t < ts[mid] := by
            have : ¬ ts[mid] ≤ t := fun z => c2 (decide_eq_true z)
            omega
          exact ⟨_, rfl, rfl, lo, mid, _, rfl, by omega, by omega, by omega, k1, fun i x hi' hx => Int.lt_of_lt_of_le hle (asc mid i _ x hi' gm hx)⟩
    · have he : lo = hi := by
        have : ¬ (lo : Int) < (hi : Int) := fun z => c1 (decide_eq_true z)
        omega
      subst he
      have e := cnt_split h2 k1 k2
      refine ⟨_, rfl, ?_⟩
      rw [← e]; exact q
end
end G
namespace G
open PySem PySem.Spec PyProof.Rows L2
structure Cl_Waveform (K : PySem.W.Frag) (mg : Str → Option Value) (C : Addr) : Prop where
  gC : mg "Waveform" = some (.ref C)
  cl : Cls K C
  m_init : ∃ (f : Addr) (fd : FuncData), Mk K C f ∧ Fun K "__init__" "Waveform.__init__" s_Waveform_init f fd ∧ Binds K fd ["self", "start", "changes"] []
  m_changes : ∃ (f : Addr) (fd : FuncData), Meth K C "changes" f ∧ Fun K "changes" "Waveform.changes" s_Waveform_changes f fd ∧ Binds K fd ["self"] []
  m_value_at : ∃ (f : Addr) (fd : FuncData), Meth K C "value_at" f ∧ Fun K "value_at" "Waveform.value_at" s_Waveform_value_at f fd ∧ Binds K fd ["self", "time"] []
  m_shows : ∃ (f : Addr) (fd : FuncData), Meth K C "shows" f ∧ Fun K "shows" "Waveform.shows" s_Waveform_shows f fd ∧ Binds K fd ["self", "value", "low", "high"] []
  m_is_steady : ∃ (f : Addr) (fd : FuncData), Meth K C "is_steady" f ∧ Fun K "is_steady" "Waveform.is_steady" s_Waveform_is_steady f fd ∧ Binds K fd ["self", "low", "high"] []
  p_start : ∃ (p f : Addr) (fd : FuncData), PropOf K C "start" p f ∧ Fun K "start" "Waveform.start" s_Waveform_start f fd ∧ Binds K fd ["self"] []
  n_start : NoAttr K C "_start"
  n_changes : NoAttr K C "_changes"
end G
namespace G
open PySem PySem.Spec PyProof.Rows L2 Evl TL
/-! ## waveforms -/
theorem tif_by {tt : TE} {σ : L2.St} {H : Hp} {Q : VK} (R : V → Hp → Prop) (h : ∀ Q' : VK, (∀ v H', R v H' → Q' v H') → tt σ H Q') (rest : ∀ v H', R v H' → Q v H') : tt σ H Q := h Q rest
theorem bl_eq (a b : Bool) : decide (V.bl a = V.bl b) = decide (a = b) := by cases a <;> cases b <;> rfl
theorem wne : ¬ (("_start" : Str) = "_changes") := by decide +kernel
def wfl (st : Bool) (L : Addr) : List (Str × V) := putF "_changes" (.ref L) (putF "_start" (.bl st) [])
theorem wfl_start (st : Bool) (L : Addr) : (wfl st L).lookup ("_start" : Str) = some (.bl st) := by unfold wfl; rw [lookup_putF, if_neg wne, lookup_putF, if_pos rfl]
theorem wfl_changes (st : Bool) (L : Addr) : (wfl st L).lookup ("_changes" : Str) = some (.ref L) := by unfold wfl; rw [lookup_putF, if_pos rfl]
theorem wfl_no (st : Bool) (L : Addr) {m : Str} (h1 : ¬ m = "_changes") (h2 : ¬ m = "_start") : (wfl st L).lookup m = none := by
  unfold wfl; rw [lookup_putF, if_neg h1, lookup_putF, if_neg h2]; rfl
structure WaveAt (C : Addr) (H : Hp) (x L : Addr) (st : Bool) (ts : List Int) : Prop where
  ob : ∃ dx, H x = some (.ins C dx (wfl st L))
  li : H L = some (.lst (ts.map V.int))
theorem WaveAt.ex {C : Addr} {H H' : Hp} {x L : Addr} {st : Bool} {ts : List Int} (e : Ex H H') (h : WaveAt C H x L st ts) : WaveAt C H' x L st ts := by
  obtain ⟨dx, h1⟩ := h.ob
  exact ⟨⟨dx, e _ _ h1⟩, e _ _ h.li⟩
/-- what a class's __init__ keeps: all but the new object -/
def ExBut (x : Addr) (H H' : Hp) : Prop := ∀ b o, H b = some o → b ≠ x → H' b = some o
theorem ExBut.of {x : Addr} {H H' : Hp} (e : Ex H H') : ExBut x H H' := fun b o h _ => e b o h
theorem ExBut.trans {x : Addr} {H H1 H2 : Hp} (a : ExBut x H H1) (b : ExBut x H1 H2) : ExBut x H H2 := fun c o h n => b c o (a c o h n) n
theorem ExBut.put {x : Addr} {H : Hp} {o : HO} : ExBut x H (upd H x o) := fun b q h n => by rw [upd_ne n]; exact h
theorem ExBut.made {x dx : Addr} {H H' : Hp} {o1 o2 : HO} (nx : H x = none) (nd : H dx = none) (e : ExBut x (upd (upd H dx o1) x o2) H') : Ex H H' := fun b o h => by
  have h1 : b ≠ x := ne_of_none h nx
  have h2 : b ≠ dx := ne_of_none h nd
  exact e b o (by rw [upd_ne h1, upd_ne h2]; exact h) h1
theorem made_free {x dx L : Addr} {H : Hp} {o1 o2 : HO} (h : upd (upd H dx o1) x o2 L = none) : H L = none := by
  have h1 : L ≠ x := fun z => by rw [z, upd_same] at h; cases h
  rw [upd_ne h1] at h
  have h2 : L ≠ dx := fun z => by rw [z, upd_same] at h; cases h
  rw [upd_ne h2] at h; exact h
theorem made_old {x dx b : Addr} {H : Hp} {o1 o2 o : HO} (nx : H x = none) (nd : H dx = none) (h : H b = some o) : upd (upd H dx o1) x o2 b = some o := by
  rw [upd_ne (ne_of_none h nx), upd_ne (ne_of_none h nd)]; exact h
/-- the value at a time -/
def wval (st : Bool) (ts : List Int) (t : Int) : Bool := !decide (V.bl st = V.bl (decide (V.int (Builtin.bitAnd (cnt ts t : Int) 1) = V.int 1)))
theorem wval_eq (st : Bool) (ts : List Int) (t : Int) : wval st ts t = (st != decide (cnt ts t % 2 = 1)) := by
  have e : Builtin.bitAnd (cnt ts t : Int) 1 = ((cnt ts t % 2 : Nat) : Int) := by
    show (((cnt ts t : Int).toNat &&& (1 : Int).toNat : Nat) : Int) = _
    rw [Int.toNat_natCast]
    show ((cnt ts t &&& 1 : Nat) : Int) = _
    rw [Nat.and_one_is_mod]
  have e2 : decide (V.int ((cnt ts t % 2 : Nat) : Int) = V.int 1) = decide (cnt ts t % 2 = 1) := by
    rw [Bool.eq_iff_iff, decide_eq_true_iff, decide_eq_true_iff, V.int.injEq]; omega
  unfold wval
  rw [e, e2]
  cases st <;> cases decide (cnt ts t % 2 = 1) <;> rfl
theorem cnt_add {t1 t2 : Int} (h : t1 ≤ t2) : ∀ ts : List Int, cnt ts t2 = cnt ts t1 + (ts.filter fun x => decide (t1 < x) && decide (x ≤ t2)).length
  | [] => rfl
  | x :: r => by
    have ih := cnt_add h r
    unfold cnt at *
    simp only [List.filter_cons]
    by_cases h1 : x ≤ t1
    · rw [decide_eq_true (show x ≤ t2 by omega), decide_eq_true h1, decide_eq_false (show ¬ t1 < x by omega)]
      simp only [if_true, Bool.false_and, List.length_cons]
      rw [if_neg (by decide)]; omega
    · by_cases h2 : x ≤ t2
      · rw [decide_eq_true h2, decide_eq_false h1, decide_eq_true (show t1 < x by omega)]
        simp only [if_true, Bool.true_and, List.length_cons]
        rw [if_neg (by decide)]; omega
      · rw [decide_eq_false h2, decide_eq_false h1, Bool.and_false]
        rw [if_neg (by decide), if_neg (by decide), if_neg (by decide)]; exact ih
theorem cnt_same {ts : List Int} {t1 t2 : Int} (h : t1 ≤ t2) (hn : ∀ x ∈ ts, t1 < x → ¬ x ≤ t2) : cnt ts t2 = cnt ts t1 := by
  rw [cnt_add h ts, List.filter_eq_nil_iff.mpr fun x hx => ?_]
  · rfl
  · intro z
    rw [Bool.and_eq_true] at z
    exact hn x hx (of_decide_eq_true z.1) (of_decide_eq_true z.2)
theorem filter_one : ∀ {ts : List Int}, ts.Pairwise (· < ·) → ∀ {x : Int}, x ∈ ts → (ts.filter fun y => decide (x - 1 < y) && decide (y ≤ x)).length = 1
  | [], _, x, h => nomatch h
  | y :: r, hp, x, h => by
    obtain ⟨h1, h2⟩ := List.pairwise_cons.mp hp
    by_cases e : x = y
    · subst e
      rw [List.filter_cons, if_pos (by rw [decide_eq_true (show x - 1 < x by omega), decide_eq_true (Int.le_refl x)]; rfl), List.filter_eq_nil_iff.mpr fun z hz => ?_]
      · rfl
      · have := h1 z hz
        rw [decide_eq_false (show ¬ z ≤ x by omega), Bool.and_false]; decide
    · have hx : x ∈ r := (List.mem_cons.mp h).resolve_left e
      have := h1 x hx
      rw [List.filter_cons, if_neg (by rw [decide_eq_false (show ¬ x - 1 < y by omega), Bool.false_and]; decide)]
      exact filter_one h2 hx
theorem wval_flip {st : Bool} {ts : List Int} (hp : ts.Pairwise (· < ·)) {x : Int} (hx : x ∈ ts) : wval st ts x = !wval st ts (x - 1) := by
  rw [wval_eq, wval_eq, cnt_add (show x - 1 ≤ x by omega) ts, filter_one hp hx]
  have : decide ((cnt ts (x - 1) + 1) % 2 = 1) = !decide (cnt ts (x - 1) % 2 = 1) := by
    rw [Bool.eq_iff_iff, decide_eq_true_iff, Bool.not_eq_true', decide_eq_false_iff_not]; omega
  rw [this]
  cases st <;> cases decide (cnt ts (x - 1) % 2 = 1) <;> rfl
theorem wval_same {st : Bool} {ts : List Int} {t1 t2 : Int} (h : t1 ≤ t2) (hn : ∀ x ∈ ts, t1 < x → ¬ x ≤ t2) : wval st ts t2 = wval st ts t1 := by
  rw [wval_eq, wval_eq, cnt_same h hn]
theorem wval_low {st : Bool} {ts : List Int} {t : Int} (h : ∀ x ∈ ts, ¬ x ≤ t) : wval st ts t = st := by
  have : cnt ts t = 0 := by
    unfold cnt
    rw [List.filter_eq_nil_iff.mpr fun x hx => ?_]
    · rfl
    · rw [decide_eq_false (h x hx)]; decide
  rw [wval_eq, this]
  cases st <;> rfl
section
variable {P : Program} {w : World} {K : PySem.W.Frag} {mg : Str → Option Value} {base : Heap}
def spWInit (C B : Addr) : Sp := fun vs H Q E => ∃ (x dx l : Addr) (st : Bool) (ts : List Int), vs = [.ref x, .bl st, .ref l] ∧ H x = some (.ins C dx []) ∧ H l = some (.lst (ts.map V.int)) ∧ ts.length ≤ 1000 ∧
  (ascB ts = true → ∀ (L : Addr) (H' : Hp), H L = none → ExBut x H H' → WaveAt C H' x L st ts → Q .non H') ∧ (ascB ts = false → ∀ H', ExBut x H H' → E (.ref B) none H')
theorem sc_Waveform_init : FnScope ["self", "start", "changes", "times"] ["self", "start", "changes"] (defScope s_Waveform_init) := ⟨rfl, rfl, rfl, by decide +kernel, rfl, by decide +kernel, by decide +kernel⟩
theorem ok_Waveform_init {C B : Addr} {f : Addr} {fd : FuncData} (F : Fun K "__init__" "Waveform.__init__" s_Waveform_init f fd) (W : Cl_Waveform K mg C) (T : TxtW mg) (U : ExcT K mg "BadArgument" B) (C1 : Has P w K mg base 1 "is_ascending" ["numbers"] spAsc) : FnOk P w K mg base (L2.CX P w) 2 f fd ["self", "start", "changes"] (spWInit C B) := by
  obtain ⟨f_is_ascending, d_is_ascending, G_is_ascending, g_is_ascending, k_is_ascending, b_is_ascending⟩ := C1
  refine F.okX sc_Waveform_init (fun vs H Q E h => ?_) (fun cdv A outer s H vs Q E hr h => ?_)
  · obtain ⟨x, dx, l, st, ts, rfl, _⟩ := h
    rfl
  · obtain ⟨x, dx, l, st, ts, rfl, hx, hl, hn, q1, q2⟩ := h
    refine ⟨_, (pss_cons (ps_set (i := 3) sc_Waveform_init.nd rfl (.inl rfl) (pe_callTy call_list_of (by rfl) T.list (by decide +kernel) (pa_cons (pv 2) pa_nil)))
    (pss_cons (ps_if (pt_not (pt_truth (pe_call G_is_ascending (hr.mono (by omega)) (by rfl) g_is_ascending k_is_ascending b_is_ascending .nil pass0 (pa_cons (pv 3) pa_nil)) (by intro _; rfl)))
      (pss_one (ps_raise rfl (takes_of rfl rfl rfl rfl) (pmk_ownA PySem.F.excBase_ValueError U.xP U.gC U.kC (raises_own U.bC U.tC) rfl (pa_cons pe_str pa_nil))))
      pss_nil)
    (pss_cons (ps_fld (pv 0) (pv 1) rfl)
    (pss_one (ps_fld (pv 0) (pv 3) rfl))))), ?_⟩
    refine ⟨_, rfl, _, _, rfl, .inl (SqL.of hl), fun lf nlf => ?_⟩
    have E1 : Ex H (upd H lf (.lst (ts.map V.int))) := Ex.new nlf
    have h1 : upd H lf (.lst (ts.map V.int)) lf = some (.lst (ts.map V.int)) := upd_same
    generalize upd H lf (.lst (ts.map V.int)) = H1 at *
    refine ⟨_, rfl, lf, ts, rfl, h1, hn, fun H2 E2 => ⟨_, rfl, ?_⟩⟩
    cases hb : ascB ts with
    | false => exact iteT ⟨(by show 1 ≤ sizeLine; decide), q2 hb H2 (.of (E1.trans E2))⟩
    | true =>
      have e := E1.trans E2
      have nxl : lf ≠ x := (ne_of_none hx nlf).symm
      refine iteF ⟨_, rfl, _, rfl, x, C, dx, [], rfl, e _ _ hx, W.cl, W.n_start, (by show 0 < 1000; decide), _, rfl, _, rfl, x, C, dx, _, rfl, upd_same, W.cl, W.n_changes, (by show 1 < 1000; decide), ?_⟩
      exact q1 hb lf _ nlf (((ExBut.of e).trans ExBut.put).trans ExBut.put) ⟨⟨dx, upd_same⟩, by rw [upd_ne nxl, upd_ne nxl]; exact E2 _ _ h1⟩
def spWStart (C : Addr) : Sp := fun vs H Q _ => ∃ (x L : Addr) (st : Bool) (ts : List Int), vs = [.ref x] ∧ WaveAt C H x L st ts ∧ Q (.bl st) H
theorem sc_Waveform_start : FnScope ["self"] ["self"] (defScope s_Waveform_start) := ⟨rfl, rfl, rfl, by decide +kernel, rfl, by decide +kernel, by decide +kernel⟩
theorem ok_Waveform_start {C : Addr} {f : Addr} {fd : FuncData} (F : Fun K "start" "Waveform.start" s_Waveform_start f fd) (W : Cl_Waveform K mg C) : FnOk P w K mg base CX0 1 f fd ["self"] (spWStart C) := by
  refine F.ok sc_Waveform_start (fun vs H Q E h => ?_) (fun cdv A outer s H vs Q E hr h => ?_)
  · obtain ⟨x, L, st, ts, rfl, _⟩ := h
    rfl
  · obtain ⟨x, L, st, ts, rfl, ⟨⟨dx, h1⟩, h2⟩, q⟩ := h
    refine ⟨_, (pss_one (ps_ret (pe_fld (pv 0) rfl))), ?_⟩
    exact ⟨_, rfl, x, C, dx, _, _, rfl, h1, W.cl, W.n_start, wfl_start _ _, q⟩
def spWChanges (C : Addr) : Sp := fun vs H Q _ => ∃ (x L : Addr) (st : Bool) (ts : List Int), vs = [.ref x] ∧ WaveAt C H x L st ts ∧ ∀ l, H l = none → Q (.ref l) (upd H l (.lst (ts.map V.int)))
theorem sc_Waveform_changes : FnScope ["self"] ["self"] (defScope s_Waveform_changes) := ⟨rfl, rfl, rfl, by decide +kernel, rfl, by decide +kernel, by decide +kernel⟩
theorem ok_Waveform_changes {C : Addr} {f : Addr} {fd : FuncData} (F : Fun K "changes" "Waveform.changes" s_Waveform_changes f fd) (W : Cl_Waveform K mg C) (T : TxtW mg) : FnOk P w K mg base CX0 1 f fd ["self"] (spWChanges C) := by
  refine F.ok sc_Waveform_changes (fun vs H Q E h => ?_) (fun cdv A outer s H vs Q E hr h => ?_)
  · obtain ⟨x, L, st, ts, rfl, _⟩ := h
    rfl
  · obtain ⟨x, L, st, ts, rfl, ⟨⟨dx, h1⟩, h2⟩, q⟩ := h
    refine ⟨_, (pss_one (ps_ret (pe_callTy call_list_of (by rfl) T.list (by decide +kernel) (pa_cons (pe_fld (pv 0) rfl) pa_nil)))), ?_⟩
    exact ⟨_, rfl, x, C, dx, _, _, rfl, h1, W.cl, W.n_changes, wfl_changes _ _, _, _, rfl, .inl (SqL.of h2), fun l nl => q l nl⟩
def spWValue (C : Addr) : Sp := fun vs H Q _ => ∃ (x L : Addr) (st : Bool) (ts : List Int) (t : Int), vs = [.ref x, .int t] ∧ WaveAt C H x L st ts ∧ ts.length ≤ 1000 ∧ ts.Pairwise (· < ·) ∧ Q (.bl (wval st ts t)) H
theorem sc_Waveform_value_at : FnScope ["self", "time"] ["self", "time"] (defScope s_Waveform_value_at) := ⟨rfl, rfl, rfl, by decide +kernel, rfl, by decide +kernel, by decide +kernel⟩
theorem ok_Waveform_value_at {C : Addr} {f : Addr} {fd : FuncData} (F : Fun K "value_at" "Waveform.value_at" s_Waveform_value_at f fd) (W : Cl_Waveform K mg C) (C1 : Has P w K mg base 1 "count_until" ["numbers", "limit"] spCount) : FnOk P w K mg base CX0 2 f fd ["self", "time"] (spWValue C) := by
  obtain ⟨f_count_until, d_count_until, G_count_until, g_count_until, k_count_until, b_count_until⟩ := C1
  refine F.ok sc_Waveform_value_at (fun vs H Q E h => ?_) (fun cdv A outer s H vs Q E hr h => ?_)
  · obtain ⟨x, L, st, ts, t, rfl, _⟩ := h
    rfl
  · obtain ⟨x, L, st, ts, t, rfl, ⟨⟨dx, h1⟩, h2⟩, hn, hp, q⟩ := h
    refine ⟨_, (pss_one (ps_ret (pe_cmpR op_ne (pe_fld (pv 0) rfl) (pe_cmpR op_eq (pe_op op_and (pe_call G_count_until (hr.mono (by omega)) (by rfl) g_count_until k_count_until b_count_until .nil pass0 (pa_cons (pe_fld (pv 0) rfl) (pa_cons (pv 1) pa_nil))) pe_int) pe_int (nomark _)) (nomark _)))), ?_⟩
    exact ⟨_, rfl, x, C, dx, _, _, rfl, h1, W.cl, W.n_start, wfl_start _ _, _, rfl, x, C, dx, _, _, rfl, h1, W.cl, W.n_changes, wfl_changes _ _, _, rfl, L, ts, t, rfl, h2, hn, hp, _, _, rfl, rfl, rfl, rfl, q⟩
end
end G
namespace G
open PySem PySem.Spec PyProof.Rows L2 Evl TL
section
variable {P : Program} {w : World} {K : PySem.W.Frag} {mg : Str → Option Value} {base : Heap}
def steadyB (ts : List Int) (lo hi : Int) : Bool := decide (V.int (cnt ts lo : Int) = V.int (cnt ts hi : Int))
def spWSteady (C B : Addr) : Sp := fun vs H Q E => ∃ (x L : Addr) (st : Bool) (ts : List Int) (lo hi : Int), vs = [.ref x, .int lo, .int hi] ∧ WaveAt C H x L st ts ∧ ts.length ≤ 1000 ∧ ts.Pairwise (· < ·) ∧ (lo ≤ hi → Q (.bl (steadyB ts lo hi)) H) ∧ (hi < lo → ∀ H', Ex H H' → E (.ref B) none H')
theorem sc_Waveform_is_steady : FnScope ["self", "low", "high"] ["self", "low", "high"] (defScope s_Waveform_is_steady) := ⟨rfl, rfl, rfl, by decide +kernel, rfl, by decide +kernel, by decide +kernel⟩
theorem ok_Waveform_is_steady {C B : Addr} {f : Addr} {fd : FuncData} (F : Fun K "is_steady" "Waveform.is_steady" s_Waveform_is_steady f fd) (W : Cl_Waveform K mg C) (U : ExcT K mg "BadArgument" B) (C1 : Has P w K mg base 1 "count_until" ["numbers", "limit"] spCount) : FnOk P w K mg base (L2.CX P w) 2 f fd ["self", "low", "high"] (spWSteady C B) := by
  obtain ⟨f_count_until, d_count_until, G_count_until, g_count_until, k_count_until, b_count_until⟩ := C1
  refine F.okX sc_Waveform_is_steady (fun vs H Q E h => ?_) (fun cdv A outer s H vs Q E hr h => ?_)
  · obtain ⟨x, L, st, ts, lo, hi, rfl, _⟩ := h
    rfl
  · obtain ⟨x, L, st, ts, lo, hi, rfl, ⟨⟨dx, h1⟩, h2⟩, hn, hp, q1, q2⟩ := h
    refine ⟨_, (pss_cons (ps_if (pt_cmpR op_gt (pv 1) (pv 2) (nomark _))
      (pss_one (ps_raise rfl (takes_of rfl rfl rfl rfl) (pmk_ownA PySem.F.excBase_ValueError U.xP U.gC U.kC (raises_own U.bC U.tC) rfl (pa_cons pe_str pa_nil))))
      pss_nil)
    (pss_one (ps_ret (pe_cmpR op_eq (pe_call G_count_until (hr.mono (by omega)) (by rfl) g_count_until k_count_until b_count_until .nil pass0 (pa_cons (pe_fld (pv 0) rfl) (pa_cons (pv 1) pa_nil))) (pe_call G_count_until (hr.mono (by omega)) (by rfl) g_count_until k_count_until b_count_until .nil pass0 (pa_cons (pe_fld (pv 0) rfl) (pa_cons (pv 2) pa_nil))) (nomark _))))), ?_⟩
    refine ⟨_, rfl, _, rfl, _, _, rfl, rfl, _, rfl, ite2 (fun c => ?_) (fun c => ?_)⟩
    · exact ⟨(by show 1 ≤ sizeLine; decide), q2 (of_decide_eq_true c) H (Ex.refl _)⟩
    · have hle : lo ≤ hi := Int.not_lt.mp fun z => c (decide_eq_true z)
      exact ⟨_, rfl, x, C, dx, _, _, rfl, h1, W.cl, W.n_changes, wfl_changes _ _, _, rfl, L, ts, lo, rfl, h2, hn, hp, _, rfl, x, C, dx, _, _, rfl, h1, W.cl, W.n_changes, wfl_changes _ _, _, rfl, L, ts, hi, rfl, h2, hn, hp, rfl, q1 hle⟩
def showsB (st : Bool) (ts : List Int) (v : Bool) (lo hi : Int) : Bool := !steadyB ts lo hi || decide (V.bl (wval st ts lo) = V.bl v)
def spWShows (C B : Addr) : Sp := fun vs H Q E => ∃ (x L : Addr) (st v : Bool) (ts : List Int) (lo hi : Int), vs = [.ref x, .bl v, .int lo, .int hi] ∧ WaveAt C H x L st ts ∧ ts.length ≤ 1000 ∧ ts.Pairwise (· < ·) ∧ (lo ≤ hi → Q (.bl (showsB st ts v lo hi)) H) ∧ (hi < lo → ∀ H', Ex H H' → E (.ref B) none H')
theorem sc_Waveform_shows : FnScope ["self", "value", "low", "high"] ["self", "value", "low", "high"] (defScope s_Waveform_shows) := ⟨rfl, rfl, rfl, by decide +kernel, rfl, by decide +kernel, by decide +kernel⟩
theorem ok_Waveform_shows {C B f1 f2 : Addr} {d1 d2 : FuncData} {f : Addr} {fd : FuncData} (F : Fun K "shows" "Waveform.shows" s_Waveform_shows f fd) (W : Cl_Waveform K mg C)
    (M_Waveform_is_steady : Meth K C "is_steady" f1) (G_Waveform_is_steady : FnOk P w K mg base (L2.CX P w) 2 f1 d1 ["self", "low", "high"] (spWSteady C B)) (b_Waveform_is_steady : Binds K d1 ["self", "low", "high"] [])
    (M_Waveform_value_at : Meth K C "value_at" f2) (G_Waveform_value_at : FnOk P w K mg base CX0 2 f2 d2 ["self", "time"] (spWValue C)) (b_Waveform_value_at : Binds K d2 ["self", "time"] []) : FnOk P w K mg base (L2.CX P w) 3 f fd ["self", "value", "low", "high"] (spWShows C B) := by
  have c_Waveform := W.cl
  refine F.okX sc_Waveform_shows (fun vs H Q E h => ?_) (fun cdv A outer s H vs Q E hr h => ?_)
  · obtain ⟨x, L, st, v, ts, lo, hi, rfl, _⟩ := h
    rfl
  · obtain ⟨x, L, st, v, ts, lo, hi, rfl, hW, hn, hp, q1, q2⟩ := h
    obtain ⟨dx, h1⟩ := hW.ob
    refine ⟨_, (pss_one (ps_ret (pe_or (pe_not (pe_meth (pv 0) c_Waveform M_Waveform_is_steady G_Waveform_is_steady (hr.mono (by omega)) b_Waveform_is_steady .nil (passes_call (takes_of rfl rfl rfl rfl) fun _ _ _ _ h => h) (pa_cons (pv 2) (pa_cons (pv 3) pa_nil)))) (pe_one (pe_cmpR op_eq (pe_meth (pv 0) c_Waveform M_Waveform_value_at G_Waveform_value_at (hr.mono (by omega)) b_Waveform_value_at .nil pass0 (pa_cons (pv 2) pa_nil)) (pv 1) (nomark _)))))), ?_⟩
    refine ⟨_, rfl, x, dx, _, rfl, h1, wfl_no _ _ (by decide +kernel) (by decide +kernel), _, rfl, _, rfl, x, L, st, ts, lo, hi, rfl, hW, hn, hp, fun hle => ?_, q2⟩
    have hq := q1 hle
    unfold showsB at hq
    refine ⟨_, rfl, _, rfl, ?_⟩
    cases hs : steadyB ts lo hi with
    | false =>
      rw [hs] at hq
      exact iteT hq
    | true =>
      rw [hs] at hq
      exact iteF ⟨_, rfl, x, dx, _, rfl, h1, wfl_no _ _ (by decide +kernel) (by decide +kernel), _, rfl, x, L, st, ts, lo, rfl, hW, hn, hp, _, rfl, rfl, hq⟩
end
end G
namespace G
open PySem PySem.Spec PyProof.Rows L2 Evl TL
theorem pw_snoc {ts : List Int} {a : Int} (h : ts.Pairwise (· < ·)) (ha : ∀ t ∈ ts, t < a) : (ts ++ [a]).Pairwise (· < ·) := by
  rw [List.pairwise_append]
  refine ⟨h, List.pairwise_singleton .., fun x hx y hy => ?_⟩
  rw [List.mem_singleton.mp hy]; exact ha x hx
section
variable {P : Program} {w : World} {K : PySem.W.Frag} {mg : Str → Option Value} {base : Heap}
def spChanges : Sp := fun vs H Q _ => ∃ (p a : Addr) (most wide : Nat) (first : Int), vs = [.ref p, .int most, .int first, .int wide] ∧ most ≤ 100 ∧ 0 < wide ∧ wide ≤ 1000 ∧ PoolOk p a H ∧
  ∀ (l : Addr) (ts : List Int) (H' : Hp), Px p a H H' → H l = none → hid p H' l = some (.lst (ts.map V.int)) → ts.Pairwise (· < ·) → ts.length ≤ most → (∀ t ∈ ts, first ≤ t ∧ t < first + wide + 5 * most) → Q (.ref l) H'
theorem sc_law_changes : FnScope ["pool", "most", "first", "wide", "times", "at", "k"] ["pool", "most", "first", "wide"] (defScope s_law_changes) := ⟨rfl, rfl, rfl, by decide +kernel, rfl, by decide +kernel, by decide +kernel⟩
theorem ok_law_changes (D : Dfd K mg "_law_changes" s_law_changes ["pool", "most", "first", "wide"]) (T : TxtS mg) (C1 : Has P w K mg base 2 "_law_draw" ["pool", "many"] spDrawX) : Has P w K mg base 3 "_law_changes" ["pool", "most", "first", "wide"] spChanges := by
  obtain ⟨f_law_draw, d_law_draw, G_law_draw, g_law_draw, k_law_draw, b_law_draw⟩ := C1
  refine D.has fun f fd F => F.ok sc_law_changes (fun vs H Q E h => ?_) (fun cdv A outer s H vs Q E hr h => ?_)
  · obtain ⟨p, a, most, wide, first, rfl, _⟩ := h
    rfl
  · obtain ⟨p, a, most, wide, first, rfl, hm, hw0, hw, hp, q⟩ := h
    refine ⟨_, (pss_cons (ps_set (i := 4) sc_law_changes.nd rfl (.inl rfl) (pe_lst pa_nil))
    (pss_cons (ps_set (i := 5) sc_law_changes.nd rfl (.inl rfl) (pe_op op_add (pv 2) (pe_call G_law_draw (hr.mono (by omega)) (by rfl) g_law_draw k_law_draw b_law_draw .nil pass0 (pa_cons (pv 0) (pa_cons (pv 3) pa_nil)))))
    (pss_cons (ps_for PassesOwn.never rfl (pi_range1 rfl T.range (pa_cons (pe_call G_law_draw (hr.mono (by omega)) (by rfl) g_law_draw k_law_draw b_law_draw .nil pass0 (pa_cons (pv 0) (pa_cons (pe_op op_add (pv 1) pe_int) pa_nil))) pa_nil)) (pg_name (i := 6) sc_law_changes.nd rfl (.inl rfl))
      (pss_cons (ps_expr (pe_bm PySem.F.plainAttrs_list PySem.F.slot_list_append PySem.F.type_list_append mt_append (pv 4) (pa_cons (pv 5) pa_nil)))
      (pss_one (ps_set (i := 5) sc_law_changes.nd rfl (.inl rfl) (pe_op op_add (pe_op op_add (pv 5) pe_int) (pe_ix ix_tup (pe_tup (pa_cons pe_int (pa_cons pe_int (pa_cons pe_int (pa_cons pe_int pa_nil))))) (pe_call G_law_draw (hr.mono (by omega)) (by rfl) g_law_draw k_law_draw b_law_draw .nil pass0 (pa_cons (pv 0) (pa_cons pe_int pa_nil))) (fun _ _ => rfl)))))))
    (pss_one (ps_ret (pv 4)))))), ?_⟩
    refine ⟨Nat.zero_le _, fun l nl => ?_⟩
    have X0 := (Px.refl hp).new (o := .lst []) nl
    have hpl := hp.ne nl
    have hl0 : hid p (upd H l (.lst [])) l = some (.lst []) := by rw [hid_ne hpl]; exact upd_same
    generalize upd H l (.lst []) = H0 at *
    refine ⟨_, rfl, _, rfl, _, rfl, p, a, wide, rfl, by omega, by omega, X0.pool, fun v1 H1 h1 X1 _ => ⟨_, _, rfl, rfl, ?_⟩⟩
    refine ⟨_, rfl, _, rfl, _, _, rfl, rfl, p, a, (most : Int) + 1, rfl, by omega, by omega, X1.pool, fun v2 H2 h2 X2 _ => ⟨v2, rfl, by omega, by omega, for_range (n := ((v2 : Nat) : Int).toNat)
      (fun i σ H' => Px p a H H' ∧ ∃ (ts : List Int) (at_ : Int) (z : Option V), hid p H' l = some (.lst (ts.map V.int)) ∧ ts.Pairwise (· < ·) ∧ ts.length = i ∧ (∀ t ∈ ts, first ≤ t ∧ t < at_) ∧ first ≤ at_ ∧ at_ < first + wide + 5 * i ∧ σ = [some (.ref p), some (.int most), some (.int first), some (.int wide), some (.ref l), some (.int at_), z])
      ⟨(X0.trans X1).trans X2, [], first + v1, _, X2.get (X1.get hl0), .nil, rfl, (fun _ h => nomatch h), by omega, by omega, rfl⟩ ?_ ?_⟩⟩
    · rintro i σ H3 hi ⟨X3, ts, at_, z, hl, hpw, hlen, hb, b1, b2, rfl⟩
      rw [Int.toNat_natCast] at hi
      refine ⟨_, rfl, .inl ⟨rfl, _, SqL.of (hid_get hl)⟩, _, rfl, l, ts.map V.int, .int at_, rfl, rfl, hid_get hl, sz_lt (by rw [List.length_map]; omega), ?_⟩
      have X4 := X3.mut (o := .lst (ts.map V.int ++ [.int at_])) nl
      have hl4 : hid p (upd H3 l (.lst (ts.map V.int ++ [.int at_]))) l = some (.lst ((ts ++ [at_]).map V.int)) := by rw [hid_ne hpl, upd_same, List.map_append]; rfl
      generalize upd H3 l (.lst (ts.map V.int ++ [.int at_])) = H4 at *
      refine ⟨_, rfl, _, _, rfl, rfl, (by show 4 ≤ sizeLine; decide), fun t nt => ⟨_, rfl, p, a, 4, rfl, by decide, by decide, (X4.new nt).pool, fun v H5 hv X5 kp => ?_⟩⟩
      have ht5 : H5 t = some (.tup [.int 0, .int 0, .int 1, .int 4]) := by rw [kp _ (X4.pool.ne nt)]; exact upd_same
      obtain ⟨m, hm4, hm⟩ : ∃ m : Nat, m ≤ 4 ∧ ([.int 0, .int 0, .int 1, .int 4] : List V)[v]? = some (.int m) := by
        match v, hv with
        | 0, _ => exact ⟨0, by decide, rfl⟩
        | 1, _ => exact ⟨0, by decide, rfl⟩
        | 2, _ => exact ⟨1, by decide, rfl⟩
        | 3, _ => exact ⟨4, by decide, rfl⟩
        | n + 4, h => exact absurd h (by omega)
      refine ⟨_, _, _, _, rfl, rfl, SqT.of ht5, atI_nat hm, _, _, rfl, rfl, (X4.new nt).trans X5, ts ++ [at_], at_ + 1 + m, _, X5.get (((Px.refl X4.pool).new nt).get hl4), pw_snoc hpw fun t ht => (hb t ht).2, by rw [List.length_append, hlen]; rfl, fun t ht => ?_, by omega, by omega, rfl⟩
      rcases List.mem_append.mp ht with h | h
      · have := hb t h; omega
      · rw [List.mem_singleton.mp h]; omega
    · rintro σ H3 ⟨X3, ts, at_, z, hl, hpw, hlen, hb, b1, b2, rfl⟩
      rw [Int.toNat_natCast] at hlen b2
      exact ⟨_, rfl, q l ts H3 X3 nl hl hpw (by omega) fun t ht => by have := hb t ht; omega⟩
def spWV : Sp := fun vs H Q _ => ∃ (wv L : Addr) (st : Bool) (ts : List Int) (t : Int), vs = [.ref wv, .int t] ∧ H wv = some (.tup [.bl st, .ref L]) ∧ H L = some (.lst (ts.map V.int)) ∧ ts.length ≤ 1000 ∧ ∀ H', Ex H H' → Q (.bl (wval st ts t)) H'
theorem sc_law_wave_value : FnScope ["wave", "time", "many", "change"] ["wave", "time"] (defScope s_law_wave_value) := ⟨rfl, rfl, rfl, by decide +kernel, rfl, by decide +kernel, by decide +kernel⟩
theorem ok_law_wave_value (D : Dfd K mg "_law_wave_value" s_law_wave_value ["wave", "time"]) (T : TxtS mg) : Has P w K mg base 1 "_law_wave_value" ["wave", "time"] spWV := by
  refine D.has fun f fd F => F.ok sc_law_wave_value (fun vs H Q E h => ?_) (fun cdv A outer s H vs Q E hr h => ?_)
  · obtain ⟨wv, L, st, ts, t, rfl, _⟩ := h
    rfl
  · obtain ⟨wv, L, st, ts, t, rfl, hw, hl, hn, q⟩ := h
    refine ⟨_, (pss_cons (ps_set (i := 2) sc_law_wave_value.nd rfl (.inl rfl) (pe_callB call_len_seq (by rfl) T.len (by decide +kernel) (pa_cons (pe_lc (own := [("change", 3)]) (g := gName 3) (tt := _) rfl sc_law_wave_value.nd (pi_list (pe_ix ix_tup (pv 0) pe_int (fun _ _ => rfl))) (blkOk_by (N := ["wave", "time", "many", "change"]) (sc := defScope s_law_wave_value) (own := [("change", 3)]) (by decide +kernel)) (fun _ _ _ _ _ => (pg_name (i := 3) sc_law_wave_value.nd rfl (.inl rfl))) (fun _ _ _ _ _ => pts_one (pt_cmpR op_le (pv 3) (pv 1) (nomark _))) (fun _ _ _ _ _ => (pv 3))) pa_nil)))
    (pss_one (ps_ret (pe_cmpR op_ne (pe_ix ix_tup (pv 0) pe_int (fun _ _ => rfl)) (pe_cmpR op_eq (pe_op op_and (pv 2) pe_int) pe_int (nomark _)) (nomark _))))), ?_⟩
    refine ⟨_, rfl, _, _, _, _, rfl, rfl, SqT.of hw, atI_nat (j := 1) rfl, L, rfl, ⟨_, SqL.of hl⟩, fun L3 nL3 => wk_list (K := K) (a := L) (xs := ts.map V.int) (fun j H2 => Ex H H2 ∧ H2 L3 = some (.lst (((ts.take j).filter fun x => decide (x ≤ t)).map V.int))) ⟨Ex.new nL3, upd_same⟩ (fun j H2 _ g => SqL.of (g.1 _ _ hl)) ?_ ?_⟩
    · rintro j y H2 hy ⟨E2, hL2⟩
      rw [List.getElem?_map] at hy
      cases ht : ts[j]? with
      | none => rw [ht] at hy; cases hy
      | some x =>
        rw [ht] at hy
        cases hy
        have hj : j < ts.length := (List.getElem?_eq_some_iff.mp ht).1
        have hlen : ((ts.take j).filter fun x => decide (x ≤ t)).length ≤ 1000 := by
          have := List.length_filter_le (fun x => decide (x ≤ t)) (ts.take j)
          rw [List.length_take] at this; omega
        refine ⟨rfl, ?_⟩
        simp only [wipe, _root_.L2.start, List.map_cons, List.map_nil, List.length_cons, List.length_nil, Nat.reduceAdd, Nat.reduceSub, List.replicate_succ, List.replicate_zero, List.cons_append, List.nil_append, List.set_cons_zero, List.set_cons_succ]
        refine ⟨_, rfl, _, rfl, _, _, rfl, rfl, _, rfl, ite2 (fun c => ?_) (fun c => ?_)⟩
        · refine ⟨_, rfl, _, hL2, sz_lt (by rw [List.length_map]; omega), E2.mut nL3, ?_⟩
          rw [upd_same, take_snoc1 ht, List.filter_append, List.map_append, List.filter_cons, if_pos c]; rfl
        · refine ⟨E2, ?_⟩
          rw [hL2, take_snoc1 ht, List.filter_append, List.filter_cons, if_neg c, List.filter_nil, List.append_nil]
    · rintro H2 ⟨E2, hL2⟩
      rw [List.length_map, List.take_length] at hL2
      refine ⟨_, _, rfl, .inl (SqL.of hL2), _, rfl, _, _, _, _, rfl, rfl, SqT.of (E2 _ _ hw), atI_nat (j := 0) rfl, _, rfl, _, _, rfl, rfl, rfl, rfl, ?_⟩
      rw [List.length_map]
      exact q H2 E2
end
end G
namespace G
open PySem PySem.Spec PyProof.Rows L2 Evl TL
section
variable {P : Program} {w : World} {K : PySem.W.Frag} {mg : Str → Option Value} {base : Heap}
def spTold (C : Addr) : Sp := fun vs H Q _ => ∃ (x L : Addr) (st v : Bool) (ts : List Int) (lo hi way : Int), vs = [.ref x, .int way, .bl v, .int lo, .int hi] ∧ WaveAt C H x L st ts ∧ ts.length ≤ 1000 ∧ ts.Pairwise (· < ·) ∧
  (lo ≤ hi → Q (.bl (if way = 0 then showsB st ts v lo hi else steadyB ts lo hi)) H) ∧ (hi < lo → ∀ t H', Ex H H' → H' t = some (.tup [.str "refused", .bl true]) → Q (.ref t) H')
theorem sc_law_told : FnScope ["wave", "way", "value", "low", "high", "e"] ["wave", "way", "value", "low", "high"] (defScope s_law_told) := ⟨rfl, rfl, rfl, by decide +kernel, rfl, by decide +kernel, by decide +kernel⟩
theorem ok_law_told {C B D_BadRange D_SignoffError f1 f2 : Addr} {d1 d2 : FuncData} (D : Dfd K mg "_law_told" s_law_told ["wave", "way", "value", "low", "high"]) (T : TxtS mg) (W : Cl_Waveform K mg C) (U : ExcI K mg "BadArgument" B)
    (g_BadRange : mg "BadRange" = some (.ref D_BadRange)) (i1 : PySem.W.kitOne K (.ref B) (.ref D_BadRange) = some false) (g_SignoffError : mg "SignoffError" = some (.ref D_SignoffError)) (i2 : PySem.W.kitOne K (.ref B) (.ref D_SignoffError) = some true)
    (M_Waveform_is_steady : Meth K C "is_steady" f1) (G_Waveform_is_steady : FnOk P w K mg base (L2.CX P w) 2 f1 d1 ["self", "low", "high"] (spWSteady C B)) (b_Waveform_is_steady : Binds K d1 ["self", "low", "high"] [])
    (M_Waveform_shows : Meth K C "shows" f2) (G_Waveform_shows : FnOk P w K mg base (L2.CX P w) 3 f2 d2 ["self", "value", "low", "high"] (spWShows C B)) (b_Waveform_shows : Binds K d2 ["self", "value", "low", "high"] []) : Has P w K mg base 4 "_law_told" ["wave", "way", "value", "low", "high"] (spTold C) := by
  have c_Waveform := W.cl
  refine D.has fun f fd F => F.ok sc_law_told (fun vs H Q E h => ?_) (fun cdv A outer s H vs Q E hr h => ?_)
  · obtain ⟨x, L, st, v, ts, lo, hi, way, rfl, _⟩ := h
    rfl
  · obtain ⟨x, L, st, v, ts, lo, hi, way, rfl, hW, hn, hp, q1, q2⟩ := h
    obtain ⟨dx, h1⟩ := hW.ob
    refine ⟨_, (pss_one (ps_try_as (c := .ref B) (i := 5) rfl rfl sc_law_told.nd rfl rfl ⟨rfl, by decide, .inl U.u.gC⟩ takes0
      (fun W pn xe tk _ => (pss_one (ps_ret (pe_ifExp (pt_cmpR op_eq (pv 1) pe_int (nomark _)) (pe_methX (pv 0) c_Waveform M_Waveform_shows G_Waveform_shows (hr.mono (by omega)) b_Waveform_shows .nil (fun σ => passAt tk σ) (pa_cons (pv 2) (pa_cons (pv 3) (pa_cons (pv 4) pa_nil)))) (pe_methX (pv 0) c_Waveform M_Waveform_is_steady G_Waveform_is_steady (hr.mono (by omega)) b_Waveform_is_steady .nil (fun σ => passAt tk σ) (pa_cons (pv 3) (pa_cons (pv 4) pa_nil)))))))
      (fun a oe cls dd pn hz hf => (pss_one (ps_ret (pe_tup (pa_cons pe_str (pa_cons (pe_and (pe_not (pe_ex (α := Addr) (p := fun D => cls = .ref D ∧ dd = none ∧ ExcC K D) (t := fun D => tCB (rIsE K D a) (tCons (tVar 5) (tCons (tC (.ref D_BadRange)) tNil))) (fun D z => by obtain ⟨rfl, rfl, ic⟩ := z; exact pe_callB (call_isE ic hz hf) (by rfl) T.isinstance (by decide +kernel) (pa_cons (pv 5) (pa_cons (gRef rfl g_BadRange) pa_nil))))) (pe_one (pe_ex (α := Addr) (p := fun D => cls = .ref D ∧ dd = none ∧ ExcC K D) (t := fun D => tCB (rIsE K D a) (tCons (tVar 5) (tCons (tC (.ref D_SignoffError)) tNil))) (fun D z => by obtain ⟨rfl, rfl, ic⟩ := z; exact pe_callB (call_isE ic hz hf) (by rfl) T.isinstance (by decide +kernel) (pa_cons (pv 5) (pa_cons (gRef rfl g_SignoffError) pa_nil)))))) pa_nil)))))))), ?_⟩
    have suite : hi < lo → ∀ H1, Ex H H1 → ∀ t, H1 t = none → Q (.ref t) (upd H1 t (.tup [.str "refused", .bl true])) := fun z H1 E1 t nt => q2 z t _ (E1.trans (Ex.new nt)) upd_same
    refine ⟨_, rfl, rfl, _, rfl, ite2 (fun c => ?_) (fun c => ?_)⟩
    · have c' : way = 0 := V.int.inj (of_decide_eq_true c)
      rw [if_pos c'] at q1
      refine ⟨_, rfl, x, dx, _, rfl, h1, wfl_no _ _ (by decide +kernel) (by decide +kernel), _, rfl, _, rfl, _, rfl, x, L, st, v, ts, lo, hi, rfl, hW, hn, hp, q1, fun hlt H1 E1 => ⟨true, U.hit, fun _ a na => ?_, fun q => nomatch q⟩⟩
      exact ⟨B, ⟨rfl, rfl, U.isc⟩, _, rfl, .ref D_BadRange, .ref D_BadRange, false, rfl, (fun u hu => hu), i1, _, rfl, _, rfl, iteT ⟨B, ⟨rfl, rfl, U.isc⟩, _, rfl, .ref D_SignoffError, .ref D_SignoffError, true, rfl, (fun u hu => hu), i2, (by show 2 ≤ sizeLine; decide), fun t nt => suite hlt H1 E1 t nt⟩⟩
    · have c' : ¬ way = 0 := fun z => c (by rw [z]; rfl)
      rw [if_neg c'] at q1
      refine ⟨_, rfl, x, dx, _, rfl, h1, wfl_no _ _ (by decide +kernel) (by decide +kernel), _, rfl, _, rfl, x, L, st, ts, lo, hi, rfl, hW, hn, hp, q1, fun hlt H1 E1 => ⟨true, U.hit, fun _ a na => ?_, fun q => nomatch q⟩⟩
      exact ⟨B, ⟨rfl, rfl, U.isc⟩, _, rfl, .ref D_BadRange, .ref D_BadRange, false, rfl, (fun u hu => hu), i1, _, rfl, _, rfl, iteT ⟨B, ⟨rfl, rfl, U.isc⟩, _, rfl, .ref D_SignoffError, .ref D_SignoffError, true, rfl, (fun u hu => hu), i2, (by show 2 ≤ sizeLine; decide), fun t nt => suite hlt H1 E1 t nt⟩⟩
end
theorem rep_told {H : Hp} {a : Addr} (h : H a = some (.tup [.str "refused", .bl true])) : Rep H (.ref a) (.tup [.str "refused", .bl true]) := by
  refine .tup h rfl fun i x d hx hd => ?_
  match i, hx, hd with
  | 0, hx, hd => cases hx; cases hd; exact .str _
  | 1, hx, hd => cases hx; cases hd; exact .bl _
  | n + 2, hx, _ => exact nomatch hx
theorem cnt_le_of {ts : List Int} {lo hi : Int} (h : lo ≤ hi) : steadyB ts lo hi = decide (∀ x ∈ ts, lo < x → ¬ x ≤ hi) := by
  unfold steadyB
  rw [Bool.eq_iff_iff, decide_eq_true_iff, decide_eq_true_iff, V.int.injEq]
  constructor
  · intro e x hx h1 h2
    rw [cnt_add h ts] at e
    have : (ts.filter fun x => decide (lo < x) && decide (x ≤ hi)) = [] := List.length_eq_zero_iff.mp (by omega)
    exact List.filter_eq_nil_iff.mp this x hx (by rw [decide_eq_true h1, decide_eq_true h2]; rfl)
  · intro hn
    rw [cnt_same h hn]
def shownL (st : Bool) (ts : List Int) (lo : Int) (n : Nat) : List Bool := (List.range n).map fun k : Nat => wval st ts (lo + (k : Int))
theorem shown_mem {st : Bool} {ts : List Int} {lo hi : Int} {b : Bool} : b ∈ shownL st ts lo (hi + 1 - lo).toNat ↔ ∃ t, lo ≤ t ∧ t ≤ hi ∧ wval st ts t = b := by
  unfold shownL
  rw [List.mem_map]
  constructor
  · rintro ⟨k, hk, e⟩
    have := List.mem_range.mp hk
    exact ⟨lo + k, by omega, by omega, e⟩
  · rintro ⟨t, h1, h2, e⟩
    refine ⟨(t - lo).toNat, List.mem_range.mpr (by omega), ?_⟩
    rw [show lo + (((t - lo).toNat : Nat) : Int) = t by omega]; exact e
theorem shown_facts {st : Bool} {ts : List Int} {lo hi : Int} (hp : ts.Pairwise (· < ·)) (h : lo ≤ hi) (v : Bool) :
    showsB st ts v lo hi = (shownL st ts lo (hi + 1 - lo).toNat).contains v ∧ steadyB ts lo hi = !((shownL st ts lo (hi + 1 - lo).toNat).contains true && (shownL st ts lo (hi + 1 - lo).toNat).contains false) := by
  have cm : ∀ b, (shownL st ts lo (hi + 1 - lo).toNat).contains b = true ↔ ∃ t, lo ≤ t ∧ t ≤ hi ∧ wval st ts t = b := fun b => by rw [List.contains_iff_mem]; exact shown_mem
  have hs := cnt_le_of (ts := ts) h
  cases e : steadyB ts lo hi with
  | true =>
    rw [e] at hs
    have hn := of_decide_eq_true hs.symm
    have same : ∀ t, lo ≤ t → t ≤ hi → wval st ts t = wval st ts lo := fun t h1 h2 => wval_same h1 fun x hx a b => hn x hx a (Int.le_trans b h2)
    have key : ∀ b, (shownL st ts lo (hi + 1 - lo).toNat).contains b = decide (wval st ts lo = b) := fun b => by
      rw [Bool.eq_iff_iff, cm, decide_eq_true_iff]
      constructor
      · rintro ⟨t, h1, h2, e⟩
        rw [← same t h1 h2]; exact e
      · intro e; exact ⟨lo, Int.le_refl _, h, e⟩
    unfold showsB
    rw [e, key, key, key, bl_eq]
    refine ⟨rfl, ?_⟩
    cases wval st ts lo <;> rfl
  | false =>
    rw [e] at hs
    have hn := of_decide_eq_false hs.symm
    obtain ⟨x, hx, h1, h2⟩ : ∃ x ∈ ts, lo < x ∧ x ≤ hi := by
      refine Classical.byContradiction fun no => hn fun x hx h1 h2 => no ⟨x, hx, h1, h2⟩
    have fl := wval_flip (st := st) hp hx
    have both : ∀ b, (shownL st ts lo (hi + 1 - lo).toNat).contains b = true := fun b => by
      rw [cm]
      by_cases hb : wval st ts x = b
      · exact ⟨x, by omega, h2, hb⟩
      · refine ⟨x - 1, by omega, by omega, ?_⟩
        rw [fl] at hb
        revert hb
        cases wval st ts (x - 1) <;> cases b <;> simp
    unfold showsB
    rw [e, both, both, both]
    exact ⟨rfl, rfl⟩
theorem spoilt {ts : List Int} {v : Nat} {d : Int} (hv : v + 1 < ts.length) (hd : 0 ≤ d) : ascB (ts.set (v + 1) (ts[v] - d)) = false := by
  rw [Bool.eq_false_iff]
  intro h
  have := List.pairwise_iff_getElem.mp (pw_ascB h) v (v + 1) (by rw [List.length_set]; omega) (by rw [List.length_set]; omega) (by omega)
  rw [List.getElem_set_self, List.getElem_set_ne (by omega)] at this
  omega
section
variable {P : Program} {w : World} {K : PySem.W.Frag} {mg : Str → Option Value} {base : Heap}
def spLaw (K : PySem.W.Frag) : Sp := fun vs H Q _ => ∃ (a : Addr) (ns : List Int), vs = [.ref a] ∧ SqL K H a (ns.map V.int) ∧ ns.length ≤ 63 ∧ ∀ H', Q (.bl true) H'
theorem sc_law : FnScope ["script", "pool", "start", "times", "good", "at", "passed", "wave", "time", "low", "high", "value", "shown", "dues", "way", "due"] ["script"] (defScope s_law) := ⟨rfl, rfl, rfl, by decide +kernel, rfl, by decide +kernel, by decide +kernel⟩
theorem fn_law {C B : Addr} {f f0 f1 f2 f3 p3 : Addr} {fd d0 d1 d2 d3 : FuncData} (F : Fun K "law" "law" s_law f fd) (T : TxtS mg) (W : Cl_Waveform K mg C) (U : ExcI K mg "BadArgument" B) (C1 : Has P w K mg base 1 "_law_pool" ["script"] (spPool K)) (C2 : Has P w K mg base 2 "_law_draw" ["pool", "many"] spDrawX) (C3 : Has P w K mg base 3 "_law_changes" ["pool", "most", "first", "wide"] spChanges)
    (C4 : Has P w K mg base 1 "_law_wave_value" ["wave", "time"] spWV) (C5 : Has P w K mg base 4 "_law_told" ["wave", "way", "value", "low", "high"] (spTold C)) (C7 : Has P w K mg base 2 "_law_same" ["actual", "due"] (spSame 2))
    (Mk_Waveform : Mk K C f0) (G_Waveform_init : FnOk P w K mg base (L2.CX P w) 2 f0 d0 ["self", "start", "changes"] (spWInit C B)) (b_Waveform_init : Binds K d0 ["self", "start", "changes"] [])
    (M_Waveform_changes : Meth K C "changes" f1) (G_Waveform_changes : FnOk P w K mg base CX0 1 f1 d1 ["self"] (spWChanges C)) (b_Waveform_changes : Binds K d1 ["self"] [])
    (M_Waveform_value_at : Meth K C "value_at" f2) (G_Waveform_value_at : FnOk P w K mg base CX0 2 f2 d2 ["self", "time"] (spWValue C)) (b_Waveform_value_at : Binds K d2 ["self", "time"] [])
    (P_Waveform_start : PropOf K C "start" p3 f3) (G_Waveform_start : FnOk P w K mg base CX0 1 f3 d3 ["self"] (spWStart C)) (b_Waveform_start : Binds K d3 ["self"] []) : FnOk P w K mg base CX0 5 f fd ["script"] (spLaw K) := by
  obtain ⟨f_law_pool, d_law_pool, G_law_pool, g_law_pool, k_law_pool, b_law_pool⟩ := C1
  obtain ⟨f_law_draw, d_law_draw, G_law_draw, g_law_draw, k_law_draw, b_law_draw⟩ := C2
  obtain ⟨f_law_changes, d_law_changes, G_law_changes, g_law_changes, k_law_changes, b_law_changes⟩ := C3
  obtain ⟨f_law_wave_value, d_law_wave_value, G_law_wave_value, g_law_wave_value, k_law_wave_value, b_law_wave_value⟩ := C4
  obtain ⟨f_law_told, d_law_told, G_law_told, g_law_told, k_law_told, b_law_told⟩ := C5
  obtain ⟨f_law_same, d_law_same, G_law_same, g_law_same, k_law_same, b_law_same⟩ := C7
  have c_Waveform := W.cl
  have g_Waveform := W.gC
  refine F.ok sc_law (fun vs H Q E h => ?_) (fun cdv A outer s H vs Q E hr h => ?_)
  · obtain ⟨a, ns, rfl, _⟩ := h
    rfl
  · obtain ⟨sa, ns, rfl, hs, hn, q⟩ := h
    refine ⟨_, (pss_cons (ps_set (i := 1) sc_law.nd rfl (.inl rfl) (pe_call G_law_pool (hr.mono (by omega)) (by rfl) g_law_pool k_law_pool b_law_pool .nil pass0 (pa_cons (pv 0) pa_nil)))
    (pss_cons (ps_set (i := 2) sc_law.nd rfl (.inr rfl) (pe_cmpR op_eq (pe_call G_law_draw (hr.mono (by omega)) (by rfl) g_law_draw k_law_draw b_law_draw .nil pass0 (pa_cons (pv 1) (pa_cons pe_int pa_nil))) pe_int (nomark _)))
    (pss_cons (ps_set (i := 3) sc_law.nd rfl (.inr rfl) (pe_call G_law_changes (hr.mono (by omega)) (by rfl) g_law_changes k_law_changes b_law_changes .nil pass0 (pa_cons (pv 1) (pa_cons pe_int (pa_cons (pe_un un_neg pe_int) (pa_cons pe_int pa_nil))))))
    (pss_cons (ps_set (i := 4) sc_law.nd rfl (.inl rfl) pe_bl)
    (pss_cut (ps_if (PW.pt (pw_and (pt_cmpR op_gt (pe_callB call_len_seq (by rfl) T.len (by decide +kernel) (pa_cons (pv 3) pa_nil)) pe_int (nomark _)) (pw_and1 (pt_cmpR op_eq (pe_call G_law_draw (hr.mono (by omega)) (by rfl) g_law_draw k_law_draw b_law_draw .nil pass0 (pa_cons (pv 1) (pa_cons pe_int pa_nil))) pe_int (nomark _)))))
      (pss_cons (ps_set (i := 5) sc_law.nd rfl (.inl rfl) (pe_op op_add pe_int (pe_call G_law_draw (hr.mono (by omega)) (by rfl) g_law_draw k_law_draw b_law_draw .nil pass0 (pa_cons (pv 1) (pa_cons (pe_op op_sub (pe_callB call_len_seq (by rfl) T.len (by decide +kernel) (pa_cons (pv 3) pa_nil)) pe_int) pa_nil)))))
      (pss_cons (ps_asg (pe_op op_sub (pe_ix ix_list (pv 3) (pe_op op_sub (pv 5) pe_int) (fun _ _ => rfl)) (pe_call G_law_draw (hr.mono (by omega)) (by rfl) g_law_draw k_law_draw b_law_draw .nil pass0 (pa_cons (pv 1) (pa_cons pe_int pa_nil)))) (pg_sub (pv 3) (pv 5) set_list))
      (pss_one (ps_set (i := 4) sc_law.nd rfl (.inl rfl) pe_bl))))
      pss_nil)
    (pss_cons (ps_set (i := 6) sc_law.nd rfl (.inl rfl) (pe_callTy call_list_of (by rfl) T.list (by decide +kernel) (pa_cons (pv 3) pa_nil)))
    (pss_cons (ps_try_only (c := .ref B) rfl rfl ⟨rfl, by decide, .inl U.u.gC⟩ takes0
      (fun W pn xe tk _ => (pss_one (ps_set (i := 7) sc_law.nd rfl (.inl rfl) (pe_makeX Mk_Waveform G_Waveform_init (hr.mono (by omega)) (by rfl) g_Waveform b_Waveform_init .nil (fun σ => passAt tk σ) (pa_cons (pv 2) (pa_cons (pv 6) pa_nil))))))
      (fun a oe cls dd pn hz hf => (pss_one (ps_ret (pe_not (pv 4))))))
    (pss_cons (ps_if (pt_not (pt_val (pv 4)))
      (pss_one (ps_ret pe_bl))
      pss_nil)
    (pss_cons (ps_expr (pe_bm PySem.F.plainAttrs_list PySem.F.slot_list_append PySem.F.type_list_append mt_append (pv 6) (pa_cons pe_int pa_nil)))
    (pss_cons (ps_expr (pe_bm PySem.F.plainAttrs_list PySem.F.slot_list_append PySem.F.type_list_append mt_append (pe_meth0 (pv 7) c_Waveform M_Waveform_changes G_Waveform_changes (hr.mono (by omega)) b_Waveform_changes .nil pass0) (pa_cons (pe_un un_neg pe_int) pa_nil)))
    (pss_cut (ps_if (PW.pt (pw_or (pt_not (pt_val (pe_call G_law_same (hr.mono (by omega)) (by rfl) g_law_same k_law_same b_law_same .nil pass0 (pa_cons (pe_prop (pv 7) c_Waveform P_Waveform_start G_Waveform_start (hr.mono (by omega)) b_Waveform_start .nil pass0 rfl) (pa_cons (pv 2) pa_nil))))) (pw_or1 (pt_not (pt_val (pe_call G_law_same (hr.mono (by omega)) (by rfl) g_law_same k_law_same b_law_same .nil pass0 (pa_cons (pe_meth0 (pv 7) c_Waveform M_Waveform_changes G_Waveform_changes (hr.mono (by omega)) b_Waveform_changes .nil pass0) (pa_cons (pv 3) pa_nil))))))))
      (pss_one (ps_ret pe_bl))
      pss_nil)
    (pss_cons (ps_for PassesOwn.never rfl (pi_range2 rfl T.range (pa_cons (pe_un un_neg pe_int) (pa_cons pe_int pa_nil))) (pg_name (i := 8) sc_law.nd rfl (.inl rfl))
      (pss_one (ps_if (pt_not (pt_val (pe_call G_law_same (hr.mono (by omega)) (by rfl) g_law_same k_law_same b_law_same .nil pass0 (pa_cons (pe_meth (pv 7) c_Waveform M_Waveform_value_at G_Waveform_value_at (hr.mono (by omega)) b_Waveform_value_at .nil pass0 (pa_cons (pv 8) pa_nil)) (pa_cons (pe_call G_law_wave_value (hr.mono (by omega)) (by rfl) g_law_wave_value k_law_wave_value b_law_wave_value .nil pass0 (pa_cons (pe_tup (pa_cons (pv 2) (pa_cons (pv 3) pa_nil))) (pa_cons (pv 8) pa_nil))) pa_nil)))))
        (pss_one (ps_ret pe_bl))
        pss_nil)))
    (pss_cons (ps_set (i := 9) sc_law.nd rfl (.inl rfl) (pe_op op_sub (pe_call G_law_draw (hr.mono (by omega)) (by rfl) g_law_draw k_law_draw b_law_draw .nil pass0 (pa_cons (pv 1) (pa_cons pe_int pa_nil))) pe_int))
    (pss_cons (ps_set (i := 10) sc_law.nd rfl (.inl rfl) (pe_op op_sub (pe_op op_add (pv 9) (pe_call G_law_draw (hr.mono (by omega)) (by rfl) g_law_draw k_law_draw b_law_draw .nil pass0 (pa_cons (pv 1) (pa_cons pe_int pa_nil)))) pe_int))
    (pss_cons (ps_set (i := 11) sc_law.nd rfl (.inl rfl) (pe_cmpR op_eq (pe_call G_law_draw (hr.mono (by omega)) (by rfl) g_law_draw k_law_draw b_law_draw .nil pass0 (pa_cons (pv 1) (pa_cons pe_int pa_nil))) pe_int (nomark _)))
    (pss_cons (ps_setLc (i := 12) (own := [("time", 8)]) (g := gName 8) (tt := tYes) rfl sc_law.nd rfl rfl (sw_true rfl rfl rfl (by decide +kernel)) (pi_range2 rfl T.range (pa_cons (pv 9) (pa_cons (pe_op op_add (pv 10) pe_int) pa_nil))) (blkOk_by (N := ["script", "pool", "start", "times", "good", "at", "passed", "wave", "time", "low", "high", "value", "shown", "dues", "way", "due"]) (sc := defScope s_law) (own := [("time", 8)]) (by decide +kernel)) (fun _ _ _ _ _ => (pg_name (i := 8) sc_law.nd rfl (.inl rfl))) (fun _ _ _ _ _ => pts_nil) (fun _ _ _ _ _ => (pe_call G_law_wave_value (hr.mono (by omega)) (by rfl) g_law_wave_value k_law_wave_value b_law_wave_value .nil pass0 (pa_cons (pe_tup (pa_cons (pv 2) (pa_cons (pv 3) pa_nil))) (pa_cons (pv 8) pa_nil)))))
    (pss_cons (ps_set (i := 13) sc_law.nd rfl (.inl rfl) (pe_lst (pa_cons (pe_cmpR op_in_seq (pv 11) (pv 12) (by rfl)) (pa_cons (pe_not (pe_and (pe_cmpR op_in_seq pe_bl (pv 12) (by rfl)) (pe_one (pe_cmpR op_in_seq pe_bl (pv 12) (by rfl))))) pa_nil))))
    (pss_cons (ps_for PassesOwn.never rfl (pi_range1 rfl T.range (pa_cons pe_int pa_nil)) (pg_name (i := 14) sc_law.nd rfl (.inl rfl))
      (pss_cons (ps_set (i := 15) sc_law.nd rfl (.inl rfl) (pe_ifExp (pt_cmpR op_le (pv 9) (pv 10) (nomark _)) (pe_ix ix_list (pv 13) (pv 14) (fun _ _ => rfl)) (pe_tup (pa_cons pe_str (pa_cons pe_bl pa_nil)))))
      (pss_one (ps_if (pt_not (pt_val (pe_call G_law_same (hr.mono (by omega)) (by rfl) g_law_same k_law_same b_law_same .nil pass0 (pa_cons (pe_call G_law_told (hr.mono (by omega)) (by rfl) g_law_told k_law_told b_law_told .nil pass0 (pa_cons (pv 7) (pa_cons (pv 14) (pa_cons (pv 11) (pa_cons (pv 9) (pa_cons (pv 10) pa_nil)))))) (pa_cons (pv 15) pa_nil)))))
        (pss_one (ps_ret pe_bl))
        pss_nil))))
    (pss_one (ps_ret pe_bl)))))))))))))))))))), ?_⟩
    refine ⟨_, rfl, sa, ns, rfl, hs, by omega, fun p a H0 hp E0 np => ?_⟩
    refine ⟨_, rfl, p, a, 2, rfl, by decide, by decide, hp, fun v1 H1 h1 X1 _ => ⟨rfl, ?_⟩⟩
    obtain ⟨st, est⟩ : ∃ st : Bool, st = decide (V.int (v1 : Int) = V.int 1) := ⟨_, rfl⟩
    rw [← est]
    refine ⟨_, rfl, _, rfl, p, a, 8, 30, -20, rfl, by decide, by decide, by decide, X1.pool, fun tl ts0 H2 X2 ntl htl hpw hln hbd => ?_⟩
    have X3 := X1.trans X2
    have ntl0 := X1.free ntl
    refine ⟨fun σ H' => Px p a H0 H' ∧ ∃ (ts : List Int) (x5 : Option V), hid p H' tl = some (.lst (ts.map V.int)) ∧ ts.length ≤ 8 ∧ σ = [some (.ref sa), some (.ref p), some (.bl st), some (.ref tl), some (.bl (ascB ts)), x5, none, none, none, none, none, none, none, none, none, none], ?_, ?_⟩
    · have good : ∀ H', Px p a H2 H' → Px p a H0 H' ∧ ∃ (ts : List Int) (x5 : Option V), hid p H' tl = some (.lst (ts.map V.int)) ∧ ts.length ≤ 8 ∧ ([some (.ref sa), some (.ref p), some (.bl st), some (.ref tl), some (.bl true), none, none, none, none, none, none, none, none, none, none, none] : L2.St) = [some (.ref sa), some (.ref p), some (.bl st), some (.ref tl), some (.bl (ascB ts)), x5, none, none, none, none, none, none, none, none, none, none] := fun H' X' => ⟨X3.trans X', ts0, none, X'.get htl, hln, by rw [ascB_pw hpw]⟩
      refine ⟨_, rfl, _, _, rfl, .inl (SqL.of (hid_get htl)), _, _, rfl, rfl, _, rfl, ite2 (fun c1 => ?_) (fun c1 => good H2 (Px.refl X2.pool))⟩
      have hpos : 1 < ts0.length := by have := of_decide_eq_true c1; rw [List.length_map] at this; omega
      refine ⟨_, rfl, p, a, 5, rfl, by decide, by decide, X2.pool, fun v2 H3 h3 X4 _ => ⟨rfl, _, rfl, ite2 (fun c2 => ?_) (fun c2 => good H3 X4)⟩⟩
      refine ⟨_, rfl, _, rfl, _, _, rfl, .inl (SqL.of (hid_get (X4.get htl))), _, _, rfl, rfl, p, a, ((ts0.length : Nat) : Int) - 1, by rw [List.length_map]; rfl, by omega, by omega, X4.pool, fun v3 H4 h4 X5 _ => ⟨_, _, rfl, rfl, ?_⟩⟩
      have hv3 : v3 + 1 < ts0.length := by omega
      have htl4 := X5.get (X4.get htl)
      refine ⟨_, rfl, _, rfl, _, _, rfl, rfl, _, _, _, _, rfl, rfl, SqL.of (hid_get htl4), at_of (j := v3) (by omega) (by rw [List.getElem?_map, List.getElem?_eq_getElem (show v3 < ts0.length by omega)]; rfl), _, rfl, p, a, 2, rfl, by decide, by decide, X5.pool, fun v4 H5 h5 X6 _ => ⟨_, _, rfl, rfl, ?_⟩⟩
      have Z := X4.trans (X5.trans X6)
      have htl5 := Z.get htl
      refine ⟨_, rfl, _, rfl, tl, _, _, v3 + 1, rfl, rfl, hid_get htl5, ?_, (X3.trans Z).mut ntl0, ts0.set (v3 + 1) (ts0[v3] - (v4 : Int)), some (.int ((1 : Int) + (v3 : Int))), ?_, by rw [List.length_set]; exact hln, ?_⟩
      · rw [List.length_map, show (1 : Int) + (v3 : Int) = ((v3 + 1 : Nat) : Int) by omega]
        exact ixN_nat hv3
      · rw [hid_ne (hid_neq htl5), upd_same, List.map_set]
      · rw [spoilt hv3 (by omega)]; rfl
    · rintro σ H3 ⟨X4, ts, x5, htl3, hln3, rfl⟩
      refine ⟨_, rfl, _, _, rfl, .inl (SqL.of (hid_get htl3)), fun pl npl => ?_⟩
      have X5 := (Px.refl X4.pool).new (o := .lst (ts.map V.int)) npl
      have hpl : upd H3 pl (.lst (ts.map V.int)) pl = some (.lst (ts.map V.int)) := upd_same
      have htl4 := hid_get (X5.get htl3)
      have ntp : tl ≠ pl := ne_of_none (hid_get htl3) npl
      have ntlp : tl ≠ p := hid_neq htl3
      have npp : pl ≠ p := X4.pool.ne npl
      have nap : a ≠ pl := X4.pool.ne2 npl
      have P5 := X5.pool
      generalize upd H3 pl (.lst (ts.map V.int)) = H4 at *
      refine ⟨_, rfl, _, rfl, fun x dx nx nd ne => ⟨x, dx, pl, st, ts, rfl, upd_same, made_old nx nd hpl, by omega, fun hasc L H5 nL eb hW => ⟨rfl, ?_⟩, fun hbad H5 eb => ⟨true, U.hit, fun _ a na => ?_, fun q => nomatch q⟩⟩⟩
      · rw [hasc]
        have hpw3 := pw_ascB hasc
        have E5 := ExBut.made nx nd eb
        obtain ⟨dx', hob⟩ := hW.ob
        have nLpp : L ≠ p := P5.ne (made_free nL)
        have nLp : L ≠ pl := (ne_of_none hpl (made_free nL)).symm
        have hpl5 := E5 _ _ hpl
        refine ⟨_, rfl, _, rfl, iteF ⟨_, rfl, .inl ⟨rfl, _, SqL.of hpl5⟩, pl, _, .int 99, rfl, rfl, hpl5, sz_lt (by rw [List.length_map]; omega), ?_⟩⟩
        have nxp : x ≠ pl := ne_of hob hpl5 (by intro z; cases z)
        have hW6 : WaveAt C (upd H5 pl (.lst (ts.map V.int ++ [.int 99]))) x L st ts := ⟨⟨dx', by rw [upd_ne nxp]; exact hob⟩, by rw [upd_ne nLp]; exact hW.li⟩
        have htl6 : upd H5 pl (.lst (ts.map V.int ++ [.int 99])) tl = some (.lst (ts.map V.int)) := by rw [upd_ne ntp]; exact E5 _ _ htl4
        have P6 : PoolOk p a (upd H5 pl (.lst (ts.map V.int ++ [.int 99]))) := by
          obtain ⟨ns2, i2, c2, k2, s2, e1, e2, e3⟩ := P5.kept E5
          exact ⟨ns2, i2, c2, k2, s2, by rw [upd_ne npp.symm]; exact e1, by rw [hid_upd_ne npp, upd_ne nap]; exact e2, e3⟩
        generalize upd H5 pl (.lst (ts.map V.int ++ [.int 99])) = H6 at *
        obtain ⟨dx6, hob6⟩ := hW6.ob
        have hnc : (wfl st L).lookup ("changes" : Str) = none := wfl_no _ _ (by decide +kernel) (by decide +kernel)
        have hnv : (wfl st L).lookup ("value_at" : Str) = none := wfl_no _ _ (by decide +kernel) (by decide +kernel)
        clear X1 X2 X3 X4 X5 E5 hW P5
        -- the list that was handed out
        refine ⟨_, rfl, x, dx6, _, rfl, hob6, hnc, x, L, st, ts, rfl, hW6, fun l nl => ⟨.inl ⟨rfl, _, SqL.of upd_same⟩, _, rfl, l, _, .int (-99), rfl, rfl, upd_same, sz_lt (by rw [List.length_map]; omega), ?_⟩⟩
        have E7 : Ex H6 (upd (upd H6 l (.lst (ts.map V.int))) l (.lst (ts.map V.int ++ [.int (-99)]))) := (Ex.new nl).mut nl
        generalize upd (upd H6 l (.lst (ts.map V.int))) l (.lst (ts.map V.int ++ [.int (-99)])) = H7 at *
        have hW7 := hW6.ex E7
        have htl7 := E7 _ _ htl6
        have P7 := P6.kept E7
        have hob7 := E7 _ _ hob6
        clear nl
        have okI : okD 1 (.lst (ts.map D.int)) := ⟨by rw [List.length_map]; omega, fun d hd => by obtain ⟨z, _, rfl⟩ := List.mem_map.mp hd; trivial⟩
        refine ⟨fun σ H' => Ex H7 H' ∧ σ = [some (.ref sa), some (.ref p), some (.bl st), some (.ref tl), some (.bl true), x5, some (.ref pl), some (.ref x), none, none, none, none, none, none, none, none], ?_, ?_⟩
        · refine ⟨_, rfl, x, dx6, _, rfl, hob7, x, L, st, ts, rfl, hW7, _, rfl, _, _, .bl st, rfl, .bl _, .bl _, trivial, _, rfl, iteF ⟨_, rfl, x, dx6, _, rfl, hob7, hnc, x, L, st, ts, rfl, hW7, fun l nl => ⟨_, rfl, _, _, .lst (ts.map D.int), rfl, rep_ints upd_same, rep_ints ?_, okI, _, rfl, iteF ⟨Ex.new nl, rfl⟩⟩⟩⟩
          exact Ex.new nl _ _ htl7
        · rintro σ H8 ⟨E8, rfl⟩
          have hW8 := hW7.ex E8
          have htl8 := E8 _ _ htl7
          have P8 := P7.kept E8
          have hob8 := E8 _ _ hob7
          refine ⟨_, rfl, -24, 26, rfl, by decide, for_range (n := 50) (fun i σ H' => Ex H8 H' ∧ ∃ z, σ = [some (.ref sa), some (.ref p), some (.bl st), some (.ref tl), some (.bl true), x5, some (.ref pl), some (.ref x), z, none, none, none, none, none, none, none]) ⟨.refl _, _, rfl⟩ ?_ ?_⟩
          · rintro i σ H9 hi ⟨E9, z, rfl⟩
            refine ⟨_, rfl, x, dx6, _, rfl, E9 _ _ hob8, hnv, _, rfl, x, L, st, ts, _, rfl, hW8.ex E9, by omega, hpw3, _, rfl, _, rfl, (by show 2 ≤ sizeLine; decide), fun wv nwv => ⟨_, rfl, wv, tl, st, ts, _, rfl, upd_same, Ex.new nwv _ _ (E9 _ _ htl8), by omega, fun H10 E10 => ⟨_, _, .bl _, rfl, .bl _, .bl _, trivial, _, rfl, iteF ⟨E9.trans ((Ex.new nwv).trans E10), _, rfl⟩⟩⟩⟩
          · rintro σ H9 ⟨E9, z, rfl⟩
            have P9 := P8.kept E9
            have hW9 : WaveAt C (hid p H9) x L st ts := by
              have h := hW8.ex E9
              obtain ⟨dx9, e9⟩ := h.ob
              obtain ⟨_, _, _, _, _, e, _⟩ := P9
              refine ⟨⟨dx9, by rw [hid_ne (ne_of e9 e (by intro z; cases z))]; exact e9⟩, by rw [hid_ne nLpp]; exact h.li⟩
            have htl9 : hid p H9 tl = some (.lst (ts.map V.int)) := by
              rw [hid_ne ntlp]; exact E9 _ _ htl8
            refine ⟨_, rfl, p, a, 50, rfl, by decide, by decide, P9, fun u1 G1 g1 Y1 _ => ⟨_, _, rfl, rfl, _, rfl, _, rfl, p, a, 9, rfl, by decide, by decide, Y1.pool, fun u2 G2 g2 Y2 _ => ⟨_, _, rfl, rfl, _, _, rfl, rfl, _, rfl, p, a, 2, rfl, by decide, by decide, Y2.pool, fun u3 G3 g3 Y3 _ => ⟨rfl, ?_⟩⟩⟩⟩
            have Y := Y1.trans (Y2.trans Y3)
            have hW10 := (hW9.ex Y.ex).ex hid_ex
            have htl10 := Y.at_ htl9
            obtain ⟨lo, elo⟩ : ∃ lo : Int, lo = (u1 : Int) - 25 := ⟨_, rfl⟩
            dsimp only
            rw [← elo]
            obtain ⟨hi, ehi⟩ : ∃ hi : Int, hi = lo + (u2 : Int) - 1 := ⟨_, rfl⟩
            rw [← ehi]
            obtain ⟨v, ev⟩ : ∃ v : Bool, v = decide (V.int (u3 : Int) = V.int 1) := ⟨_, rfl⟩
            rw [← ev]
            -- what is shown
            refine ⟨_, rfl, _, rfl, _, _, rfl, rfl, lo, hi + 1, rfl, by omega, fun L12 nL12 => lc_range (lo := lo) (n := (hi + 1 - lo).toNat) (fun j H' => Ex G3 H' ∧ H' L12 = some (.lst (((List.range j).map fun k : Nat => wval st ts (lo + (k : Int))).map V.bl))) ⟨Ex.new nL12, upd_same⟩ ?_ ?_⟩
            · rintro j H4 hj ⟨E4, hL⟩
              refine ⟨rfl, tYes_in ?_⟩
              simp only [wipe, _root_.L2.start, List.map_cons, List.map_nil, List.length_cons, List.length_nil, Nat.reduceAdd, Nat.reduceSub, List.replicate_succ, List.replicate_zero, List.cons_append, List.nil_append, List.set_cons_zero, List.set_cons_succ]
              refine ⟨_, rfl, _, rfl, (by show 2 ≤ sizeLine; decide), fun wv nwv => ⟨_, rfl, wv, tl, st, ts, _, rfl, upd_same, Ex.new nwv _ _ (E4 _ _ htl10), by omega, fun H5 E5 => ?_⟩⟩
              have e45 := (Ex.new (o := .tup [.bl st, .ref tl]) nwv).trans E5
              refine ⟨_, e45 _ _ hL, sz_lt (by rw [List.length_map, List.length_map, List.length_range]; omega), (E4.trans e45).mut nL12, ?_⟩
              rw [upd_same, List.range_succ, List.map_append, List.map_append]; rfl
            · rintro H4 ⟨E4, hL'⟩
              have hL : H4 L12 = some (.lst ((shownL st ts lo (hi + 1 - lo).toNat).map V.bl)) := hL'
              clear hL'
              have hfacts := fun h : lo ≤ hi => shown_facts (st := st) hpw3 h v
              generalize shownL st ts lo (hi + 1 - lo).toNat = S at *
              refine ⟨_, rfl, _, rfl, L12, _, rfl, .inl (SqL.of hL), rfl, flat_map (fun _ => rfl) _, ?_⟩
              rw [if_neg Bool.false_ne_true, inV_bls]
              refine tif_by (tt := tNotV _) (fun z H' => z = .bl (!(S.contains true && S.contains false)) ∧ H' = H4) (fun Q' k => ?_) ?_
              · refine ⟨_, rfl, L12, _, rfl, .inl (SqL.of hL), rfl, flat_map (fun _ => rfl) _, ?_⟩
                rw [if_neg Bool.false_ne_true, inV_bls]
                refine ⟨_, rfl, ?_⟩
                cases h1 : S.contains true with
                | false => exact iteF ⟨_, rfl, k _ _ ⟨by rw [h1]; rfl, rfl⟩⟩
                | true =>
                  refine iteT ⟨_, rfl, L12, _, rfl, .inl (SqL.of hL), rfl, flat_map (fun _ => rfl) _, ?_⟩
                  rw [if_neg Bool.false_ne_true, inV_bls]
                  exact ⟨_, rfl, k _ _ ⟨by rw [h1]; rfl, rfl⟩⟩
              rintro _ H4 ⟨rfl, rfl⟩
              refine ⟨(by show 2 ≤ sizeLine; decide), fun dl ndl => ?_⟩
              have E5 := E4.trans (Ex.new (o := .lst [.bl (S.contains v), .bl (!(S.contains true && S.contains false))]) ndl)
              have hdl : upd H4 dl (.lst [.bl (S.contains v), .bl (!(S.contains true && S.contains false))]) dl = some (.lst [.bl (S.contains v), .bl (!(S.contains true && S.contains false))]) := upd_same
              generalize upd H4 dl (.lst [.bl (S.contains v), .bl (!(S.contains true && S.contains false))]) = H5 at *
              have hW11 := hW10.ex E5
              refine ⟨2, rfl, by decide, by decide, for_range (n := 2) (fun i σ H' => Ex H5 H' ∧ ∃ y1 y2 z : Option V, σ = [some (.ref sa), some (.ref p), some (.bl st), some (.ref tl), some (.bl true), x5, some (.ref pl), some (.ref x), z, some (.int lo), some (.int hi), some (.bl v), some (.ref L12), some (.ref dl), y1, y2]) ⟨.refl _, _, _, _, rfl⟩ ?_ ?_⟩
              · rintro i σ H6 hi6 ⟨E6, y1, y2, z, rfl⟩
                refine ⟨_, rfl, _, rfl, _, _, rfl, rfl, _, rfl, ite2 (fun c => ?_) (fun c => ?_)⟩
                · have hle := of_decide_eq_true c
                  obtain ⟨f1, f2⟩ := hfacts hle
                  have hi2 : i = 0 ∨ i = 1 := by omega
                  rcases hi2 with rfl | rfl
                  · refine ⟨_, rfl, _, rfl, _, _, _, _, rfl, rfl, SqL.of (E6 _ _ hdl), at_of (j := 0) rfl rfl, _, rfl, _, rfl, _, rfl, _, rfl, _, rfl, x, L, st, v, ts, lo, hi, _, rfl, hW11.ex E6, by omega, hpw3, fun _ => ?_, fun hlt => absurd hlt (by omega)⟩
                    rw [if_pos (by rfl), f1]
                    exact ⟨_, rfl, _, _, .bl _, rfl, .bl _, .bl _, trivial, _, rfl, iteF ⟨E6, _, _, _, rfl⟩⟩
                  · refine ⟨_, rfl, _, rfl, _, _, _, _, rfl, rfl, SqL.of (E6 _ _ hdl), at_of (j := 1) rfl rfl, _, rfl, _, rfl, _, rfl, _, rfl, _, rfl, x, L, st, v, ts, lo, hi, _, rfl, hW11.ex E6, by omega, hpw3, fun _ => ?_, fun hlt => absurd hlt (by omega)⟩
                    rw [if_neg (by decide), f2]
                    exact ⟨_, rfl, _, _, .bl _, rfl, .bl _, .bl _, trivial, _, rfl, iteF ⟨E6, _, _, _, rfl⟩⟩
                · have hgt : hi < lo := Int.not_le.mp fun z => c (decide_eq_true z)
                  refine ⟨(by show 2 ≤ sizeLine; decide), fun dt ndt => ⟨_, rfl, _, rfl, _, rfl, _, rfl, _, rfl, x, L, st, v, ts, lo, hi, _, rfl, (hW11.ex E6).ex (Ex.new ndt), by omega, hpw3, fun hle => absurd hle (by omega), fun _ t H7 E7 ht => ?_⟩⟩
                  exact ⟨_, rfl, _, _, .tup [.str "refused", .bl true], rfl, rep_told ht, rep_told (E7 _ _ upd_same), ⟨(by show 2 < 2 ^ 61; decide), fun d hd => by simp only [List.mem_cons, List.not_mem_nil, or_false] at hd; rcases hd with rfl | rfl <;> trivial⟩, _, rfl, iteF ⟨E6.trans ((Ex.new ndt).trans E7), _, _, _, rfl⟩⟩
              · rintro σ H6 ⟨E6, y1, y2, z, rfl⟩
                exact q H6
      · rw [hbad]
        exact ⟨_, rfl, _, rfl, q _⟩
end
end G
namespace G
open PySem PySem.Spec PyProof.Rows L2
/-- the defs and the built-in names as the top has left them -/
structure All (K : PySem.W.Frag) (mg : Str → Option Value) : Prop where
  d_wall : Dfd K mg "_wall" s_wall ["k"]
  d_is_ascending : Dfd K mg "is_ascending" s_is_ascending ["numbers"]
  d_count_until : Dfd K mg "count_until" s_count_until ["numbers", "limit"]
  d_look_up : Dfd K mg "look_up" s_look_up ["table", "bits"]
  d_law_same : Dfd K mg "_law_same" s_law_same ["actual", "due"]
  d_law_pool : Dfd K mg "_law_pool" s_law_pool ["script"]
  d_law_spread : Dfd K mg "_law_spread" s_law_spread ["cell"]
  d_law_draw : Dfd K mg "_law_draw" s_law_draw ["pool", "many"]
  d_law_changes : Dfd K mg "_law_changes" s_law_changes ["pool", "most", "first", "wide"]
  d_law_wave_value : Dfd K mg "_law_wave_value" s_law_wave_value ["wave", "time"]
  d_law_told : Dfd K mg "_law_told" s_law_told ["wave", "way", "value", "low", "high"]
  z_all : mg "all" = none
  z_range : mg "range" = none
  z_len : mg "len" = none
  z_sum : mg "sum" = none
  z_enumerate : mg "enumerate" = none
  z_list : mg "list" = none
  z_set : mg "set" = none
  z_sorted : mg "sorted" = none
  z_property : mg "property" = none
  z_classmethod : mg "classmethod" = none
  z_isinstance : mg "isinstance" = none
  z_tuple : mg "tuple" = none
  z_bool : mg "bool" = none
  z_int : mg "int" = none
  z_str : mg "str" = none
  z_ValueError : mg "ValueError" = none
  k_Waveform : ∃ C : Addr, Cl_Waveform K mg C
  i_BadArgument : ∃ C : Addr, ExcI K mg "BadArgument" C ∧ IsK K mg C "BadRange" false ∧ IsK K mg C "SignoffError" true
end G
namespace G
open PySem PySem.Spec PyProof.Rows L2
theorem glue {P : Program} {w : World} {K : PySem.W.Frag} {mg : Str → Option Value} {base : Heap} (A : All K mg) {f : Addr} {fd : FuncData} (F : Fun K "law" "law" s_law f fd) : FnOk P w K mg base CX0 5 f fd ["script"] (spLaw K) := by
  have TL : TxtL mg := ⟨A.z_int, A.z_len, A.z_list, A.z_range⟩
  have TS : TxtS mg := ⟨A.z_isinstance, A.z_tuple, A.z_list, A.z_len, A.z_range, A.z_bool, A.z_int, A.z_str⟩
  have TW : TxtW mg := ⟨A.z_len, A.z_all, A.z_range, A.z_list⟩
  obtain ⟨B, U, ⟨D1, g1, k1⟩, ⟨D2, g2, k2⟩⟩ := A.i_BadArgument
  obtain ⟨C, W⟩ := A.k_Waveform
  obtain ⟨fi, di, Mi, Fi, bi⟩ := W.m_init
  obtain ⟨fc, dc, Mc, Fc, bc⟩ := W.m_changes
  obtain ⟨fv, dv, Mv, Fv, bv⟩ := W.m_value_at
  obtain ⟨fs, ds, Ms, Fs, bs⟩ := W.m_shows
  obtain ⟨fy, dy, My, Fy, By⟩ := W.m_is_steady
  obtain ⟨ps, fp, dp, Ps, Fp, bp⟩ := W.p_start
  have hd := drawX (P := P) (w := w) (base := base) (ok_law_draw A.d_law_draw TL (ok_law_spread A.d_law_spread TL))
  have cu := ok_count_until (P := P) (w := w) (base := base) A.d_count_until TW
  have gy := ok_Waveform_is_steady (P := P) (w := w) (base := base) Fy W U.u cu
  have gv := ok_Waveform_value_at (P := P) (w := w) (base := base) Fv W cu
  exact fn_law F TS W U (ok_law_pool A.d_law_pool TL) hd (ok_law_changes A.d_law_changes TS hd) (ok_law_wave_value A.d_law_wave_value TS)
    (ok_law_told A.d_law_told TS W U g1 k1 g2 k2 My gy By Ms (ok_Waveform_shows Fs W My gy By Mv gv bv) bs)
    (ok_law_same A.d_law_same TS 2) Mi (ok_Waveform_init Fi W TW U.u (ok_is_ascending A.d_is_ascending TW)) bi Mc (ok_Waveform_changes Fc W TW) bc Mv gv bv Ps (ok_Waveform_start Fp W) bp
end G
namespace G
open PySem PySem.Spec PyProof.Rows L2
theorem all_mk {l : PySem.W.OpenLaw} {w : World} {K : PySem.W.Frag} {h : Heap} {mg : Str → Option Value} {fa f0 f1 f2 f3 f4 f5 f6 f7 f8 f9 f10 f11 : Addr} (X : K.In h) (G : h.Ns mainGlobals mg) (hfa : mg "law" = some (.ref fa))
    {od0 an0 od1 an1 od2 an2 od3 an3 od4 an4 od5 an5 od6 an6 od7 an7 od8 an8 od9 an9 od10 an10 od11 an11 : Option Addr} {sl0 sl1 sl2 sl3 sl4 sl5 sl6 sl7 sl8 sl9 sl10 sl11 : Array (Option Value)} {oc0 kv0 dc0 pm0 cd0 ct0 oc1 kv1 dc1 pm1 cd1 ct1 oc2 kv2 dc2 pm2 cd2 ct2 oc3 kv3 dc3 pm3 cd3 ct3 oc4 kv4 dc4 pm4 cd4 ct4 oc5 kv5 dc5 pm5 cd5 ct5 oc6 kv6 dc6 pm6 cd6 ct6 oc7 kv7 dc7 pm7 cd7 ct7 oc8 kv8 dc8 pm8 cd8 ct8 oc9 kv9 dc9 pm9 cd9 ct9 oc10 kv10 dc10 pm10 cd10 ct10 oc11 kv11 dc11 pm11 cd11 ct11 : Value}
    (a0 : PySem.W.nsIn K mainGlobals "_wall" = some (some (.ref f0))) (l0 : K.lookup f0 = some ⟨oc0, od0, .func (PySem.W.fnOf "_wall" "_wall" (defArgs s_wall) (defBody s_wall) (defScope s_wall) .none kv0 dc0 pm0 an0 cd0 ct0), sl0⟩) (c0 : PySem.W.codeIn K cd0 "_wall" = true) (k0 : PySem.W.keepIn K (.ref f0) = true)
    (a1 : PySem.W.nsIn K mainGlobals "is_ascending" = some (some (.ref f1))) (l1 : K.lookup f1 = some ⟨oc1, od1, .func (PySem.W.fnOf "is_ascending" "is_ascending" (defArgs s_is_ascending) (defBody s_is_ascending) (defScope s_is_ascending) .none kv1 dc1 pm1 an1 cd1 ct1), sl1⟩) (c1 : PySem.W.codeIn K cd1 "is_ascending" = true) (k1 : PySem.W.keepIn K (.ref f1) = true)
    (a2 : PySem.W.nsIn K mainGlobals "count_until" = some (some (.ref f2))) (l2 : K.lookup f2 = some ⟨oc2, od2, .func (PySem.W.fnOf "count_until" "count_until" (defArgs s_count_until) (defBody s_count_until) (defScope s_count_until) .none kv2 dc2 pm2 an2 cd2 ct2), sl2⟩) (c2 : PySem.W.codeIn K cd2 "count_until" = true) (k2 : PySem.W.keepIn K (.ref f2) = true)
    (a3 : PySem.W.nsIn K mainGlobals "look_up" = some (some (.ref f3))) (l3 : K.lookup f3 = some ⟨oc3, od3, .func (PySem.W.fnOf "look_up" "look_up" (defArgs s_look_up) (defBody s_look_up) (defScope s_look_up) .none kv3 dc3 pm3 an3 cd3 ct3), sl3⟩) (c3 : PySem.W.codeIn K cd3 "look_up" = true) (k3 : PySem.W.keepIn K (.ref f3) = true)
    (a4 : PySem.W.nsIn K mainGlobals "_law_same" = some (some (.ref f4))) (l4 : K.lookup f4 = some ⟨oc4, od4, .func (PySem.W.fnOf "_law_same" "_law_same" (defArgs s_law_same) (defBody s_law_same) (defScope s_law_same) .none kv4 dc4 pm4 an4 cd4 ct4), sl4⟩) (c4 : PySem.W.codeIn K cd4 "_law_same" = true) (k4 : PySem.W.keepIn K (.ref f4) = true)
    (a5 : PySem.W.nsIn K mainGlobals "_law_pool" = some (some (.ref f5))) (l5 : K.lookup f5 = some ⟨oc5, od5, .func (PySem.W.fnOf "_law_pool" "_law_pool" (defArgs s_law_pool) (defBody s_law_pool) (defScope s_law_pool) .none kv5 dc5 pm5 an5 cd5 ct5), sl5⟩) (c5 : PySem.W.codeIn K cd5 "_law_pool" = true) (k5 : PySem.W.keepIn K (.ref f5) = true)
    (a6 : PySem.W.nsIn K mainGlobals "_law_spread" = some (some (.ref f6))) (l6 : K.lookup f6 = some ⟨oc6, od6, .func (PySem.W.fnOf "_law_spread" "_law_spread" (defArgs s_law_spread) (defBody s_law_spread) (defScope s_law_spread) .none kv6 dc6 pm6 an6 cd6 ct6), sl6⟩) (c6 : PySem.W.codeIn K cd6 "_law_spread" = true) (k6 : PySem.W.keepIn K (.ref f6) = true)
    (a7 : PySem.W.nsIn K mainGlobals "_law_draw" = some (some (.ref f7))) (l7 : K.lookup f7 = some ⟨oc7, od7, .func (PySem.W.fnOf "_law_draw" "_law_draw" (defArgs s_law_draw) (defBody s_law_draw) (defScope s_law_draw) .none kv7 dc7 pm7 an7 cd7 ct7), sl7⟩) (c7 : PySem.W.codeIn K cd7 "_law_draw" = true) (k7 : PySem.W.keepIn K (.ref f7) = true)
    (a8 : PySem.W.nsIn K mainGlobals "_law_changes" = some (some (.ref f8))) (l8 : K.lookup f8 = some ⟨oc8, od8, .func (PySem.W.fnOf "_law_changes" "_law_changes" (defArgs s_law_changes) (defBody s_law_changes) (defScope s_law_changes) .none kv8 dc8 pm8 an8 cd8 ct8), sl8⟩) (c8 : PySem.W.codeIn K cd8 "_law_changes" = true) (k8 : PySem.W.keepIn K (.ref f8) = true)
    (a9 : PySem.W.nsIn K mainGlobals "_law_wave_value" = some (some (.ref f9))) (l9 : K.lookup f9 = some ⟨oc9, od9, .func (PySem.W.fnOf "_law_wave_value" "_law_wave_value" (defArgs s_law_wave_value) (defBody s_law_wave_value) (defScope s_law_wave_value) .none kv9 dc9 pm9 an9 cd9 ct9), sl9⟩) (c9 : PySem.W.codeIn K cd9 "_law_wave_value" = true) (k9 : PySem.W.keepIn K (.ref f9) = true)
    (a10 : PySem.W.nsIn K mainGlobals "_law_told" = some (some (.ref f10))) (l10 : K.lookup f10 = some ⟨oc10, od10, .func (PySem.W.fnOf "_law_told" "_law_told" (defArgs s_law_told) (defBody s_law_told) (defScope s_law_told) .none kv10 dc10 pm10 an10 cd10 ct10), sl10⟩) (c10 : PySem.W.codeIn K cd10 "_law_told" = true) (k10 : PySem.W.keepIn K (.ref f10) = true)
    (a11 : PySem.W.nsIn K mainGlobals "law" = some (some (.ref f11))) (l11 : K.lookup f11 = some ⟨oc11, od11, .func (PySem.W.fnOf "law" "law" (defArgs s_law) (defBody s_law) (defScope s_law) .none kv11 dc11 pm11 an11 cd11 ct11), sl11⟩) (c11 : PySem.W.codeIn K cd11 "law" = true) (k11 : PySem.W.keepIn K (.ref f11) = true)
    {iC0 iD0_0 iD0_1 : Addr} (w0_0 : PySem.W.nsIn K mainGlobals "BadArgument" = some (some (.ref iC0))) (w0_1 : PySem.W.excIn K iC0 [.type "ValueError", .type "Exception", .type "BaseException", .type "object"] "ValueError.__new__" = true) (w0_2 : PySem.W.keepIn K (.ref iC0) = true) (w0_3 : PySem.W.subIn K (.ref iC0) (.type "BaseException") = some true) (w0_4 : PySem.W.typeIn K (.ref iC0) = some (.type "type")) (w0_5 : PySem.W.hasDictIn K iC0 = true) (w0_6 : PySem.W.subIn K (.ref iC0) (.ref iC0) = some true) (w0_7 : PySem.W.findIn K (.ref iC0) "__getattribute__" = some (some (.builtin "BaseException.__getattribute__"))) (w0_8 : PySem.W.findIn K (.ref iC0) "__getattr__" = some none) (w0_9 : PySem.W.findIn K (.ref iC0) "__class__" = some (some (.builtin "object.__class__"))) (w0_10 : PySem.W.specialIn K (.builtin "object.__class__") "__get__" = some (some (.builtin "getset_descriptor.__get__"))) (w0_11 : PySem.W.takesIn K (.builtin "object.__class__") = some true) (w0_12 : PySem.W.mroIn K iC0 (.type "object") = some true) (w0_13 : PySem.W.nsIn K mainGlobals "BadRange" = some (some (.ref iD0_0))) (w0_14 : PySem.W.kitOne K (.ref iC0) (.ref iD0_0) = some false) (w0_15 : PySem.W.nsIn K mainGlobals "SignoffError" = some (some (.ref iD0_1))) (w0_16 : PySem.W.kitOne K (.ref iC0) (.ref iD0_1) = some true)
    {yC0 : Addr} {f0m0 : Addr} {od0m0 an0m0 : Option Addr} {sl0m0 : Array (Option Value)} {oc0m0 kv0m0 dc0m0 pm0m0 cd0m0 ct0m0 : Value} {f0m1 : Addr} {od0m1 an0m1 : Option Addr} {sl0m1 : Array (Option Value)} {oc0m1 kv0m1 dc0m1 pm0m1 cd0m1 ct0m1 : Value} {f0m2 : Addr} {od0m2 an0m2 : Option Addr} {sl0m2 : Array (Option Value)} {oc0m2 kv0m2 dc0m2 pm0m2 cd0m2 ct0m2 : Value} {f0m3 : Addr} {od0m3 an0m3 : Option Addr} {sl0m3 : Array (Option Value)} {oc0m3 kv0m3 dc0m3 pm0m3 cd0m3 ct0m3 : Value} {f0m4 : Addr} {od0m4 an0m4 : Option Addr} {sl0m4 : Array (Option Value)} {oc0m4 kv0m4 dc0m4 pm0m4 cd0m4 ct0m4 : Value} {f0p0 : Addr} {od0p0 an0p0 : Option Addr} {sl0p0 : Array (Option Value)} {oc0p0 kv0p0 dc0p0 pm0p0 cd0p0 ct0p0 : Value} {p0p0 : Addr} {rs0p0 : List Value}
    (y0_0 : PySem.W.nsIn K mainGlobals "Waveform" = some (some (.ref yC0))) (y0_4 : PySem.W.findIn K (.ref yC0) "__setattr__" = some (some (.builtin "object.__setattr__"))) (y0_10 : PySem.W.findIn K (.ref yC0) "__init__" = some (some (.ref f0m0))) (y0_15 : PySem.W.findIn K (.ref yC0) "changes" = some (some (.ref f0m1))) (y0_20 : PySem.W.findIn K (.ref yC0) "value_at" = some (some (.ref f0m2))) (y0_25 : PySem.W.findIn K (.ref yC0) "shows" = some (some (.ref f0m3))) (y0_30 : PySem.W.findIn K (.ref yC0) "is_steady" = some (some (.ref f0m4))) (y0_35 : PySem.W.findIn K (.ref yC0) "start" = some (some (.ref p0p0))) (y0_39 : PySem.W.findIn K (.ref yC0) "_start" = some none) (y0_40 : PySem.W.findIn K (.ref yC0) "_changes" = some none) (y0_38 : PySem.W.recIn K p0p0 "property" = some (.ref f0p0 :: rs0p0)) (y0_1 : PySem.W.plainGet K yC0 Str.empty = true) (y0_2 : PySem.W.hasDictIn K yC0 = true) (y0_3 : PySem.W.plainOver K yC0 = true) (y0_5 : PySem.W.makesIn K yC0 = true) (y0_6 : PySem.W.keepIn K (.ref yC0) = true) (y0_7 : K.lookup f0m0 = some ⟨oc0m0, od0m0, .func (PySem.W.fnOf "__init__" "Waveform.__init__" (defArgs s_Waveform_init) (defBody s_Waveform_init) (defScope s_Waveform_init) .none kv0m0 dc0m0 pm0m0 an0m0 cd0m0 ct0m0), sl0m0⟩) (y0_8 : PySem.W.codeIn K cd0m0 "Waveform.__init__" = true) (y0_9 : PySem.W.keepIn K (.ref f0m0) = true) (y0_11 : PySem.W.isFn K (.ref f0m0) = true) (y0_12 : K.lookup f0m1 = some ⟨oc0m1, od0m1, .func (PySem.W.fnOf "changes" "Waveform.changes" (defArgs s_Waveform_changes) (defBody s_Waveform_changes) (defScope s_Waveform_changes) .none kv0m1 dc0m1 pm0m1 an0m1 cd0m1 ct0m1), sl0m1⟩) (y0_13 : PySem.W.codeIn K cd0m1 "Waveform.changes" = true) (y0_14 : PySem.W.keepIn K (.ref f0m1) = true) (y0_16 : PySem.W.isFn K (.ref f0m1) = true) (y0_17 : K.lookup f0m2 = some ⟨oc0m2, od0m2, .func (PySem.W.fnOf "value_at" "Waveform.value_at" (defArgs s_Waveform_value_at) (defBody s_Waveform_value_at) (defScope s_Waveform_value_at) .none kv0m2 dc0m2 pm0m2 an0m2 cd0m2 ct0m2), sl0m2⟩) (y0_18 : PySem.W.codeIn K cd0m2 "Waveform.value_at" = true) (y0_19 : PySem.W.keepIn K (.ref f0m2) = true) (y0_21 : PySem.W.isFn K (.ref f0m2) = true) (y0_22 : K.lookup f0m3 = some ⟨oc0m3, od0m3, .func (PySem.W.fnOf "shows" "Waveform.shows" (defArgs s_Waveform_shows) (defBody s_Waveform_shows) (defScope s_Waveform_shows) .none kv0m3 dc0m3 pm0m3 an0m3 cd0m3 ct0m3), sl0m3⟩) (y0_23 : PySem.W.codeIn K cd0m3 "Waveform.shows" = true) (y0_24 : PySem.W.keepIn K (.ref f0m3) = true) (y0_26 : PySem.W.isFn K (.ref f0m3) = true) (y0_27 : K.lookup f0m4 = some ⟨oc0m4, od0m4, .func (PySem.W.fnOf "is_steady" "Waveform.is_steady" (defArgs s_Waveform_is_steady) (defBody s_Waveform_is_steady) (defScope s_Waveform_is_steady) .none kv0m4 dc0m4 pm0m4 an0m4 cd0m4 ct0m4), sl0m4⟩) (y0_28 : PySem.W.codeIn K cd0m4 "Waveform.is_steady" = true) (y0_29 : PySem.W.keepIn K (.ref f0m4) = true) (y0_31 : PySem.W.isFn K (.ref f0m4) = true) (y0_32 : K.lookup f0p0 = some ⟨oc0p0, od0p0, .func (PySem.W.fnOf "start" "Waveform.start" (defArgs s_Waveform_start) (defBody s_Waveform_start) (defScope s_Waveform_start) .none kv0p0 dc0p0 pm0p0 an0p0 cd0p0 ct0p0), sl0p0⟩) (y0_33 : PySem.W.codeIn K cd0p0 "Waveform.start" = true) (y0_34 : PySem.W.keepIn K (.ref f0p0) = true) (y0_36 : PySem.W.specialIn K (.ref p0p0) "__get__" = some (some (.builtin "property.__get__"))) (y0_37 : PySem.W.takesIn K (.ref p0p0) = some true)
    (z0 : PySem.W.nsIn K mainGlobals "all" = some none) (z1 : PySem.W.nsIn K mainGlobals "range" = some none) (z2 : PySem.W.nsIn K mainGlobals "len" = some none) (z3 : PySem.W.nsIn K mainGlobals "sum" = some none) (z4 : PySem.W.nsIn K mainGlobals "enumerate" = some none) (z5 : PySem.W.nsIn K mainGlobals "list" = some none) (z6 : PySem.W.nsIn K mainGlobals "set" = some none) (z7 : PySem.W.nsIn K mainGlobals "sorted" = some none) (z8 : PySem.W.nsIn K mainGlobals "property" = some none) (z9 : PySem.W.nsIn K mainGlobals "classmethod" = some none) (z10 : PySem.W.nsIn K mainGlobals "isinstance" = some none) (z11 : PySem.W.nsIn K mainGlobals "tuple" = some none) (z12 : PySem.W.nsIn K mainGlobals "bool" = some none) (z13 : PySem.W.nsIn K mainGlobals "int" = some none) (z14 : PySem.W.nsIn K mainGlobals "str" = some none) (z15 : PySem.W.nsIn K mainGlobals "ValueError" = some none) :
    ∃ fd : FuncData, (∀ (s : Shared) (v : Value), BindsTo s fd ⟨[v], []⟩ [("script", v)]) ∧ ∀ base : Heap, K.In base → base.Ns mainGlobals mg → FnOk l.prog w K mg base CX0 5 fa fd ["script"] (spLaw K) := by
  have e := hfa.symm.trans (PySem.W.mg_of X G a11)
  cases e
  have F0 := fun_mk (st := s_wall) l0 c0 k0
  have F1 := fun_mk (st := s_is_ascending) l1 c1 k1
  have F2 := fun_mk (st := s_count_until) l2 c2 k2
  have F3 := fun_mk (st := s_look_up) l3 c3 k3
  have F4 := fun_mk (st := s_law_same) l4 c4 k4
  have F5 := fun_mk (st := s_law_pool) l5 c5 k5
  have F6 := fun_mk (st := s_law_spread) l6 c6 k6
  have F7 := fun_mk (st := s_law_draw) l7 c7 k7
  have F8 := fun_mk (st := s_law_changes) l8 c8 k8
  have F9 := fun_mk (st := s_law_wave_value) l9 c9 k9
  have F10 := fun_mk (st := s_law_told) l10 c10 k10
  have F11 := fun_mk (st := s_law) l11 c11 k11
  have A : All K mg := ⟨⟨f0, _, F0, PySem.W.mg_of X G a0, F0.binds (ps := ["k"]) fun _ _ _ _ _ _ us hl => match us, hl with | [_], _ => rfl⟩,
    ⟨f1, _, F1, PySem.W.mg_of X G a1, F1.binds (ps := ["numbers"]) fun _ _ _ _ _ _ us hl => match us, hl with | [_], _ => rfl⟩,
    ⟨f2, _, F2, PySem.W.mg_of X G a2, F2.binds (ps := ["numbers", "limit"]) fun _ _ _ _ _ _ us hl => match us, hl with | [_, _], _ => rfl⟩,
    ⟨f3, _, F3, PySem.W.mg_of X G a3, F3.binds (ps := ["table", "bits"]) fun _ _ _ _ _ _ us hl => match us, hl with | [_, _], _ => rfl⟩,
    ⟨f4, _, F4, PySem.W.mg_of X G a4, F4.binds (ps := ["actual", "due"]) fun _ _ _ _ _ _ us hl => match us, hl with | [_, _], _ => rfl⟩,
    ⟨f5, _, F5, PySem.W.mg_of X G a5, F5.binds (ps := ["script"]) fun _ _ _ _ _ _ us hl => match us, hl with | [_], _ => rfl⟩,
    ⟨f6, _, F6, PySem.W.mg_of X G a6, F6.binds (ps := ["cell"]) fun _ _ _ _ _ _ us hl => match us, hl with | [_], _ => rfl⟩,
    ⟨f7, _, F7, PySem.W.mg_of X G a7, F7.binds (ps := ["pool", "many"]) fun _ _ _ _ _ _ us hl => match us, hl with | [_, _], _ => rfl⟩,
    ⟨f8, _, F8, PySem.W.mg_of X G a8, F8.binds (ps := ["pool", "most", "first", "wide"]) fun _ _ _ _ _ _ us hl => match us, hl with | [_, _, _, _], _ => rfl⟩,
    ⟨f9, _, F9, PySem.W.mg_of X G a9, F9.binds (ps := ["wave", "time"]) fun _ _ _ _ _ _ us hl => match us, hl with | [_, _], _ => rfl⟩,
    ⟨f10, _, F10, PySem.W.mg_of X G a10, F10.binds (ps := ["wave", "way", "value", "low", "high"]) fun _ _ _ _ _ _ us hl => match us, hl with | [_, _, _, _, _], _ => rfl⟩,
    PySem.W.mg_none_of X G z0,
    PySem.W.mg_none_of X G z1,
    PySem.W.mg_none_of X G z2,
    PySem.W.mg_none_of X G z3,
    PySem.W.mg_none_of X G z4,
    PySem.W.mg_none_of X G z5,
    PySem.W.mg_none_of X G z6,
    PySem.W.mg_none_of X G z7,
    PySem.W.mg_none_of X G z8,
    PySem.W.mg_none_of X G z9,
    PySem.W.mg_none_of X G z10,
    PySem.W.mg_none_of X G z11,
    PySem.W.mg_none_of X G z12,
    PySem.W.mg_none_of X G z13,
    PySem.W.mg_none_of X G z14,
    PySem.W.mg_none_of X G z15,
    ⟨yC0, ⟨PySem.W.mg_of X G y0_0, ⟨y0_1, y0_2, y0_3, y0_4⟩, ⟨f0m0, _, ⟨y0_5, y0_10, y0_11, y0_6⟩, (fun_mk (st := s_Waveform_init) y0_7 y0_8 y0_9), (fun_mk (st := s_Waveform_init) y0_7 y0_8 y0_9).binds (ps := ["self", "start", "changes"]) fun _ _ _ _ _ _ us hl => match us, hl with | [_, _, _], _ => rfl⟩, ⟨f0m1, _, ⟨y0_15, y0_16, y0_14⟩, (fun_mk (st := s_Waveform_changes) y0_12 y0_13 y0_14), (fun_mk (st := s_Waveform_changes) y0_12 y0_13 y0_14).binds (ps := ["self"]) fun _ _ _ _ _ _ us hl => match us, hl with | [_], _ => rfl⟩, ⟨f0m2, _, ⟨y0_20, y0_21, y0_19⟩, (fun_mk (st := s_Waveform_value_at) y0_17 y0_18 y0_19), (fun_mk (st := s_Waveform_value_at) y0_17 y0_18 y0_19).binds (ps := ["self", "time"]) fun _ _ _ _ _ _ us hl => match us, hl with | [_, _], _ => rfl⟩, ⟨f0m3, _, ⟨y0_25, y0_26, y0_24⟩, (fun_mk (st := s_Waveform_shows) y0_22 y0_23 y0_24), (fun_mk (st := s_Waveform_shows) y0_22 y0_23 y0_24).binds (ps := ["self", "value", "low", "high"]) fun _ _ _ _ _ _ us hl => match us, hl with | [_, _, _, _], _ => rfl⟩, ⟨f0m4, _, ⟨y0_30, y0_31, y0_29⟩, (fun_mk (st := s_Waveform_is_steady) y0_27 y0_28 y0_29), (fun_mk (st := s_Waveform_is_steady) y0_27 y0_28 y0_29).binds (ps := ["self", "low", "high"]) fun _ _ _ _ _ _ us hl => match us, hl with | [_, _, _], _ => rfl⟩, ⟨p0p0, f0p0, _, ⟨y0_35, y0_36, y0_37, _, y0_38⟩, (fun_mk (st := s_Waveform_start) y0_32 y0_33 y0_34), (fun_mk (st := s_Waveform_start) y0_32 y0_33 y0_34).binds (ps := ["self"]) fun _ _ _ _ _ _ us hl => match us, hl with | [_], _ => rfl⟩, y0_39, y0_40⟩⟩,
    ⟨iC0, ⟨⟨PySem.W.mg_of X G w0_0, w0_1, w0_2, w0_3, w0_4⟩, w0_5, w0_6, ⟨w0_7, w0_8, w0_3, w0_5, w0_9, w0_10, w0_11, w0_12⟩⟩, ⟨iD0_0, PySem.W.mg_of X G w0_13, w0_14⟩, ⟨iD0_1, PySem.W.mg_of X G w0_15, w0_16⟩⟩⟩
  exact ⟨_, fun s v => .of_eq rfl, fun base _ _ => glue A F11⟩
end G
open PySem PySem.W PyProof.Rows
set_option maxRecDepth 100000 in
set_option maxHeartbeats 0 in
theorem PySem.Challenge.cw_signoff_k35_waveforms_holds : PySem.Challenge.rw_signoff_k35_waveforms.Holds := by
  w_on; o_law; k_head; (case hw => w_witness2)
  k_fill
  refine L2.walk_of (l := PySem.Challenge.rw_signoff_k35_waveforms) (n := 63) (k := 5) (x := "script") (CX := fun _ => L2.CX0) (sp := fun w => G.spLaw _) rfl (by decide) rfl ⟨rfl, by decide, by decide⟩ (fun w h Y => PySem.W.kIn_of Y) ?F (fun _ _ a ns hl _ hS => ⟨a, ns, rfl, hS, hl, fun _ => rfl⟩) (fun _ _ _ _ _ h => h)
  case F =>
    intro w mg fa h KX GN hmg
    refine' G.all_mk KX GN hmg ?a0 ?l0 ?c0 ?k0 ?a1 ?l1 ?c1 ?k1 ?a2 ?l2 ?c2 ?k2 ?a3 ?l3 ?c3 ?k3 ?a4 ?l4 ?c4 ?k4 ?a5 ?l5 ?c5 ?k5 ?a6 ?l6 ?c6 ?k6 ?a7 ?l7 ?c7 ?k7 ?a8 ?l8 ?c8 ?k8 ?a9 ?l9 ?c9 ?k9 ?a10 ?l10 ?c10 ?k10 ?a11 ?l11 ?c11 ?k11 ?xw0_0 ?xw0_1 ?xw0_2 ?xw0_3 ?xw0_4 ?xw0_5 ?xw0_6 ?xw0_7 ?xw0_8 ?xw0_9 ?xw0_10 ?xw0_11 ?xw0_12 ?xw0_13 ?xw0_14 ?xw0_15 ?xw0_16 ?vy0_0 ?vy0_4 ?vy0_10 ?vy0_15 ?vy0_20 ?vy0_25 ?vy0_30 ?vy0_35 ?vy0_39 ?vy0_40 ?vy0_38 ?vy0_1 ?vy0_2 ?vy0_3 ?vy0_5 ?vy0_6 ?vy0_7 ?vy0_8 ?vy0_9 ?vy0_11 ?vy0_12 ?vy0_13 ?vy0_14 ?vy0_16 ?vy0_17 ?vy0_18 ?vy0_19 ?vy0_21 ?vy0_22 ?vy0_23 ?vy0_24 ?vy0_26 ?vy0_27 ?vy0_28 ?vy0_29 ?vy0_31 ?vy0_32 ?vy0_33 ?vy0_34 ?vy0_36 ?vy0_37 ?z0 ?z1 ?z2 ?z3 ?z4 ?z5 ?z6 ?z7 ?z8 ?z9 ?z10 ?z11 ?z12 ?z13 ?z14 ?z15
    (case a0 => k_is)
    (case l0 => k_is)
    (case c0 => k_is)
    (case k0 => k_is)
    (case a1 => k_is)
    (case l1 => k_is)
    (case c1 => k_is)
    (case k1 => k_is)
    (case a2 => k_is)
    (case l2 => k_is)
    (case c2 => k_is)
    (case k2 => k_is)
    (case a3 => k_is)
    (case l3 => k_is)
    (case c3 => k_is)
    (case k3 => k_is)
    (case a4 => k_is)
    (case l4 => k_is)
    (case c4 => k_is)
    (case k4 => k_is)
    (case a5 => k_is)
    (case l5 => k_is)
    (case c5 => k_is)
    (case k5 => k_is)
    (case a6 => k_is)
    (case l6 => k_is)
    (case c6 => k_is)
    (case k6 => k_is)
    (case a7 => k_is)
    (case l7 => k_is)
    (case c7 => k_is)
    (case k7 => k_is)
    (case a8 => k_is)
    (case l8 => k_is)
    (case c8 => k_is)
    (case k8 => k_is)
    (case a9 => k_is)
    (case l9 => k_is)
    (case c9 => k_is)
    (case k9 => k_is)
    (case a10 => k_is)
    (case l10 => k_is)
    (case c10 => k_is)
    (case k10 => k_is)
    (case a11 => k_is)
    (case l11 => k_is)
    (case c11 => k_is)
    (case k11 => k_is)
    (case xw0_0 => first | k_exc | k_is | rfl)
    (case xw0_1 => first | k_exc | k_is | rfl)
    (case xw0_2 => first | k_exc | k_is | rfl)
    (case xw0_3 => first | k_exc | k_is | rfl)
    (case xw0_4 => first | k_exc | k_is | rfl)
    (case xw0_5 => first | k_exc | k_is | rfl)
    (case xw0_6 => first | k_exc | k_is | rfl)
    (case xw0_7 => first | k_exc | k_is | rfl)
    (case xw0_8 => first | k_exc | k_is | rfl)
    (case xw0_9 => first | k_exc | k_is | rfl)
    (case xw0_10 => first | k_exc | k_is | rfl)
    (case xw0_11 => first | k_exc | k_is | rfl)
    (case xw0_12 => first | k_exc | k_is | rfl)
    (case xw0_13 => first | k_exc | k_is | rfl)
    (case xw0_14 => first | k_exc | k_is | rfl)
    (case xw0_15 => first | k_exc | k_is | rfl)
    (case xw0_16 => first | k_exc | k_is | rfl)
    (case vy0_0 => k_is)
    (case vy0_4 => k_is)
    (case vy0_10 => k_is)
    (case vy0_15 => k_is)
    (case vy0_20 => k_is)
    (case vy0_25 => k_is)
    (case vy0_30 => k_is)
    (case vy0_35 => k_is)
    (case vy0_39 => k_is)
    (case vy0_40 => k_is)
    (case vy0_38 => k_is)
    (case vy0_1 => k_is)
    (case vy0_2 => k_is)
    (case vy0_3 => k_is)
    (case vy0_5 => k_is)
    (case vy0_6 => k_is)
    (case vy0_7 => k_is)
    (case vy0_8 => k_is)
    (case vy0_9 => k_is)
    (case vy0_11 => k_is)
    (case vy0_12 => k_is)
    (case vy0_13 => k_is)
    (case vy0_14 => k_is)
    (case vy0_16 => k_is)
    (case vy0_17 => k_is)
    (case vy0_18 => k_is)
    (case vy0_19 => k_is)
    (case vy0_21 => k_is)
    (case vy0_22 => k_is)
    (case vy0_23 => k_is)
    (case vy0_24 => k_is)
    (case vy0_26 => k_is)
    (case vy0_27 => k_is)
    (case vy0_28 => k_is)
    (case vy0_29 => k_is)
    (case vy0_31 => k_is)
    (case vy0_32 => k_is)
    (case vy0_33 => k_is)
    (case vy0_34 => k_is)
    (case vy0_36 => k_is)
    (case vy0_37 => k_is)
    (case z0 => k_is)
    (case z1 => k_is)
    (case z2 => k_is)
    (case z3 => k_is)
    (case z4 => k_is)
    (case z5 => k_is)
    (case z6 => k_is)
    (case z7 => k_is)
    (case z8 => k_is)
    (case z9 => k_is)
    (case z10 => k_is)
    (case z11 => k_is)
    (case z12 => k_is)
    (case z13 => k_is)
    (case z14 => k_is)
    (case z15 => k_is)
#print axioms PySem.Challenge.cw_signoff_k35_waveforms_holds
